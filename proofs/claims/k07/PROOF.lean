import PyProof.Rows.All
import Wide.All
import OpenK.AllK
import Wide.FinOn
import KE.KTypeName
import HandS.ForMost
import HandS.ForExc
import HandS.ExcInit
import HandS.ExcIs
import HandS.ExcField
import HandS.IsInst
import HandS.HotCalls
import HandS.Codes
import HandS.StrMore
import HandS.TupAny
import HandS.Walk
import HandS.TupSets
import HandS.DictTup
import HandS.FStr
import KE.KExcIs
import HandS.SortKw
import KE.KSortTupG
import HandS.Conv
import HandS.More
import HandS.Wide
import HandS.Evl
import HandS.CallSlots
import HandS.Zip
import HandS.Star
import KE.DatumOrd
import HandS.SortInts
import HandS.Style
import KE.KTurns
import PyProof.EnumIter
import PyProof.ListIndex
import HandS.DictComp
import HandS.Gcd
import KE.KMathGC
import HandS.Flow
import HandS.SetFor
import HandS.Defaults
import PyProof.EqAt
import PyProof.EqKinds
import PyProof.TupleCall
import PySem.Challenge.RW_owntables_k07_flip
set_option Elab.async false
set_option linter.all false
set_option maxRecDepth 100000
set_option maxHeartbeats 2000000
/-! Own errors of the package: word, index, made and told. -/
namespace PySem.W
open PySem PySem.Calls PyProof.Rows Builtin Builtin.ObjectAttr Builtin.Getset_descriptor
section
variable {prog : Program} {w : World} {A : Around} {E : Value → Shared → Prop} {s : Shared} {K : Frag} {x D : Addr} {ox : Obj}
/-- what a class says of the attribute «class» of its instances -/
structure OtCls (K : Frag) (D : Addr) : Prop where
  hga : findIn K (.ref D) "__getattribute__" = some (some (.builtin "BaseException.__getattribute__"))
  hgt : findIn K (.ref D) "__getattr__" = some none
  hsub : subIn K (.ref D) (.type "BaseException") = some true
  hdct : hasDictIn K D = true
  ha : findIn K (.ref D) "__class__" = some (some (.builtin "object.__class__"))
  hn : specialIn K (.builtin "object.__class__") "__get__" = some (some (.builtin "getset_descriptor.__get__"))
  htk : takesIn K (.builtin "object.__class__") = some true
  hm : mroIn K D (.type "object") = some true
theorem ot_class {expr : Bool} {Q : Value → Shared → Prop} (T : OtCls K D) (X : K.In s.heap) (I : InstAt s.heap x ox D none)
    (h : Q (.ref D) { s with toks := s.toks + 1 }) : wpAny (model prog w) A (getAttr (.ref x) "__class__" expr) Q E s := by
  obtain ⟨hga, hgt, hsub, hdct, ha, hn, htk, hm⟩ := T
  have found : findObj K D none "__class__" = some (.bind (.builtin "getset_descriptor.__get__") (.builtin "object.__class__")) :=
    findObj_dataN (by obtain ⟨cd, q, _⟩ := any_some hdct; rw [q]; rfl) ha hn htk
  obtain ⟨hp, gens, dr, tk, os⟩ := s
  have ty := I.type (M := model prog w)
  have l1 := looks_findIn (M := model prog w) X hga
  have l2 := looks_findIn (M := model prog w) X hgt
  have l3 := looks_find (M := model prog w) X I found
  have isx : Looks (model prog w) hp (isInstance (.ref x) (.type "BaseException")) true := ty.andThen (looks_subIn X hsub)
  have e0 : (Value.builtin "BaseException.__getattribute__" == Value.builtin "object.__getattribute__") = false := by decide +kernel
  unfold getAttr getAttrBy
  apply wpAny_bind; apply wpAny_mkText; apply wpAny_holding
  apply wpAny_bind; apply ty.at
  apply wpAny_bind; apply l1.at
  show wpAny _ _ (if (onTheHeap (Value.ref D) && _) = true then _ else _) _ _ _
  rw [e0, Bool.and_false, if_neg Bool.false_ne_true]
  unfold getAttrByItsOwn hookBefore
  apply wpAny_bind
  rw [if_pos (show onTheHeap (Value.ref D) = true from rfl)]
  apply l2.at
  apply wpAny_bind; apply wpAny_attempt; apply wpAny_holding
  unfold callGetattribute
  rw [(by cases expr <;> rfl : (expr && onTheHeap (Value.builtin "BaseException.__getattribute__")) = false), if_neg Bool.false_ne_true]
  unfold boundAndCalled
  rw [PySem.F.excAttr_ValueError.ga.bind (.ref x)]
  apply wpAny_bind; apply wpAny_pure
  show wpAny _ _ (call (.builtin "BaseException.__getattribute__") [.ref x, .str "__class__" tk]) _ _ _
  apply wpAny_call
  apply codeAny_call_builtin PySem.F.excAttr_ValueError.ga.plain PySem.F.entry_bexc_ga
  apply @check_slot (model prog w) _ _ ⟨hp, gens, dr, tk + 1, os⟩ "BaseException.__getattribute__" "BaseException" "__getattribute__" (.ref x) [.str "__class__" tk] [] _ (by decide +kernel) (by decide +kernel) isx (PySem.F.args_bexc_ga (.ref x) (.str "__class__" tk))
  unfold Builtin.«object.__getattribute__»
  refine wpAny_bind (wpAny_of_eq (a := ((Value.ref x : Value), [Value.str "__class__" tk])) (by first | rfl | (simp only [slotArgs]; rfl)) ?_)
  apply wpAny_bind; apply wpAny_pure
  apply wpAny_bind; apply ty.at
  apply wpAny_bind; apply l3.at
  show wpAny _ _ (holding [Value.builtin "object.__class__"] (call _ [.builtin "object.__class__", .ref x, .ref D]) >>= ret) _ _ _
  apply wpAny_bind; apply wpAny_holding; apply wpAny_call
  refine class_get (s := ⟨hp, gens, dr, tk + 1, os⟩) (ox := ox) (od := none) X I hm ?_
  apply wpAny_pure
  show wpAny _ _ (handedOut (.ref D)) _ _ _
  rw [handedOut_of (v := .ref D) rfl]
  exact wpAny_pure h
/-- the written part's class at C keeps its name nm -/
structure OtName (K : Frag) (C : Addr) (nm : Str) : Prop where
  keeps : ∃ (c : Value) (dd : Option Addr) (dat : Data) (sl : Array (Option Value)) (tk : Tok), K.lookup C = some ⟨c, dd, dat, sl⟩ ∧ sl[2]? = some (some (.str nm tk))
  reads : readsIn K C (.type "type") = true
  ty : typeIn K (.ref C) = some (.type "type")
  found : findCls K (.ref C) (.type "type") "__name__" = some (.get (.builtin "getset_descriptor.__get__") (.builtin "type.__name__") (.ref C) (.type "type"))
theorem ot_dga (d tp : Value) (C : Addr) : descrGetArgs ⟨[d, .ref C, tp], []⟩ = pure (d, some (.ref C), given tp) := by kernel_rfl
theorem ot_name {expr : Bool} {nm : Str} {Q : Value → Shared → Prop} (T : OtName K D nm) (X : K.In s.heap)
    (h : ∀ tk u, Q (.str nm tk) { s with toks := u }) : wpAny (model prog w) A (getAttr (.ref D) "__name__" expr) Q E s := by
  obtain ⟨⟨c, dd, dat, sl, tk, hk, hsl⟩, hr, ty, hf⟩ := T
  refine cls_bind X hr hf ?_
  obtain ⟨hp, gens, dr, tks, os⟩ := s
  have t0 : Looks (model prog w) hp (typeOf (.ref D)) (.type "type") := looks_typeIn X ty
  have t1 : Looks (model prog w) hp (isSubtype (.type "type") (.type "type")) true := Looks.of_pure (by rw [isSubtype_type]; kernel_rfl)
  refine wpAny_call (codeAny_call_builtin KF.slot_gs.plain KF.entry_gs (KF.slot_gs.check _ _ _ _ _ _ _ _ ktyn_type (KF.args_gs _ _ _) ?_))
  unfold Builtin.«getset_descriptor.__get__» descrGet
  rw [ot_dga]
  apply wpAny_bind
  apply wpAny_pure
  unfold descrGetter descrCheckInstance descrNameAndClass isInstance
  simp only [ktyn_owner]
  repeat lk
  refine ⟨Code.quiet_builtin _ (by decide +kernel), codeAny_builtin ktyn_entry ?_⟩
  unfold Builtin.«type.__name__» keptObject slotAt
  dsimp only
  refine wpAny_bind (wpAny_bind (wpAny_loadPart (X _ _ hk) (wpAny_pure ?_)))
  dsimp only
  rw [hsl]
  exact wpAny_pure (handed_on rfl (h _ _))
end
end PySem.W
namespace L2
open PySem PySem.Spec PyProof.Rows
/-! ### an exception's own __init__ -/
section
variable {X : Cx} {pos p1 p2 : Pos} {e : Expr} {es : List Expr} {te : TE} {ta : TA}
/-- e.__class__.__name__, e an exception that is being made, without a field so far -/
def tOtName (K : PySem.W.Frag) (te : TE) : TE := fun σ H Q => te σ H fun x H1 => ∃ (a C : Addr) (nm : Str), x = .ref a ∧ H1 a = some (exo a C none) ∧ PySem.W.OtCls K C ∧ PySem.W.OtName K C nm ∧ Q (.str nm) H1
theorem pe_otname (he : PE X e te) (hb : attributeBase e "__class__" X.env (eval e X.env) = eval e X.env := by rfl)
    (hb2 : attributeBase (.Attribute e "__class__" p1) "__name__" X.env (eval (.Attribute e "__class__" p1) X.env) = eval (.Attribute e "__class__" p1) X.env := by rfl) :
    PE X (.Attribute (.Attribute e "__class__" p1) "__name__" pos) (tOtName X.K te) := by
  refine ⟨fun pins s σ H Q I h => ?_⟩
  refine attr_of hb2 (attr_of hb (thn (he.run pins s σ H _ I h) fun u s1 hh => ?_))
  obtain ⟨x, H1, I1, rx, a, C, nm, ex, ea, tc, tn, q⟩ := hh
  subst ex
  obtain rfl : u = Value.ref a := rx
  obtain ⟨t1, ho⟩ := exo_at I1.hok ea
  have J : PySem.W.InstAt s1.heap a _ C none := ⟨ho, rfl, rfl, True.intro⟩
  refine PySem.W.ot_class tc I1.kIn J ?_
  refine PySem.W.ot_name tn I1.kIn fun tk u => ?_
  exact ⟨.str nm, H1, I1.tok u, ⟨tk, rfl⟩, q⟩
/-- a class of the text, its attributes read by the type's own way -/
structure OtRead (K : PySem.W.Frag) (C : Addr) (m : Str) (f : Addr) : Prop where
  rd : PySem.W.readsIn K C (.type "type") = true
  ga : PySem.W.specialIn K (.ref C) "__getattribute__" = some (some (.builtin "type.__getattribute__"))
  at_ : PySem.W.findCls K (.ref C) (.type "type") m = some (.val (.ref f))
  kp : PySem.W.keepIn K (.ref f) = true
/-- B.m(e, ..), B a class of the text, m a def of it -/
theorem pe_otcall {CX : CXT} {k : Nat} {f C : Addr} {fd : FuncData} {ps : List Str} {sp : Sp} {E : XK} {o : Expr} {to : TE} {m : Str} {pl : Sem Bool} (ho : PE X o to) (R : OtRead X.K C m f) (F : FnOk X.prog X.w X.K X.mg X.base CX k f fd ps sp) (hr : Room k X.A) (hb : Binds X.K fd ps []) (hx : Passes CX X E) (ha : PA X (e :: es) ta)
    (hc : eval (.Call (.Attribute o m p2) (e :: es) [] pos) X.env = (do
      let ov ← eval o X.env
      standAt p2.atName
      let (f, first) ← holding [ov] (getMethod ov m pl)
      callWith pos f first (backTo pos (starEach (e :: es) X.env)) (backToKw pos (keywordEach [] X.env))) := by rfl)
    (he : starEach (e :: es) X.env = (false, eval e X.env) :: starEach es X.env := by rfl) (hpl : (backTo pos (starEach es X.env)).any (·.1) = false := by rfl) :
    PE X (.Call (.Attribute o m p2) (e :: es) [] pos) (fun σ H Q => to σ H fun x H1 => x = .ref C ∧ ta σ H1 fun vs H2 => sp vs H2 Q E) := by
  refine ⟨fun pins s σ H Q I h => ?_⟩
  refine PySem.W.methodCall_KW (thn (ho.run pins s σ H _ I h) fun u s1 hh => ?_) hc
  obtain ⟨x, H1, I1, rx, ex, q⟩ := hh
  subst ex
  obtain rfl : u = Value.ref C := rx
  refine PySem.W.method_cls I1.kIn R.ga (PySem.W.cls_value I1.kIn R.rd R.at_ rfl ?_)
  have I2 := I1.tok (s1.toks + 1)
  show wpAny _ _ (callWith pos (Value.ref f) [] (backTo pos (starEach (e :: es) X.env)) []) _ _ _
  refine PySem.W.callWith_K (h₀ := X.base) I2.ok.mod.kin R.kp (thn (ha.run pos pins _ σ H1 _ I2 q) fun us s2 hh2 => ?_) he hpl
  obtain ⟨vs, H2, I3, r3, q3⟩ := hh2
  exact ⟨I3.kIn, run_fn F hr hb .nil hx I3 r3 (by rw [List.append_nil]; exact q3)⟩
end
end L2

namespace L2
open PySem PySem.Spec PyProof.Rows
/-- all that is asked of an own class of error, its name nm -/
structure OtErr (K : PySem.W.Frag) (C : Addr) (nm : Str) : Prop where
  ox : OexC K C
  oc : PySem.W.OtCls K C
  on : PySem.W.OtName K C nm
  nw : PySem.W.findIn K (.ref C) "word" = some none
  ni : PySem.W.findIn K (.ref C) "index" = some none
section
variable {P : Program} {w : World} {K : PySem.W.Frag} {mg : Str → Option Value} {base : Heap}
/-- TableError.__init__ -/
def spTE (K : PySem.W.Frag) : Sp := fun vs H Q _ => ∃ (a C : Addr) (nm : Str), vs = [.ref a] ∧ H a = some (exo a C none) ∧ OtErr K C nm ∧
  ∀ d, H d = none → d ≠ a → Q .non (upd (upd H d (exd d [("word", .str nm)])) a (exo a C (some d)))
theorem ok_te {q : Str} {st : Stmt} {f : Addr} {fd : FuncData} {p1 p2 p3 p4 p5 p6 : Pos} (F : Fun K "__init__" q st f fd) (S : FnScope ["self"] ["self"] (defScope st))
    (v : Vis (defScope st) "self") (hb : defBody st = [.Assign [.Attribute (.Name "self" p1) "word" p2] (.Attribute (.Attribute (.Name "self" p3) "__class__" p4) "__name__" p5) p6]) :
    FnOk P w K mg base CX0 1 f fd ["self"] (spTE K) := by
  refine F.ok S (fun vs H Q E h => ?_) (fun cdv A outer s H vs Q E hr h => ?_)
  · obtain ⟨a, C, nm, rfl, _⟩ := h
    rfl
  · obtain ⟨a, C, nm, rfl, ha, T, k⟩ := h
    rw [hb]
    refine ⟨_, pss_one (ps_ost (pv 0 rfl v) (pe_otname (pv 0 rfl v))), ?_⟩
    refine ⟨_, rfl, a, C, nm, rfl, ha, T.oc, T.on, _, rfl, a, C, rfl, T.ox, T.nw, Or.inl ⟨ha, fun d nd ne => ?_⟩⟩
    exact k d nd ne
/-- IndexedError.__init__ -/
def spIE (K : PySem.W.Frag) : Sp := fun vs H Q _ => ∃ (a C : Addr) (nm : Str) (v : V), vs = [.ref a, v] ∧ H a = some (exo a C none) ∧ OtErr K C nm ∧
  ∀ d, H d = none → d ≠ a → Q .non (upd (upd (upd H d (exd d [("word", .str nm)])) a (exo a C (some d))) d (exd d [("index", v), ("word", .str nm)]))
end
end L2

/-! ### defs that are handed the error that an except suite holds -/
namespace L2
open PySem PySem.Spec PyProof.Rows
/-- a promise that knows the held error: where it stands, its class, its dict -/
abbrev SpE := Addr → Value → Option Addr → Sp
structure FnE (P : Program) (w : World) (K : PySem.W.Frag) (mg : Str → Option Value) (base : Heap) (k : Nat) (f : Addr) (fd : FuncData) (ps : List Str) (sp : SpE) : Prop where
  len : ∀ a c d vs H Q E, sp a c d vs H Q E → vs.length = ps.length
  run : ∀ (A : Around) (outer : List Env) (s : Shared) (H : Hp) (args : Args) (us : List Value) (vs : List V) (Q : VK) (p : Addr × Obj) (c : Value) (d : Option Addr), L2H.RoomH k A → L2H.PinOk outer H s p → Zc c d p.2 → (∃ fs, p.2.data = .fields fs) →
    Env0 P w K mg base A outer s H → BindsTo s fd args (ps.zip us) → Vals vs us → sp p.1 c d vs H Q E0 → codeAny (model P w) A (.call (.ref f) args) (CR CX0 outer P w H s Q E0) s
theorem fnE_of {P : Program} {w : World} {K : PySem.W.Frag} {mg : Str → Option Value} {base : Heap} {k : Nat} {x : Str} {st : Stmt} {f : Addr} {fd : FuncData} {N ps : List Str} {sp : SpE} (F : C8.Fun K x x st f fd) (S : FnScope N ps (C8.fnScope st))
    (len : ∀ a c d vs H Q E, sp a c d vs H Q E → vs.length = ps.length)
    (body : ∀ (cdv : Value) (A : Around) (outer : List Env) (s : Shared) (H : Hp) (vs : List V) (Q : VK) (p : Addr × Obj) (c : Value) (d : Option Addr), Zc c d p.2 → (∃ fs, p.2.data = .fields fs) → L2H.RoomH k (A.deeper (envOfC x (C8.fnScope st) s.heap.objs.size f cdv)) → sp p.1 c d vs H Q E0 →
      ∃ t, PSs (L2H.cxH CX0 P w K mg base N x (C8.fnScope st) f cdv A outer s H E0 p) (C8.fnBody st) t ∧ t { nx := fun _ H' => Q .non H', rt := Q } (L2.start N vs) H) :
    FnE P w K mg base (k + 1) f fd ps sp := by
  obtain ⟨oc, od, dV, kV, doc, pm, an, cdv, ct, osl, rfl, lk, hcd⟩ := F.ex
  constructor
  · exact len
  intro A outer s H args us vs Q p c d room pin zc fld env binds rel want
  have size := len _ _ _ _ _ _ _ want
  have old : ∀ b o, base.get? b = some o → s.heap.get? b = some o := fun b o z => (env.bs b o z).1
  have inK : K.In s.heap := env.mod.kin.keeps old
  have kinds : ∀ y ∈ ps.zip us, (C8.fnScope st).names.lookup y.1 = some .local ∨
      ((C8.fnScope st).names.lookup y.1 = some .cell ∧ ((cellsFrom (s.heap.objs.size + 1) (C8.fnScope st).names []).lookup y.1).isSome = true) := by
    intro y hy
    have my := (List.of_mem_zip (a := y.1) (b := y.2) hy).1
    exact (S.par y.1 my).imp id fun z => ⟨z, PySem.W.cellsFrom_some _ _ _ (Or.inl z)⟩
  apply codeAny_call_function room.depth (inK _ _ lk) rfl S.co S.gen rfl (PySem.W.codeRec_of inK hcd)
  apply binds
  apply wpAny_newFunctionEnv_cells S.kind kinds
  intro env1 he s1 called
  subst he
  refine ⟨(env.mod.nolimit.keeps old).keeps called.toInCall.keep, codeAny_func ?_⟩
  obtain ⟨t, ht, read⟩ := body cdv A outer s H vs Q p c d zc fld (room.deeper _) want
  have I0 : Inv (L2H.cxH CX0 P w K mg base N x (C8.fnScope st) f cdv A outer s H E0 p) [] (L2.start N vs) H s1 := L2H.inv_startH S pin env size rel called
  refine wpAny_mono (ht.run [] s1 (L2.start N vs) H _ I0 read) (fun fl s2 q => ?_) fun _ _ q => q
  cases fl with
  | ret u =>
    obtain ⟨v, σ2, H2, J, rv, z⟩ := q
    exact ⟨v, H2, J.os, J.bare, J.base, J.hok, rv, z⟩
  | next =>
    obtain ⟨σ2, H2, J, z⟩ := q
    exact ⟨.non, H2, J.os, J.bare, J.base, J.hok, rfl, z⟩
  | brk =>
    obtain ⟨_, _, _, z⟩ := q
    exact z.elim
  | cont =>
    obtain ⟨_, _, _, z⟩ := q
    exact z.elim
section
variable {X : Cx} {p : Addr × Obj} {c : Value} {d : Option Addr} {k : Nat} {f : Addr} {fd : FuncData} {ps : List Str} {sp : SpE} {x : Str} {q pos : Pos} {e : Expr} {es : List Expr} {t : TA} {te : TE}
/-- f(e, ..) where the error is held -/
theorem pe_callE (F : FnE X.prog X.w X.K X.mg X.base k f fd ps sp) (hr : L2H.RoomH k X.A) (hp : p ∈ X.pn) (zc : Zc c d p.2) (fld : ∃ fs, p.2.data = .fields fs) (hg : Gl X x) (hm : X.mg x = some (.ref f)) (hk : PySem.W.keepIn X.K (.ref f) = true) (hb : Binds X.K fd ps [])
    (ha : PA X (e :: es) t) (hdb : (x == ("__debug__" : Str)) = false := by decide) (he : starEach (e :: es) X.env = (false, eval e X.env) :: starEach es X.env := by rfl) (hpl : (backTo pos (starEach es X.env)).any (·.1) = false := by rfl) :
    PE X (.Call (.Name x q) (e :: es) [] pos) (fun σ H Q => t σ H fun vs H1 => sp p.1 c d vs H1 Q E0) := by
  constructor
  intro pins s σ H Q I want
  apply wpAny_Call_Name_kw
  refine ld_glob I hg hm ?_ hdb
  refine PySem.W.callWith_K (h₀ := X.base) I.ok.mod.kin hk (thn (ha.run pos pins s σ H _ I want) ?_) he hpl
  rintro us s1 ⟨vs, H1, J, rel, z⟩
  refine ⟨J.kIn, ?_⟩
  have size : us.length = ps.length := by
    rw [← rel.length]
    exact F.len _ _ _ _ _ _ _ z
  have bind := hb s1 us J.kIn (by rw [List.append_nil]; exact size)
  rw [List.append_nil] at bind
  obtain ⟨p1, p2, p3, p4, p5⟩ := J.pin p (List.mem_append_left _ hp)
  have pin : L2H.PinOk X.stack H1 s1 p := ⟨p1, p2, fun z => (List.mem_cons.mp (J.stkSub p.1 z)).elim p3 p4, p5⟩
  refine wpAny_call (codeAny_mono (F.run X.A X.stack s1 H1 ⟨us, []⟩ us vs Q p c d hr pin zc fld J.env0 bind rel z) ?_)
  intro r s2 got
  cases r with
  | error er => exact got.elim
  | ok fl =>
    cases fl with
    | ret u => exact J.after got
    | next => exact got.elim
    | brk => exact got.elim
    | cont => exact got.elim
/-- the held error is an instance of its class -/
theorem heldAt {pins : List (Addr × Obj)} {σ : L2.St} {H : Hp} {s : Shared} {C dd : Addr} {fs : List (Str × V)} (I : Inv X pins σ H s) (hp : p ∈ X.pn) (zc : Zc (.ref C) (some dd) p.2) (fld : ∃ fs, p.2.data = .fields fs) (hd : H dd = some (.xd fs)) :
    ∃ od, PySem.W.InstAt s.heap p.1 p.2 C (some od) ∧ ∀ n v, fs.lookup n = some v → ∃ u, RelV v u ∧ PySem.W.lookIn n od = some (some u) := by
  obtain ⟨at1, _⟩ := I.pin p (List.mem_append_left _ hp)
  obtain ⟨vs, hdat⟩ := fld
  obtain ⟨mA, hns, hr⟩ := (show ObjOk X.prog X.w H s.heap dd (.xd fs) from I.hok dd _ hd)
  obtain ⟨od, ho, hl⟩ := lookIn_ns hns
  refine ⟨od, ⟨at1, zc.1, by unfold PySem.W.notCls; rw [hdat] <;> rfl, by rw [zc.2]; exact ho⟩, fun n v l => ?_⟩
  obtain ⟨u, hu, ru⟩ := RelO.some_of (v := v) (o := mA n) (by rw [← l]; exact hr n)
  exact ⟨u, ru, by rw [hl, hu]⟩
/-- isinstance(e, T), e the held error -/
theorem call_isX (hp : p ∈ X.pn) (zc : Zc c d p.2) (fld : ∃ fs, p.2.data = .fields fs) : CallR X (.builtin "isinstance") (fun xs H Q => ∃ (C dd : Addr) (fs : List (Str × V)) (y : V) (u : Value) (b : Bool),
    xs = [.ref p.1, y] ∧ c = .ref C ∧ d = some dd ∧ PySem.W.OtCls X.K C ∧ H dd = some (.xd fs) ∧ ClsV y u ∧ PySem.W.kitOne X.K (.ref C) u = some b ∧ Q (.bl b) H) := by
  rintro pins s σ H xs us Q I rel ⟨C, dd, fs, y, u, b, rfl, rfl, rfl, T, hd, hy, hb, z⟩
  obtain ⟨u1, u2, rfl, r1, r2⟩ := vals2 rel
  cases (show u1 = Value.ref p.1 from r1)
  cases hy.eq r2
  obtain ⟨od, J, _⟩ := heldAt I hp zc fld hd
  have isC : (PySem.W.clsIn X.K C).isSome = true := by
    obtain ⟨cd, q, _⟩ := PySem.W.any_some T.hdct
    rw [q]
    rfl
  exact PySem.W.kia_one (PySem.W.kitx_exc isC T.hga T.hgt T.hsub T.ha T.hn T.htk T.hm) I.kIn J hb (fun z => nomatch z) fun tk => ⟨.bl b, H, I.tok tk, rfl, z⟩
/-- e.n, e the held error, n a field of its own -/
theorem pe_fX {n : Str} (hp : p ∈ X.pn) (zc : Zc c d p.2) (fld : ∃ fs, p.2.data = .fields fs) (he : PE X e te) (hb : attributeBase e n X.env (eval e X.env) = eval e X.env := by rfl) :
    PE X (.Attribute e n pos) (fun σ H Q => te σ H fun y H1 => ∃ (C dd : Addr) (fs : List (Str × V)) (v : V), y = .ref p.1 ∧ c = .ref C ∧ d = some dd ∧ PySem.W.OtCls X.K C ∧ PySem.W.findIn X.K (.ref C) n = some none ∧ H1 dd = some (.xd fs) ∧ fs.lookup n = some v ∧ Q v H1) := by
  constructor
  intro pins s σ H Q I want
  refine attr_of hb (thn (he.run pins s σ H _ I want) ?_)
  rintro u s1 ⟨y, H1, J1, ry, C, dd, fs, v, rfl, rfl, rfl, T, hno, hd, hl, z⟩
  obtain rfl : u = Value.ref p.1 := ry
  obtain ⟨od, J, look⟩ := heldAt J1 hp zc fld hd
  obtain ⟨w1, rw1, lw⟩ := look n v hl
  exact HandSPX.exc_get J1.kIn J T.hga T.hgt T.hsub (PySem.W.findObj_own T.hdct hno rfl lw) (handed_of rw1) ⟨v, H1, J1.tok _, rw1, z⟩
end
end L2

namespace OT
open PySem
theorem b_int : bootBuiltins "int" = some (.type "int") := by decide +kernel
theorem b_str : bootBuiltins "str" = some (.type "str") := by decide +kernel
theorem b_bool : bootBuiltins "bool" = some (.type "bool") := by decide +kernel
theorem b_list : bootBuiltins "list" = some (.type "list") := by decide +kernel
theorem b_tuple : bootBuiltins "tuple" = some (.type "tuple") := by decide +kernel
theorem b_len : bootBuiltins "len" = some (.builtin "len") := by decide +kernel
theorem b_isinstance : bootBuiltins "isinstance" = some (.builtin "isinstance") := by decide +kernel
theorem b_any : bootBuiltins "any" = some (.builtin "any") := by decide +kernel
theorem b_all : bootBuiltins "all" = some (.builtin "all") := by decide +kernel
theorem b_sum : bootBuiltins "sum" = some (.builtin "sum") := by decide +kernel
theorem b_min : bootBuiltins "min" = some (.builtin "min") := by decide +kernel
theorem b_max : bootBuiltins "max" = some (.builtin "max") := by decide +kernel
theorem b_sorted : bootBuiltins "sorted" = some (.builtin "sorted") := by decide +kernel
theorem b_abs : bootBuiltins "abs" = some (.builtin "abs") := by decide +kernel
theorem b_ValueError : bootBuiltins "ValueError" = some (.type "ValueError") := by decide +kernel
end OT

set_option Elab.async false
set_option linter.all false
set_option maxRecDepth 100000
set_option maxHeartbeats 2000000
/-! Rows: sorted keys of a dict whose keys are tuples of ints; valid rows. -/
namespace L2
open PySem PySem.Spec PyProof.Rows
section
/-- what a sort leaves: the same values, ascending by their keys -/
theorem sort_left {κ : KeyKind} {vs : List Value} {a : Array Keyed} (perm : a.Perm (pairsOf vs)) (srt : SortedToK κ a (pairsOf vs).size) :
    (a.toList.map (·.2)).Perm vs ∧ (a.toList.map (·.2)).Pairwise fun x y => ∀ k l, κ.keyOf x = some k → κ.keyOf y = some l → κ.kle k l := by
  have pl : a.toList.Perm (vs.zip vs) := by
    rw [← pairsOf_toList]
    exact Array.perm_iff_toList_perm.mp perm
  have diag : ∀ p ∈ a.toList, p.1 = p.2 := fun p hp => (mem_zip_self (pl.mem_iff.mp hp)).1
  constructor
  · have e : (vs.zip vs).map (·.2) = vs := by
      rw [List.map_snd_zip]
      exact Nat.le_refl _
    have q := pl.map (·.2)
    rw [e] at q
    exact q
  · rw [List.pairwise_map, List.pairwise_iff_getElem]
    intro i j hi hj hij k l hk hl
    have hn : a.size = (pairsOf vs).size := perm.size_eq
    rw [Array.length_toList] at hi hj
    have s := srt i j (Nat.le_of_lt hij) (by omega)
    have at_ : ∀ n (h : n < a.size), ∀ m, κ.keyOf a.toList[n].2 = some m → KK κ a n = m := fun n h m hm => by
      unfold KK
      rw [Array.getElem?_eq_getElem h]
      have d := diag a.toList[n] (List.getElem_mem _)
      rw [← d] at hm
      rw [Array.getElem_toList] at hm
      dsimp only
      rw [hm]
      rfl
    rw [at_ i hi k hk, at_ j hj l hl] at s
    exact s
theorem lexLt_inl : ∀ k l : List Int, PyProof.Rows.lexLt itemOrd (k.map Sum.inl) (l.map Sum.inl) = HT.lexLt k l
  | [], [] => rfl
  | [], _ :: _ => rfl
  | _ :: _, [] => rfl
  | x :: r, y :: t => by
    rw [List.map_cons, List.map_cons, PyProof.Rows.lex_cons, lexLt_inl r t, HT.lexLt_cons]
    show (decide (x < y) || (!decide (y < x) && HT.lexLt r t)) = _
    by_cases h : x = y
    · rw [if_pos h, decide_eq_false (by omega), decide_eq_false (by omega)]
      rfl
    · rw [if_neg h]
      by_cases h2 : x < y
      · rw [decide_eq_true h2]
        rfl
      · rw [decide_eq_false h2, decide_eq_true (show y < x by omega)]
        rfl
theorem tupItems_ints : ∀ (ns : List Int) (us : List Value) (i : Nat), Vals (ns.map V.int) us → tupItems (fun _ => false) i us = some (ns.map Sum.inl)
  | [], _, _, .nil => rfl
  | n :: ns, _ :: us, i, .cons r t => by
    obtain ⟨tk, rfl⟩ := (show ∃ tk, _ = Value.int n tk from r)
    show (if (false : Bool) = true then none else (tupItems (fun _ => false) (i + 1) us).map (Sum.inl n :: ·)) = _
    rw [if_neg Bool.false_ne_true, tupItems_ints ns us (i + 1) t]
    rfl
theorem ints_inj : ∀ {k l : List Int}, k.map V.int = l.map V.int → k = l
  | [], [], _ => rfl
  | [], _ :: _, h => by cases h
  | _ :: _, [], h => by cases h
  | x :: r, y :: t, h => by
    rw [List.map_cons, List.map_cons] at h
    obtain ⟨e, h⟩ := List.cons.inj h
    rw [V.int.inj e, ints_inj h]
theorem vals_refs' : ∀ out : List (Addr × List Int), Vals (out.map fun x => V.ref x.1) (out.map fun x => Value.ref x.1)
  | [] => .nil
  | _ :: r => .cons rfl (vals_refs' r)
variable {X : Cx}
/-- sorted(d), the keys of d tuples of ints -/
theorem cr_sortedDT (hcalm : X.calm = true) : CallR X (.builtin "sorted") (fun xs H Q => ∃ (d : Addr) (kvs : List (List Key × V)) (ks : List (List Int)), xs = [.ref d] ∧ Rd H d (.dT kvs) ∧ kvs.map (·.1) = ks.map (fun k => k.map Sum.inl) ∧ (2 ≤ ks.length → ∀ k ∈ ks, k ≠ []) ∧
    ∀ (out : List (Addr × List Int)) (p : Addr), (out.map (·.2)).Perm ks → (out.map (·.2)).Pairwise (fun a b => HT.lexLt b a = false) → ks.Nodup → (∀ x ∈ out, H x.1 = some (.tup (x.2.map V.int))) → H p = none → Q (.ref p) (upd H p (.lst (out.map fun x => V.ref x.1)))) := by
  rintro pins s σ H xs us Q I rel ⟨d, kvs, ks, rfl, hd, hks, hne, want⟩
  obtain ⟨u, rfl, rx⟩ := rel.one
  cases rx
  obtain ⟨z, hs, xs, pr, o, es, ep, ho, hx, hdt, he, hn⟩ := (show ObjOk X.prog X.w H s.heap d (.dT kvs) from hd.ok I.hok)
  have l1 : es.size = xs.length := size_of_entries he
  have l2 : kvs.length = xs.length := Paired.length pr
  -- the keys' addresses
  have keyed : ∀ (kvs : List (List Key × V)) (xs : List (List Key × Addr × Value)) (ks : List (List Int)), Paired (fun (p : List Key × V) (q : List Key × Addr × Value) => p.1 = q.1 ∧ H q.2.1 = some (.tup (p.1.map kV)) ∧ RelV p.2 q.2.2) kvs xs → kvs.map (·.1) = ks.map (fun k => k.map Sum.inl) →
      xs.map (·.1) = ks.map (fun k => k.map Sum.inl) ∧ ∀ x ∈ (xs.map (·.2.1)).zip ks, H x.1 = some (.tup (x.2.map V.int)) := by
    intro kvs
    induction kvs with
    | nil =>
      intro xs ks pr hks
      cases pr
      cases ks with
      | nil => exact ⟨rfl, fun x hx => by cases hx⟩
      | cons k r => cases hks
    | cons a r ih =>
      intro xs ks pr hks
      cases pr with
      | cons h t =>
        rename_i q xs'
        cases ks with
        | nil => cases hks
        | cons k ks' =>
          obtain ⟨e1', e2⟩ := List.cons.inj hks
          have e1 : a.1 = k.map Sum.inl := e1'
          obtain ⟨i1, i2⟩ := ih _ _ t e2
          obtain ⟨h1, h2, _⟩ := h
          refine ⟨?_, fun x hx => ?_⟩
          · rw [List.map_cons, List.map_cons, i1, ← h1, e1]
          · rw [List.map_cons, List.zip_cons_cons] at hx
            rcases List.mem_cons.mp hx with e | hx
            · rw [e]
              show H q.2.1 = _
              rw [h2, e1, List.map_map]
              rfl
            · exact i2 x hx
  obtain ⟨kx, held⟩ := keyed kvs xs ks pr hks
  have lk : xs.length = ks.length := by
    have := congrArg List.length kx
    rwa [List.length_map, List.length_map] at this
  have nod : ks.Nodup := by
    rw [kx] at hn
    exact nodup_of_map hn
  apply Calls.call_function_entry kind_sorted plain_sorted entry_sorted (args_sorted1 (.ref d))
  unfold Builtin.«sorted»
  apply wpAny_bind (m := checkCount "sorted" 1 1 _)
  apply wpAny_pure
  refine wpAny_bind (PySem.W.kdu_collect (A := X.A.in1) (kdl_raw hs hx hdt) (I.ok.hd hcalm) ho (by omega) fun h' tk got hk hacc => ?_)
  have ea : got.toList = (xs.map (·.2.1)).map Value.ref := by
    have hl : got.toList.length = xs.length := by rw [Array.length_toList, hacc.1]; exact l1
    apply List.ext_getElem
    · rw [hl, List.length_map, List.length_map]
    · intro j hj1 hj2
      have g1 : got[j]? = some got.toList[j] := by
        rw [← Array.getElem?_toList]
        exact List.getElem?_eq_getElem hj1
      obtain ⟨en, hen, hv⟩ := hacc.2 j _ g1
      have qe := entry_at he j
      have hjx : j < xs.length := by omega
      rw [hen, List.getElem?_eq_getElem hjx] at qe
      have e2 := Option.some.inj qe
      rw [hv, e2, List.getElem_map, List.getElem_map]
      rfl
  have J1 : Inv X pins σ H { s with heap := h', toks := tk } := I.kept hk
  have gotk : got.toList.length = ks.length := by rw [ea, List.length_map, List.length_map, lk]
  have fits : got.toList.length ≤ sizeLine := by omega
  apply wpAny_bind
  refine wpAny_newList ?_ fits
  have atL : (h'.push (seqObj "list" got.toList.toArray 0)).get? h'.objs.size = some (seqObj "list" got.toList.toArray 0) := Heap.get?_push_size _ rfl
  show wpAny _ _ _ _ _ { s with heap := h'.push (seqObj "list" got.toList.toArray 0), toks := tk }
  -- each key stands in the heap
  have stands : ∀ (a : Addr) (k : List Int), H a = some (.tup (k.map V.int)) → ∃ its : List Value, Vals (k.map V.int) its ∧ IsTup h' a its.toArray := fun a k e => by
    obtain ⟨_, its, rv, it⟩ := (show ObjOk X.prog X.w H h' a (.tup (k.map V.int)) from J1.hok a _ e)
    exact ⟨its, rv, it⟩
  have keyOf : ∀ (a : Addr) (k : List Int), H a = some (.tup (k.map V.int)) → PyProof.Rows.G.tupKeyC (h'.push (seqObj "list" got.toList.toArray 0)) (fun _ => false) (.ref a) = some (k.map Sum.inl) := fun a k e => by
    obtain ⟨its, rv, ob, h1, h2, n, h3⟩ := stands a k e
    have g : (h'.push (seqObj "list" got.toList.toArray 0)).get? a = some ob := Heap.get?_push_of_some _ h1
    have it : PyProof.Rows.G.isTupObj (h'.push (seqObj "list" got.toList.toArray 0)) (.ref a) = true := by
      simp only [PyProof.Rows.G.isTupObj, g, h2]
      rfl
    unfold PyProof.Rows.G.tupKeyC
    rw [if_pos it]
    unfold tupKey
    dsimp only
    rw [g]
    dsimp only
    rw [h3]
    dsimp only
    exact tupItems_ints k its 0 rv
  have zipped : ∀ v ∈ got.toList, ∃ a k, v = Value.ref a ∧ k ∈ ks ∧ H a = some (.tup (k.map V.int)) := fun v hv => by
    obtain ⟨j, hj, e⟩ := List.getElem_of_mem hv
    have hjk : j < ks.length := by omega
    have hjx : j < (xs.map (·.2.1)).length := by rw [List.length_map]; omega
    have ev : v = Value.ref (xs.map (·.2.1))[j] := by
      rw [← e]
      simp only [ea, List.getElem_map]
    refine ⟨_, ks[j], ev, List.getElem_mem _, held ((xs.map (·.2.1))[j], ks[j]) ?_⟩
    rw [List.mem_iff_getElem]
    refine ⟨j, by rw [List.length_zip]; omega, ?_⟩
    rw [List.getElem_zip]
  have keys : KeysOf (PyProof.Rows.G.tupKindC (h'.push (seqObj "list" got.toList.toArray 0)) fun _ => false) (pairsOf got.toList) := PyProof.Rows.G.tupKeys fun v hv => by
    obtain ⟨a, k, rfl, _, hk⟩ := zipped v hv
    exact ⟨_, keyOf a k hk⟩
  have k6 := PyProof.Rows.G.keeps_sort6 (vs := got.toList) atL
  have tups : 2 ≤ got.toList.length → ∃ fs, 0 < fs.length ∧ TupsOf (h'.push (seqObj "list" got.toList.toArray 0)) (fun _ => false) got.toList fs := fun h2 => by
    have each : ∀ l : List Value, (∀ v ∈ l, ∃ a k, v = Value.ref a ∧ k ∈ ks ∧ H a = some (.tup (k.map V.int))) → ∃ fs, fs.length = l.length ∧ TupsOf (h'.push (seqObj "list" got.toList.toArray 0)) (fun _ => false) l fs := by
      intro l
      induction l with
      | nil => exact fun _ => ⟨[], rfl, .nil⟩
      | cons v r ih =>
        intro hv
        obtain ⟨fs, hl, ht⟩ := ih fun y hy => hv y (List.mem_cons_of_mem _ hy)
        obtain ⟨a, k, rfl, hm, hk⟩ := hv v List.mem_cons_self
        obtain ⟨its, rv, ob, h1, h2', n, h3⟩ := stands a k hk
        cases k with
        | nil => exact absurd rfl (hne (by omega) [] hm)
        | cons i k =>
          cases rv with
          | @cons _ u0 _ ur r0 rt =>
            obtain ⟨tk0, rfl⟩ := (show ∃ tk, u0 = Value.int i tk from r0)
            exact ⟨.int i tk0 :: fs, by rw [List.length_cons, List.length_cons, hl], .cons ⟨a, ob, _, n, rfl, Heap.get?_push_of_some _ h1, h2', h3, rfl, fun _ => ⟨i, tk0, rfl⟩, fun z => by cases z⟩ ht⟩
    obtain ⟨fs, hl, ht⟩ := each got.toList zipped
    exact ⟨fs, by omega, ht⟩
  refine wpAny_bind (wpAny_holding (wpAny_call_entry PyProof.Rows.slot_list_sort ⟨_, atL, rfl⟩ PyProof.Rows.entry_list_sort
    (PyProof.Rows.G.list_sort_treeG (κ := PyProof.Rows.G.tupKindC (h'.push (seqObj "list" got.toList.toArray 0)) fun _ => false) (kd := tuples' true) (s := { s with heap := h'.push (seqObj "list" got.toList.toArray 0), toks := tk }) atL keys
      (PyProof.Rows.G.tupC_ltAt true k6) (fun h2 R hq => ?kind) fits fun st' a1 a2 a3 => ⟨_, rfl, ?ret⟩) (PyProof.Rows.args_list_sort _)))
  case kind =>
    obtain ⟨fs, hl, ht⟩ := tups h2
    exact tup_kind hl (PyProof.Rows.G.TupsOf.keep k6 ht) hq
  case ret =>
    obtain ⟨o1, o2⟩ := sort_left a1 a2
    have out : ∃ out : List (Addr × List Int), (arrOf st').toList.map (·.2) = out.map (fun x => Value.ref x.1) ∧ ∀ x ∈ out, H x.1 = some (.tup (x.2.map V.int)) := by
      have each : ∀ l : List Value, (∀ v ∈ l, v ∈ got.toList) → ∃ out : List (Addr × List Int), l = out.map (fun x => Value.ref x.1) ∧ ∀ x ∈ out, H x.1 = some (.tup (x.2.map V.int)) := by
        intro l
        induction l with
        | nil => exact fun _ => ⟨[], rfl, fun x hx => by cases hx⟩
        | cons v r ih =>
          intro hv
          obtain ⟨out, e, ho'⟩ := ih fun y hy => hv y (List.mem_cons_of_mem _ hy)
          obtain ⟨a, k, rfl, _, hk⟩ := zipped v (hv v List.mem_cons_self)
          refine ⟨(a, k) :: out, by rw [List.map_cons, e], fun x hx => ?_⟩
          rcases List.mem_cons.mp hx with e' | hx
          · rw [e']
            exact hk
          · exact ho' x hx
      exact each _ fun v hv => o1.mem_iff.mp hv
    obtain ⟨out, eo, ho'⟩ := out
    obtain ⟨ep', he'⟩ := PyProof.Rows.sortedHeap_at (vs := got.toList) (out := (arrOf st').map (·.2)) atL
    have oz : out.length ≤ sizeLine := by
      have e1 := congrArg List.length eo
      have e2 := o1.length_eq
      rw [List.length_map] at e1 e2
      rw [List.length_map] at e1
      omega
    have inj : ∀ (a : Addr) (k l : List Int), H a = some (.tup (k.map V.int)) → H a = some (.tup (l.map V.int)) → k = l := fun a k l h1 h2 => by
      rw [h1] at h2
      exact ints_inj (HO.tup.inj (Option.some.inj h2))
    refine wpAny_pure ⟨_, rfl, .ref h'.objs.size, upd H h'.objs.size (.lst (out.map fun x => V.ref x.1)), J1.laid (t' := tk) (fun b u q => ?old) (Nat.le_refl _) ⟨by rw [List.length_map]; exact oz, ((arrOf st').map (·.2)).toList, ep', ?vals, he'⟩, rfl, want out _ ?perm ?pw nod ho' (J1.hok.fresh (Nat.le_refl _))⟩
    case old =>
      rw [PyProof.Rows.sortedHeap_old (Nat.ne_of_lt (Heap.lt_size q)) (Nat.lt_of_lt_of_le (Heap.lt_size q) (by rw [size_push']; exact Nat.le_succ _))]
      exact Heap.get?_push_of_some _ q
    case vals =>
      rw [Array.toList_map, eo]
      exact vals_refs' out
    case perm =>
      have p1 : (out.map (fun x => Value.ref x.1)).Perm got.toList := by rw [← eo]; exact o1
      have rd : ∀ v : Value, ∃ k : List Int, ∀ (a : Addr) (l : List Int), v = .ref a → H a = some (.tup (l.map V.int)) → k = l := fun v => by
        by_cases h : ∃ (a : Addr) (l : List Int), v = .ref a ∧ H a = some (.tup (l.map V.int))
        · obtain ⟨a, l, e, h⟩ := h
          refine ⟨l, fun a' l' e' h' => ?_⟩
          cases e.symm.trans e'
          exact inj _ _ _ h h'
        · exact ⟨[], fun a l e h' => absurd ⟨a, l, e, h'⟩ h⟩
      have p2 := p1.map fun v => (rd v).choose
      rw [List.map_map] at p2
      have e1 : out.map (((fun v => (rd v).choose)) ∘ fun x => Value.ref x.1) = out.map (·.2) := List.map_congr_left fun x hx => (rd (.ref x.1)).choose_spec _ _ rfl (ho' x hx)
      have e2 : got.toList.map (fun v => (rd v).choose) = ks := by
        apply List.ext_getElem
        · rw [List.length_map]; exact gotk
        · intro j h1 h2
          have h3 : j < (xs.map (·.2.1)).length := by rw [List.length_map]; omega
          rw [List.getElem_map]
          have ev : got.toList[j]'(by omega) = Value.ref (xs.map (·.2.1))[j] := by simp only [ea, List.getElem_map]
          refine (rd _).choose_spec _ _ ev (held ((xs.map (·.2.1))[j], ks[j]) ?_)
          rw [List.mem_iff_getElem]
          refine ⟨j, by rw [List.length_zip]; omega, ?_⟩
          rw [List.getElem_zip]
      rw [e1, e2] at p2
      exact p2
    case pw =>
      rw [eo, List.pairwise_map] at o2
      rw [List.pairwise_map]
      refine List.Pairwise.imp_of_mem (fun {x y} hx hy h => ?_) o2
      have hle := h _ _ (keyOf x.1 x.2 (ho' x hx)) (keyOf y.1 y.2 (ho' y hy))
      rw [← lexLt_inl]
      exact hle
end
end L2

set_option Elab.async false
set_option linter.all false
set_option maxRecDepth 100000
set_option maxHeartbeats 2000000
/-! rows: what a list of entries sums to, and the one row of the sums -/
namespace OT
open PySem PySem.Spec PyProof.Rows L2
abbrev Pl := List Int
abbrev Ent := List Int × Int
def numAt : List Ent → Pl → Int
  | [], _ => 0
  | e :: r, q => (if e.1 = q then e.2 else 0) + numAt r q
theorem numAt_app : ∀ (a b : List Ent) (q : Pl), numAt (a ++ b) q = numAt a q + numAt b q
  | [], b, q => by
    show numAt b q = 0 + numAt b q
    omega
  | e :: r, b, q => by
    show (if e.1 = q then e.2 else 0) + numAt (r ++ b) q = (if e.1 = q then e.2 else 0) + numAt r q + numAt b q
    rw [numAt_app r b q]
    omega
theorem numAt_out {es : List Ent} {q : Pl} (h : ∀ e ∈ es, e.1 ≠ q) : numAt es q = 0 := by
  induction es with
  | nil => rfl
  | cons e r ih =>
    show (if e.1 = q then e.2 else 0) + numAt r q = 0
    rw [if_neg (h e List.mem_cons_self), ih fun x hx => h x (List.mem_cons_of_mem _ hx)]
    rfl
theorem lt_irr (k : Pl) : HT.lexLt k k = false := by
  rw [← lexLt_inl]
  exact PyProof.Rows.lex_irrefl _
theorem lt_trans {a b c : Pl} (h1 : HT.lexLt a b = true) (h2 : HT.lexLt b c = true) : HT.lexLt a c = true := by
  rw [← lexLt_inl] at *
  exact PyProof.Rows.lex_trans _ _ _ h1 h2
theorem inl_inj {β : Type} : ∀ {a b : Pl}, a.map (Sum.inl : Int → Int ⊕ β) = b.map Sum.inl → a = b
  | [], [], _ => rfl
  | [], _ :: _, h => by cases h
  | _ :: _, [], h => by cases h
  | x :: r, y :: t, h => by
    rw [List.map_cons, List.map_cons] at h
    obtain ⟨e, h⟩ := List.cons.inj h
    rw [Sum.inl.inj e, inl_inj h]
theorem lt_tot {a b : Pl} (h1 : HT.lexLt a b = false) (h2 : HT.lexLt b a = false) : a = b := by
  rw [← lexLt_inl] at *
  exact inl_inj (PyProof.Rows.lex_total _ _ h1 h2)
theorem lt_ne {a b : Pl} (h : HT.lexLt a b = true) : a ≠ b := by
  rintro rfl
  rw [lt_irr] at h
  cases h
structure Valid (r : List Ent) : Prop where
  asc : r.Pairwise fun a b => HT.lexLt a.1 b.1 = true
  nz : ∀ e ∈ r, e.2 ≠ 0
theorem Valid.tail {e : Ent} {r : List Ent} (h : Valid (e :: r)) : Valid r := ⟨(List.pairwise_cons.mp h.asc).2, fun x hx => h.nz x (List.mem_cons_of_mem _ hx)⟩
theorem Valid.head_out {e : Ent} {r : List Ent} (h : Valid (e :: r)) {q : Pl} (hq : q = e.1 ∨ HT.lexLt q e.1 = true) : numAt r q = 0 := by
  refine numAt_out fun x hx z => ?_
  have h1 := (List.pairwise_cons.mp h.asc).1 x hx
  rcases hq with rfl | hq
  · exact lt_ne h1 z.symm
  · exact lt_ne (lt_trans hq h1) z.symm
theorem Valid.head_at {e : Ent} {r : List Ent} (h : Valid (e :: r)) : numAt (e :: r) e.1 = e.2 := by
  show (if e.1 = e.1 then e.2 else 0) + numAt r e.1 = e.2
  rw [if_pos rfl, h.head_out (.inl rfl)]
  omega
theorem Valid.low {e : Ent} {r : List Ent} (h : Valid (e :: r)) {q : Pl} (hq : HT.lexLt q e.1 = true) : numAt (e :: r) q = 0 := by
  show (if e.1 = q then e.2 else 0) + numAt r q = 0
  rw [if_neg (fun z => lt_ne hq z.symm), h.head_out (.inr hq)]
  rfl
theorem Valid.ext : ∀ {r t : List Ent}, Valid r → Valid t → (∀ q, numAt r q = numAt t q) → r = t
  | [], [], _, _, _ => rfl
  | [], e :: t, _, ht, h => by
    have h1 := h e.1
    rw [ht.head_at] at h1
    exact absurd h1.symm (ht.nz e List.mem_cons_self)
  | e :: r, [], hr, _, h => by
    have h1 := h e.1
    rw [hr.head_at] at h1
    exact absurd h1 (hr.nz e List.mem_cons_self)
  | e :: r, f :: t, hr, ht, h => by
    have k : e.1 = f.1 := by
      refine lt_tot ?_ ?_
      · cases z : HT.lexLt e.1 f.1 with
        | false => rfl
        | true =>
          have h1 := h e.1
          rw [hr.head_at, ht.low z] at h1
          exact absurd h1 (hr.nz e List.mem_cons_self)
      · cases z : HT.lexLt f.1 e.1 with
        | false => rfl
        | true =>
          have h1 := h f.1
          rw [ht.head_at, hr.low z] at h1
          exact absurd h1.symm (ht.nz f List.mem_cons_self)
    have n : e.2 = f.2 := by
      have h1 := h e.1
      rw [hr.head_at, k, ht.head_at] at h1
      exact h1
    have ef : e = f := Prod.ext k n
    subst ef
    refine congrArg _ (Valid.ext hr.tail ht.tail fun q => ?_)
    have h1 := h q
    have h2 : (if e.1 = q then e.2 else 0) + numAt r q = (if e.1 = q then e.2 else 0) + numAt t q := h1
    omega
/-- the row of the sums -/
structure RowIs (r es : List Ent) : Prop where
  v : Valid r
  s : ∀ q, numAt r q = numAt es q
theorem RowIs.one {r t es : List Ent} (h1 : RowIs r es) (h2 : RowIs t es) : r = t := h1.v.ext h2.v fun q => (h1.s q).trans (h2.s q).symm
theorem Valid.at : ∀ {r : List Ent}, Valid r → ∀ e ∈ r, numAt r e.1 = e.2
  | f :: t, h, e, he => by
    rcases List.mem_cons.mp he with rfl | he
    · exact h.head_at
    · show (if f.1 = e.1 then f.2 else 0) + numAt t e.1 = e.2
      rw [if_neg (lt_ne ((List.pairwise_cons.mp h.asc).1 e he)), Valid.at h.tail e he]
      omega
theorem RowIs.mem {r es : List Ent} (h : RowIs r es) {e : Ent} (he : e ∈ r) : ∃ x ∈ es, x.1 = e.1 := by
  have h1 := h.v.at e he
  rw [h.s] at h1
  by_cases z : ∃ x ∈ es, x.1 = e.1
  · exact z
  · rw [numAt_out fun x hx y => z ⟨x, hx, y⟩] at h1
    exact absurd h1.symm (h.v.nz e he)
theorem Valid.len : ∀ {r : List Ent} {l : List Pl}, Valid r → (∀ e ∈ r, e.1 ∈ l) → r.length ≤ l.length
  | [], _, _, _ => Nat.zero_le _
  | e :: t, l, h, k => by
    have h1 := k e List.mem_cons_self
    have ih := Valid.len (l := l.erase e.1) h.tail fun x hx => (List.mem_erase_of_ne (lt_ne ((List.pairwise_cons.mp h.asc).1 x hx)).symm).mpr (k x (List.mem_cons_of_mem _ hx))
    rw [List.length_erase_of_mem h1] at ih
    have h2 := List.length_pos_of_mem h1
    rw [List.length_cons]
    omega
theorem RowIs.len {r es : List Ent} (h : RowIs r es) : r.length ≤ es.length := by
  have := h.v.len (l := es.map (·.1)) fun e he => by
    obtain ⟨x, hx, ex⟩ := h.mem he
    rw [← ex]
    exact List.mem_map_of_mem hx
  rwa [List.length_map] at this
/-- the entries of the keys in turn -/
def mkR (f : Pl → Int) : List Pl → List Ent
  | [] => []
  | k :: r => if f k = 0 then mkR f r else (k, f k) :: mkR f r
theorem mkR_snoc (f : Pl → Int) (k : Pl) : ∀ ks : List Pl, mkR f (ks ++ [k]) = mkR f ks ++ (if f k = 0 then [] else [(k, f k)])
  | [] => by
    show (if f k = 0 then [] else [(k, f k)]) = [] ++ _
    rw [List.nil_append]
  | x :: r => by
    show (if f x = 0 then mkR f (r ++ [k]) else (x, f x) :: mkR f (r ++ [k])) = (if f x = 0 then mkR f r else (x, f x) :: mkR f r) ++ _
    rw [mkR_snoc f k r]
    by_cases h : f x = 0
    · rw [if_pos h, if_pos h]
    · rw [if_neg h, if_neg h]
      rfl
theorem mkR_mem {f : Pl → Int} {e : Ent} : ∀ {ks : List Pl}, e ∈ mkR f ks → e.1 ∈ ks ∧ e.2 = f e.1 ∧ e.2 ≠ 0
  | k :: r, h => by
    have h' : e ∈ (if f k = 0 then mkR f r else (k, f k) :: mkR f r) := h
    by_cases z : f k = 0
    · rw [if_pos z] at h'
      obtain ⟨h1, h2⟩ := mkR_mem h'
      exact ⟨List.mem_cons_of_mem _ h1, h2⟩
    · rw [if_neg z] at h'
      rcases List.mem_cons.mp h' with rfl | h'
      · exact ⟨List.mem_cons_self, rfl, z⟩
      · obtain ⟨h1, h2⟩ := mkR_mem h'
        exact ⟨List.mem_cons_of_mem _ h1, h2⟩
theorem mkR_valid {f : Pl → Int} : ∀ {ks : List Pl}, ks.Pairwise (fun a b => HT.lexLt a b = true) → Valid (mkR f ks)
  | [], _ => ⟨.nil, fun e h => by cases h⟩
  | k :: r, h => by
    obtain ⟨h1, h2⟩ := List.pairwise_cons.mp h
    have ih := mkR_valid (f := f) h2
    show Valid (if f k = 0 then mkR f r else (k, f k) :: mkR f r)
    by_cases z : f k = 0
    · rw [if_pos z]
      exact ih
    · rw [if_neg z]
      refine ⟨List.pairwise_cons.mpr ⟨fun e he => h1 _ (mkR_mem he).1, ih.asc⟩, fun e he => ?_⟩
      rcases List.mem_cons.mp he with rfl | he
      · exact z
      · exact ih.nz e he
theorem mkR_sum {f : Pl → Int} : ∀ {ks : List Pl}, ks.Nodup → ∀ q, numAt (mkR f ks) q = if q ∈ ks then f q else 0
  | [], _, q => rfl
  | k :: r, h, q => by
    obtain ⟨h1, h2⟩ := List.nodup_cons.mp h
    have ih := mkR_sum (f := f) h2 q
    show numAt (if f k = 0 then mkR f r else (k, f k) :: mkR f r) q = _
    have key : numAt (if f k = 0 then mkR f r else (k, f k) :: mkR f r) q = (if k = q then f k else 0) + numAt (mkR f r) q := by
      by_cases z : f k = 0
      · rw [if_pos z, z, ite_self]
        omega
      · rw [if_neg z]
        rfl
    rw [key, ih]
    by_cases e : k = q
    · subst e
      rw [if_pos rfl, if_neg h1, if_pos List.mem_cons_self]
      omega
    · rw [if_neg e]
      by_cases m : q ∈ r
      · rw [if_pos m, if_pos (List.mem_cons_of_mem _ m)]
        omega
      · rw [if_neg m, if_neg]
        · rfl
        · intro hq
          rcases List.mem_cons.mp hq with rfl | hq
          · exact e rfl
          · exact m hq
/-- a dict of sums: its keys are ks, at k it holds f k -/
structure Sums (kvs : List (List Key × V)) (ks : List Pl) (f : Pl → Int) : Prop where
  keys : kvs.map (·.1) = ks.map fun k => k.map Sum.inl
  val : ∀ k : Pl, valV kvs (k.map Sum.inl) = if k ∈ ks then some (V.int (f k)) else none
  out : ∀ k, k ∉ ks → f k = 0
theorem Sums.nil : Sums [] [] (fun _ => 0) := ⟨rfl, fun k => rfl, fun _ _ => rfl⟩
theorem Sums.len {kvs : List (List Key × V)} {ks : List Pl} {f : Pl → Int} (h : Sums kvs ks f) : kvs.length = ks.length := by
  have := congrArg List.length h.keys
  rwa [List.length_map, List.length_map] at this
theorem putK_keys {κ : Type} [DecidableEq κ] {kvs : List (κ × V)} {k : κ} {v : V} (h : (valV kvs k).isSome = true) : (putK kvs k v).map (·.1) = kvs.map (·.1) := by
  unfold putK
  rw [valV_any, if_pos h, List.map_map]
  refine List.map_congr_left fun x _ => ?_
  show (if x.1 = k then (x.1, v) else x).1 = x.1
  by_cases e : x.1 = k
  · rw [if_pos e]
  · rw [if_neg e]
theorem Sums.put {kvs : List (List Key × V)} {ks : List Pl} {f : Pl → Int} (h : Sums kvs ks f) (k : Pl) (n : Int) :
    Sums (putK kvs (k.map Sum.inl) (.int (f k + n))) (if k ∈ ks then ks else ks ++ [k]) (fun q => f q + if k = q then n else 0) := by
  have hv := h.val k
  refine ⟨?_, fun q => ?_, fun q hq => ?_⟩
  · by_cases m : k ∈ ks
    · rw [if_pos m] at hv ⊢
      rw [putK_keys (by rw [hv]; rfl), h.keys]
    · rw [if_neg m] at hv ⊢
      rw [putK_new _ hv, List.map_append, List.map_append, h.keys]
      rfl
  · rw [valV_put, h.val]
    by_cases e : q = k
    · subst e
      rw [if_pos rfl, if_pos rfl, if_pos]
      by_cases m : q ∈ ks
      · rw [if_pos m]
        exact m
      · rw [if_neg m]
        exact List.mem_append_right _ List.mem_cons_self
    · have ne1 : ¬ (q.map (Sum.inl : Int → Key) = k.map Sum.inl) := fun z => e (inl_inj z)
      have ne2 : ¬ (k = q) := fun z => e z.symm
      rw [if_neg ne1, if_neg ne2]
      have mm : (q ∈ if k ∈ ks then ks else ks ++ [k]) ↔ q ∈ ks := by
        by_cases m : k ∈ ks
        · rw [if_pos m]
        · rw [if_neg m, List.mem_append, List.mem_singleton]
          exact ⟨fun z => z.elim id fun z => absurd z e, .inl⟩
      by_cases m : q ∈ ks
      · rw [if_pos m, if_pos (mm.mpr m), Int.add_zero]
      · rw [if_neg m, if_neg (fun z => m (mm.mp z))]
  · have hq2 : q ∉ ks ∧ k ≠ q := by
      by_cases m : k ∈ ks
      · rw [if_pos m] at hq
        exact ⟨hq, fun z => hq (z ▸ m)⟩
      · rw [if_neg m] at hq
        exact ⟨fun z => hq (List.mem_append_left _ z), fun z => hq (List.mem_append_right _ (z ▸ List.mem_cons_self))⟩
    show f q + (if k = q then n else 0) = 0
    rw [if_neg hq2.2, h.out q hq2.1]
    rfl
theorem Sums.next {kvs : List (List Key × V)} {ks : List Pl} {es : List Ent} {i : Nat} {e : Ent} (hi : es[i]? = some e) (h : Sums kvs ks (numAt (es.take i))) :
    Sums (putK kvs (e.1.map Sum.inl) (.int (numAt (es.take i) e.1 + e.2))) (if e.1 ∈ ks then ks else ks ++ [e.1]) (numAt (es.take (i + 1))) := by
  have he : es.take (i + 1) = es.take i ++ [e] := by
    obtain ⟨h1, h2⟩ := List.getElem?_eq_some_iff.mp hi
    rw [List.take_add_one, hi]
    rfl
  have hf : numAt (es.take (i + 1)) = fun q => numAt (es.take i) q + if e.1 = q then e.2 else 0 := by
    funext q
    rw [he, numAt_app]
    show _ + ((if e.1 = q then e.2 else 0) + 0) = _
    omega
  rw [hf]
  exact h.put e.1 e.2
theorem Sums.get {kvs : List (List Key × V)} {ks : List Pl} {f : Pl → Int} (h : Sums kvs ks f) {k : Pl} (m : k ∈ ks) : valV kvs (k.map Sum.inl) = some (.int (f k)) := by
  rw [h.val, if_pos m]
theorem Sums.getD {kvs : List (List Key × V)} {ks : List Pl} {f : Pl → Int} (h : Sums kvs ks f) (k : Pl) : (valV kvs (k.map Sum.inl)).getD (.int 0) = .int (f k) := by
  rw [h.val]
  by_cases m : k ∈ ks
  · rw [if_pos m]
    rfl
  · rw [if_neg m, h.out k m]
    rfl
/-- sorted keys' entries are the row -/
theorem row_sorted {es : List Ent} {ks out : List Pl} (perm : out.Perm ks) (pw : out.Pairwise fun a b => HT.lexLt b a = false) (nod : ks.Nodup) (all : ∀ q, q ∉ ks → numAt es q = 0) : RowIs (mkR (numAt es) out) es := by
  have no : out.Nodup := perm.nodup_iff.mpr nod
  have asc : out.Pairwise fun a b => HT.lexLt a b = true := by
    have both := List.pairwise_and_iff.mpr ⟨pw, no⟩
    refine both.imp fun {a b} h => ?_
    cases z : HT.lexLt a b with
    | true => rfl
    | false => exact absurd (lt_tot z h.1) h.2
  refine ⟨mkR_valid asc, fun q => ?_⟩
  rw [mkR_sum no]
  by_cases m : q ∈ out
  · rw [if_pos m]
  · rw [if_neg m, all q fun z => m (perm.mem_iff.mpr z)]
/-! ### rows in the heap -/
def EntAt (H : Hp) (v : V) (e : Ent) : Prop := ∃ t p, v = .ref t ∧ H t = some (.tup [.ref p, .int e.2]) ∧ H p = some (.tup (e.1.map V.int))
inductive Ents (H : Hp) : List V → List Ent → Prop
  | nil : Ents H [] []
  | cons {v : V} {e : Ent} {vs : List V} {es : List Ent} : EntAt H v e → Ents H vs es → Ents H (v :: vs) (e :: es)
theorem Ents.len {H : Hp} {vs : List V} {es : List Ent} (h : Ents H vs es) : vs.length = es.length := by
  induction h with
  | nil => rfl
  | cons _ _ ih => rw [List.length_cons, List.length_cons, ih]
theorem EntAt.mono {H H' : Hp} {v : V} {e : Ent} (s : ∀ b o, H b = some o → H' b = some o) (h : EntAt H v e) : EntAt H' v e := by
  obtain ⟨t, p, rfl, h1, h2⟩ := h
  exact ⟨t, p, rfl, s _ _ h1, s _ _ h2⟩
theorem Ents.mono {H H' : Hp} {vs : List V} {es : List Ent} (s : ∀ b o, H b = some o → H' b = some o) (h : Ents H vs es) : Ents H' vs es := by
  induction h with
  | nil => exact .nil
  | cons h1 _ ih => exact .cons (h1.mono s) ih
theorem Ents.app {H : Hp} {vs ws : List V} {es fs : List Ent} (h : Ents H vs es) (g : Ents H ws fs) : Ents H (vs ++ ws) (es ++ fs) := by
  induction h with
  | nil => exact g
  | cons h1 _ ih => exact .cons h1 ih
theorem Ents.get {H : Hp} {vs : List V} {es : List Ent} (h : Ents H vs es) : ∀ {i : Nat} {v : V}, vs[i]? = some v → ∃ e, es[i]? = some e ∧ EntAt H v e := by
  induction h with
  | nil => intro i v h; simp at h
  | cons h1 _ ih =>
    intro i v hv
    cases i with
    | zero =>
      cases hv
      exact ⟨_, rfl, h1⟩
    | succ i => exact ih (i := i) hv
theorem Ents.at {H : Hp} {vs : List V} {es : List Ent} (h : Ents H vs es) {i : Nat} (hi : i < es.length) : ∃ v, vs[i]? = some v ∧ EntAt H v es[i] := by
  have h2 : i < vs.length := by rw [h.len]; exact hi
  obtain ⟨e, h3, h4⟩ := h.get (List.getElem?_eq_getElem h2)
  rw [List.getElem?_eq_getElem hi] at h3
  cases h3
  exact ⟨_, List.getElem?_eq_getElem h2, h4⟩
theorem Ents.set {H : Hp} {vs : List V} {es : List Ent} {v : V} {e : Ent} (h : Ents H vs es) (h1 : EntAt H v e) : ∀ i, Ents H (vs.set i v) (es.set i e) := by
  induction h with
  | nil => intro i; exact .nil
  | cons a b ih =>
    intro i
    cases i with
    | zero => exact .cons h1 b
    | succ i => exact .cons a (ih i)
/-- as data -/
def dPl (k : Pl) : PyData := .tuple (k.map .int)
def dEnt (e : Ent) : PyData := .tuple [dPl e.1, .int e.2]
def dRow (es : List Ent) : PyData := .list (es.map dEnt)
theorem dp_ints {K : PySem.W.Frag} {H : Hp} : ∀ k : Pl, DpAll K H (k.map V.int) (k.map PyData.int)
  | [] => .nil
  | n :: r => .cons (.int n) (dp_ints r)
theorem EntAt.dp {K : PySem.W.Frag} {H : Hp} {v : V} {e : Ent} (h : EntAt H v e) : Dp K H v (dEnt e) := by
  obtain ⟨t, p, rfl, h1, h2⟩ := h
  exact .tup (.inl (.inl h1)) (.cons (.tup (.inl (.inl h2)) (dp_ints _)) (.cons (.int _) .nil))
theorem Ents.dpAll {K : PySem.W.Frag} {H : Hp} {vs : List V} {es : List Ent} (h : Ents H vs es) : DpAll K H vs (es.map dEnt) := by
  induction h with
  | nil => exact .nil
  | cons h1 _ ih => exact .cons h1.dp ih
theorem Ents.dp {K : PySem.W.Frag} {H : Hp} {a : Addr} {vs : List V} {es : List Ent} (ha : SqL K H a vs) (h : Ents H vs es) : Dp K H (.ref a) (dRow es) := .lst ha h.dpAll
theorem lay_ints : ∀ k : Pl, PyData.canLayAll0 (k.map PyData.int) = true
  | [] => rfl
  | n :: r => by
    show (PyData.canLay0 (.int n) && PyData.canLayAll0 (r.map PyData.int)) = true
    rw [lay_ints r]
    rfl
theorem lay_row : ∀ es : List Ent, PyData.canLayAll0 (es.map dEnt) = true
  | [] => rfl
  | e :: r => by
    show (PyData.canLay0 (dEnt e) && PyData.canLayAll0 (r.map dEnt)) = true
    rw [lay_row r]
    show ((PyData.canLayAll0 (e.1.map PyData.int) && (PyData.canLay0 (.int e.2) && true)) && true) = true
    rw [lay_ints]
    rfl
end OT

set_option Elab.async false
set_option linter.all false
set_option maxRecDepth 100000
set_option maxHeartbeats 4000000
/-! raise C(), an own class whose __init__ takes no argument but the error itself -/
namespace L2
open PySem PySem.Spec PyProof.Rows PySem.W PySem.Calls PySem.HandSPX
section
variable {X : Cx} {p pos : Pos} {pins : List (Addr × Obj)} {σ : St} {H : Hp} {st : Shared}
/-- the heap with the bare error and its empty arguments behind the old objects -/
def bareHeap (C : Addr) (h : Heap) : Heap := (h.push (kdv_tup [])).push (excO C h.objs.size)
theorem bare_grows {C : Addr} {h : Heap} (b : Addr) (o : Obj) (e : h.get? b = some o) : (bareHeap C h).get? b = some o := Heap.get?_push_of_some _ (Heap.get?_push_of_some _ e)
theorem bare_there {C : Addr} {h : Heap} : (bareHeap C h).get? (h.objs.size + 1) = some (excO C h.objs.size) := by
  show ((h.push (kdv_tup [])).push (excO C h.objs.size)).get? (h.objs.size + 1) = _
  heap_get
theorem bare_inv {C : Addr} (I : Inv X pins σ H st) : H (st.heap.objs.size + 1) = none ∧ Inv X pins σ (upd H (st.heap.objs.size + 1) (exo (st.heap.objs.size + 1) C none)) ⟨bareHeap C st.heap, st.gens, st.drawn, st.toks, st.os⟩ :=
  ⟨I.hok.fresh (Nat.le_succ _), I.laid (t' := st.toks) (a := st.heap.objs.size + 1) (h' := bareHeap C st.heap) (o := exo (st.heap.objs.size + 1) C none) bare_grows (Nat.le_succ _) (exo_ok bare_there)⟩
theorem pmk_oex0 {CX : CXT} {x : Str} {C fI : Addr} {k : Nat} {fd : FuncData} {ps : List Str} {sp : Sp} (T : OexC X.K C) (iC : findIn X.K (.ref C) "__init__" = some (some (.ref fI))) (tI : typeIn X.K (.ref fI) = some (.type "function"))
    (G : FnOk X.prog X.w X.K X.mg X.base CX k fI fd ps sp) (hr : Room (k + 1) X.A) (bi : Binds X.K fd ps []) (no : Passes CX X fun _ _ _ => False) (hg : Gl X x) (hm : X.mg x = some (.ref C)) (nd : (x == ("__debug__" : Str)) = false := by decide) :
    PMk X (.Call (.Name x p) [] [] pos) (tMkO C sp [] tNil) := by
  intro pins σ0 σ H Q I want
  rcases σ0 with ⟨h, gs, dw, ts, os⟩
  obtain ⟨_, _, _, _, bm, _, _, _, _, _, _, _, _, _, _, stands, vb⟩ := T.cls
  obtain ⟨_, ask⟩ := want
  obtain ⟨free, J⟩ := bare_inv (C := C) I
  have promise := ask (h.objs.size + 1) free
  have one : ([Value.ref (h.objs.size + 1)] : List Value).length = ps.length := (G.len _ _ _ _ promise).symm ▸ rfl
  have body := G.run (X.A.under (.builtin "type.__call__" ⟨[.ref C], []⟩)) X.stack _ _ ⟨[.ref (h.objs.size + 1)], []⟩ [.ref (h.objs.size + 1)] _ _ (fun _ _ _ => False) (hr.make C [] []) (J.env0.make C [] []) (bi _ [.ref (h.objs.size + 1)] J.kIn one) (show Vals [V.ref (h.objs.size + 1)] [Value.ref (h.objs.size + 1)] from .cons rfl .nil) promise
  refine wpAny_Call_Name_kw (ld_glob I hg hm (callWith_K0 I.kIn T.kC ?_) nd)
  refine wpAny_call (call_own (rest := []) F.excBase_ValueError (fun Y => refsVE_contains Y bm vb) (I.kIn _ _ stands) (looks_findIn I.kIn iC) (fun me => bind_fn I.kIn me tI) (Nat.zero_le _) (codeAny_mono body ?_))
  rintro (er | fl) s2 end_
  · exact no pins σ _ _ er s2 J end_
  · cases fl with
    | ret u =>
      rcases s2 with ⟨h2, gs2, dw2, ts2, os2⟩
      obtain ⟨_, H2, same, bare, un, ok2, rel, rfl, d, fs, at_a, at_d, new, q⟩ := end_
      exact ⟨rel, mk_end (raises_own T.exC T.tyC) I (Nat.le_succ _) bare_grows un ok2 same bare at_a at_d new q⟩
    | next => cases end_
    | brk => cases end_
    | cont => cases end_
end
end L2

set_option Elab.async false
set_option linter.all false
set_option maxRecDepth 100000
set_option maxHeartbeats 2000000
/-! sums over entries with weights: they depend on the sums at the places alone -/
namespace OT
open PySem PySem.Spec PyProof.Rows L2
def sumW (w : Pl → Int) : List Ent → Int
  | [] => 0
  | e :: r => e.2 * w e.1 + sumW w r
theorem sumW_app (w : Pl → Int) : ∀ a b : List Ent, sumW w (a ++ b) = sumW w a + sumW w b
  | [], b => by show sumW w b = 0 + sumW w b; omega
  | e :: r, b => by
    show e.2 * w e.1 + sumW w (r ++ b) = e.2 * w e.1 + sumW w r + sumW w b
    rw [sumW_app w r b]
    omega
/-- 1 at the place -/
def at1 (q : Pl) : Pl → Int := fun k => if k = q then 1 else 0
theorem numAt_sumW (q : Pl) : ∀ es : List Ent, numAt es q = sumW (at1 q) es
  | [] => rfl
  | e :: r => by
    show (if e.1 = q then e.2 else 0) + numAt r q = e.2 * (if e.1 = q then 1 else 0) + sumW (at1 q) r
    rw [numAt_sumW q r]
    by_cases h : e.1 = q
    · rw [if_pos h, if_pos h, Int.mul_one]
    · rw [if_neg h, if_neg h, Int.mul_zero]
def negs (es : List Ent) : List Ent := es.map fun e => (e.1, -e.2)
theorem numAt_negs (q : Pl) : ∀ es : List Ent, numAt (negs es) q = - numAt es q
  | [] => rfl
  | e :: r => by
    have ih := numAt_negs q r
    show (if e.1 = q then -e.2 else 0) + numAt (negs r) q = -((if e.1 = q then e.2 else 0) + numAt r q)
    rw [ih]
    by_cases h : e.1 = q
    · rw [if_pos h, if_pos h]; omega
    · rw [if_neg h, if_neg h]; omega
theorem sumW_negs (w : Pl → Int) : ∀ es : List Ent, sumW w (negs es) = - sumW w es
  | [] => rfl
  | e :: r => by
    have ih := sumW_negs w r
    show -e.2 * w e.1 + sumW w (negs r) = -(e.2 * w e.1 + sumW w r)
    rw [ih, Int.neg_mul]
    omega
def off (k : Pl) (es : List Ent) : List Ent := es.filter fun e => decide (e.1 ≠ k)
theorem sumW_off (w : Pl → Int) (k : Pl) : ∀ es : List Ent, sumW w es = numAt es k * w k + sumW w (off k es)
  | [] => by show (0 : Int) = 0 * w k + 0; rw [Int.zero_mul]; rfl
  | e :: r => by
    have ih := sumW_off w k r
    show e.2 * w e.1 + sumW w r = ((if e.1 = k then e.2 else 0) + numAt r k) * w k + sumW w (off k (e :: r))
    unfold off at ih ⊢
    rw [List.filter_cons]
    by_cases h : e.1 = k
    · rw [if_pos h, if_neg (by simp [h]), ih, Int.add_mul, h]
      omega
    · rw [if_neg h, if_pos (decide_eq_true h), ih]
      show e.2 * w e.1 + _ = (0 + numAt r k) * w k + (e.2 * w e.1 + _)
      rw [Int.zero_add]
      omega
theorem numAt_off (k q : Pl) (es : List Ent) : numAt (off k es) q = if q = k then 0 else numAt es q := by
  by_cases h : q = k
  · subst h
    rw [if_pos rfl]
    refine numAt_out fun e he => ?_
    exact of_decide_eq_true (List.mem_filter.mp he).2
  · rw [if_neg h]
    have h1 := sumW_off (at1 q) k es
    rw [← numAt_sumW, ← numAt_sumW] at h1
    have : at1 q k = 0 := if_neg fun z => h z.symm
    rw [this, Int.mul_zero] at h1
    omega
theorem off_len {k : Pl} : ∀ {es : List Ent}, (∃ e ∈ es, e.1 = k) → (off k es).length < es.length := by
  intro es ⟨e, he, hk⟩
  unfold off
  refine List.length_filter_lt_length_iff_exists.mpr ⟨e, he, ?_⟩
  simp [hk]
theorem sumW_zero (w : Pl → Int) : ∀ (n : Nat) (es : List Ent), es.length ≤ n → (∀ q, numAt es q = 0) → sumW w es = 0
  | _, [], _, _ => rfl
  | 0, e :: r, h, _ => by simp at h
  | n + 1, e :: r, h, z => by
    rw [sumW_off w e.1, z e.1, Int.zero_mul, Int.zero_add]
    refine sumW_zero w n _ ?_ fun q => ?_
    · have := off_len (k := e.1) (es := e :: r) ⟨e, List.mem_cons_self, rfl⟩
      omega
    · rw [numAt_off]
      by_cases hq : q = e.1
      · rw [if_pos hq]
      · rw [if_neg hq]
        exact z q
/-- the key: sums with weights depend on the sums at the places alone -/
theorem sumW_eq (w : Pl → Int) {a b : List Ent} (h : ∀ q, numAt a q = numAt b q) : sumW w a = sumW w b := by
  have z := sumW_zero w _ (a ++ negs b) (Nat.le_refl _) fun q => by
    rw [numAt_app, numAt_negs, h q]
    omega
  rw [sumW_app, sumW_negs] at z
  omega
theorem RowIs.sum {r es : List Ent} (h : RowIs r es) (w : Pl → Int) : sumW w r = sumW w es := sumW_eq w h.s
/-- places moved by a function -/
def mapF (f : Pl → Pl) (es : List Ent) : List Ent := es.map fun e => (f e.1, e.2)
theorem sumW_mapF (w : Pl → Int) (f : Pl → Pl) : ∀ es : List Ent, sumW w (mapF f es) = sumW (fun k => w (f k)) es
  | [] => rfl
  | e :: r => by
    have ih := sumW_mapF w f r
    show e.2 * w (f e.1) + sumW w (mapF f r) = e.2 * w (f e.1) + sumW (fun k => w (f k)) r
    rw [ih]
theorem sumW_congr {w v : Pl → Int} : ∀ {es : List Ent}, (∀ e ∈ es, w e.1 = v e.1) → sumW w es = sumW v es
  | [], _ => rfl
  | e :: r, h => by
    show e.2 * w e.1 + sumW w r = e.2 * v e.1 + sumW v r
    rw [h e List.mem_cons_self, sumW_congr fun x hx => h x (List.mem_cons_of_mem _ hx)]
theorem numAt_mapF_eq (f : Pl → Pl) {a b : List Ent} (h : ∀ q, numAt a q = numAt b q) (q : Pl) : numAt (mapF f a) q = numAt (mapF f b) q := by
  rw [numAt_sumW, numAt_sumW, sumW_mapF, sumW_mapF]
  exact sumW_eq _ h
/-- the row of what is moved from a row -/
theorem RowIs.mapped {r es g : List Ent} {f : Pl → Pl} (h : RowIs r es) (hg : RowIs g (mapF f r)) : RowIs g (mapF f es) := ⟨hg.v, fun q => (hg.s q).trans (numAt_mapF_eq f h.s q)⟩
theorem RowIs.congr {r a b : List Ent} (h : RowIs r a) (e : ∀ q, numAt a q = numAt b q) : RowIs r b := ⟨h.v, fun q => (h.s q).trans (e q)⟩
theorem RowIs.app {r s a b c : List Ent} (h : RowIs r a) (k : RowIs s b) (g : RowIs c (r ++ s)) : RowIs c (a ++ b) := ⟨g.v, fun q => by
  rw [g.s, numAt_app, numAt_app, h.s, k.s]⟩
/-- products by pairs, with any sum of places -/
def prodL (op : Pl → Pl → Pl) (es fs : List Ent) : List Ent := es.flatMap fun e => fs.map fun g => (op e.1 g.1, e.2 * g.2)
theorem sumW_row (w : Pl → Int) (op : Pl → Pl → Pl) (e : Ent) : ∀ fs : List Ent, sumW w (fs.map fun g => (op e.1 g.1, e.2 * g.2)) = e.2 * sumW (fun l => w (op e.1 l)) fs
  | [] => by show (0 : Int) = e.2 * 0; rw [Int.mul_zero]
  | g :: r => by
    have ih := sumW_row w op e r
    show e.2 * g.2 * w (op e.1 g.1) + sumW w (r.map _) = e.2 * (g.2 * w (op e.1 g.1) + sumW _ r)
    rw [ih, Int.mul_add, Int.mul_assoc]
theorem sumW_prodL (w : Pl → Int) (op : Pl → Pl → Pl) : ∀ es fs : List Ent, sumW w (prodL op es fs) = sumW (fun k => sumW (fun l => w (op k l)) fs) es
  | [], fs => rfl
  | e :: r, fs => by
    have ih := sumW_prodL w op r fs
    show sumW w ((fs.map fun g => (op e.1 g.1, e.2 * g.2)) ++ prodL op r fs) = e.2 * sumW (fun l => w (op e.1 l)) fs + _
    rw [sumW_app, sumW_row, ih]
theorem numAt_prodL_eq (op : Pl → Pl → Pl) {a b c d : List Ent} (h : ∀ q, numAt a q = numAt b q) (k : ∀ q, numAt c q = numAt d q) (q : Pl) : numAt (prodL op a c) q = numAt (prodL op b d) q := by
  rw [numAt_sumW, numAt_sumW, sumW_prodL, sumW_prodL, sumW_eq _ h]
  refine sumW_congr fun e _ => sumW_eq _ k
end OT

set_option Elab.async false
set_option linter.all false
set_option maxRecDepth 100000
set_option maxHeartbeats 2000000
namespace OT
open PySem PySem.Spec PyProof.Rows L2
def topS (i : Nat) : Stmt := PySem.Challenge.pw_owntables_k07_flip.main.body.getD i (.Pass ⟨0, 0, 0, 0⟩)
abbrev s_TableError___init__ : Stmt := inClass (topS 2) 0
theorem sc_TableError___init__ : FnScope ["self"] ["self"] (C8.fnScope s_TableError___init__) := C8.fnScope_by (by decide +kernel)
abbrev s_IndexedError___init__ : Stmt := inClass (topS 3) 0
theorem sc_IndexedError___init__ : FnScope ["self", "index"] ["self", "index"] (C8.fnScope s_IndexedError___init__) := C8.fnScope_by (by decide +kernel)
abbrev s_places_length : Stmt := topS 8
theorem sc_places_length : FnScope ["row"] ["row"] (C8.fnScope s_places_length) := C8.fnScope_by (by decide +kernel)
abbrev s_same_lengths : Stmt := topS 9
theorem sc_same_lengths : FnScope ["lengths", "known", "length"] ["lengths"] (C8.fnScope s_same_lengths) := C8.fnScope_by (by decide +kernel)
abbrev s_same_dimension : Stmt := topS 10
theorem sc_same_dimension : FnScope ["rows", "places", "row", "place"] ["rows", "places"] (C8.fnScope s_same_dimension) := C8.fnScope_by (by decide +kernel)
abbrev s_bounds : Stmt := topS 12
theorem sc_bounds : FnScope ["row", "places", "column", "place", "number"] ["row"] (C8.fnScope s_bounds) := C8.fnScope_by (by decide +kernel)
abbrev s_product_sizes : Stmt := topS 15
theorem sc_product_sizes : FnScope ["first", "second", "low", "high", "other_low", "other_high"] ["first", "second"] (C8.fnScope s_product_sizes) := C8.fnScope_by (by decide +kernel)
abbrev s_longest : Stmt := topS 16
theorem sc_longest : FnScope ["row", "place", "number"] ["row"] (C8.fnScope s_longest) := C8.fnScope_by (by decide +kernel)
abbrev s_digit_bits : Stmt := topS 17
theorem sc_digit_bits : FnScope ["first", "second", "many"] ["first", "second"] (C8.fnScope s_digit_bits) := C8.fnScope_by (by decide +kernel)
abbrev s_is_crowded : Stmt := topS 18
theorem sc_is_crowded : FnScope ["first", "second", "many", "length", "size"] ["first", "second"] (C8.fnScope s_is_crowded) := C8.fnScope_by (by decide +kernel)
abbrev s_digit_at : Stmt := topS 19
theorem sc_digit_at : FnScope ["place", "lows", "sizes", "index", "x", "low", "size"] ["place", "lows", "sizes"] (C8.fnScope s_digit_at) := C8.fnScope_by (by decide +kernel)
abbrev s_place_at : Stmt := topS 20
theorem sc_place_at : FnScope ["index", "lows", "sizes", "coordinates", "low", "size"] ["index", "lows", "sizes"] (C8.fnScope s_place_at) := C8.fnScope_by (by decide +kernel)
abbrev s_joined_digits : Stmt := topS 21
theorem sc_joined_digits : FnScope ["digits", "bits", "padded", "low", "high"] ["digits", "bits"] (C8.fnScope s_joined_digits) := C8.fnScope_by (by decide +kernel)
abbrev s_low_digit : Stmt := topS 22
theorem sc_low_digit : FnScope ["number", "bits", "half"] ["number", "bits"] (C8.fnScope s_low_digit) := C8.fnScope_by (by decide +kernel)
abbrev s_split_digits : Stmt := topS 23
theorem sc_split_digits : FnScope ["number", "bits", "many", "digits", "width", "lows", "digit", "part", "low"] ["number", "bits", "many"] (C8.fnScope s_split_digits) := C8.fnScope_by (by decide +kernel)
abbrev s_great_integer : Stmt := topS 24
theorem sc_great_integer : FnScope ["row", "sizes", "bits", "lows", "digits", "place", "number", "low", "high"] ["row", "sizes", "bits"] (C8.fnScope s_great_integer) := C8.fnScope_by (by decide +kernel)
abbrev s_crowded_product : Stmt := topS 25
theorem sc_crowded_product : FnScope ["first", "second", "sizes", "bits", "lows", "number", "many", "digits", "index", "digit", "low", "high", "other", "top", "size"] ["first", "second"] (C8.fnScope s_crowded_product) := C8.fnScope_by (by decide +kernel)
abbrev s_reach : Stmt := topS 27
theorem sc_reach : FnScope ["row", "x", "place", "number"] ["row"] (C8.fnScope s_reach) := C8.fnScope_by (by decide +kernel)
abbrev s_key_base : Stmt := topS 28
theorem sc_key_base : FnScope ["first", "second"] ["first", "second"] (C8.fnScope s_key_base) := C8.fnScope_by (by decide +kernel)
abbrev s_key_of : Stmt := topS 29
theorem sc_key_of : FnScope ["place", "base", "key", "x"] ["place", "base"] (C8.fnScope s_key_of) := C8.fnScope_by (by decide +kernel)
abbrev s_place_of : Stmt := topS 30
theorem sc_place_of : FnScope ["key", "base", "length", "half", "coordinates", "step", "x"] ["key", "base", "length"] (C8.fnScope s_place_of) := C8.fnScope_by (by decide +kernel)
abbrev s_keyed : Stmt := topS 31
theorem sc_keyed : FnScope ["row", "base", "place", "number"] ["row", "base"] (C8.fnScope s_keyed) := C8.fnScope_by (by decide +kernel)
abbrev s_unkeyed : Stmt := topS 32
theorem sc_unkeyed : FnScope ["numbers", "base", "length", "key"] ["numbers", "base", "length"] (C8.fnScope s_unkeyed) := C8.fnScope_by (by decide +kernel)
abbrev s_multiply : Stmt := topS 33
theorem sc_multiply : FnScope ["first", "second", "base", "right", "sums", "key", "number", "other", "times"] ["first", "second"] (C8.fnScope s_multiply) := C8.fnScope_by (by decide +kernel)
abbrev s_mirror : Stmt := topS 34
theorem sc_mirror : FnScope ["row", "place", "number", "x"] ["row"] (C8.fnScope s_mirror) := C8.fnScope_by (by decide +kernel)
abbrev s_quotient_box : Stmt := topS 36
theorem sc_quotient_box : FnScope ["row", "factor", "low", "high", "factor_low", "factor_high"] ["row", "factor"] (C8.fnScope s_quotient_box) := C8.fnScope_by (by decide +kernel)
abbrev s_inside : Stmt := topS 37
theorem sc_inside : FnScope ["place", "box", "x", "low", "high"] ["place", "box"] (C8.fnScope s_inside) := C8.fnScope_by (by decide +kernel)
abbrev s_divide : Stmt := topS 38
theorem sc_divide : FnScope ["row", "factor", "length", "base", "box", "terms", "rest", "queue", "partial", "first", "lead", "key", "at", "times", "other", "number", "change"] ["row", "factor"] (C8.fnScope s_divide) := C8.fnScope_by (by decide +kernel)
abbrev s_quotient : Stmt := topS 39
theorem sc_quotient : FnScope ["row", "factor", "partial", "rest"] ["row", "factor"] (C8.fnScope s_quotient) := C8.fnScope_by (by decide +kernel)
abbrev s_flip : Stmt := topS 41
theorem sc_flip : FnScope ["row", "factor"] ["row", "factor"] (C8.fnScope s_flip) := C8.fnScope_by (by decide +kernel)
abbrev s__law_cell : Stmt := topS 43
theorem sc__law_cell : FnScope ["_law_script", "_law_k"] ["_law_script", "_law_k"] (C8.fnScope s__law_cell) := C8.fnScope_by (by decide +kernel)
abbrev s__law_draws : Stmt := topS 44
theorem sc__law_draws : FnScope ["_law_cell_here", "_law_sizes", "_law_draws_here", "_law_rest", "_law_k", "_law_mixed"] ["_law_cell_here", "_law_sizes"] (C8.fnScope s__law_draws) := C8.fnScope_by (by decide +kernel)
abbrev s__law_is_integer : Stmt := topS 45
theorem sc__law_is_integer : FnScope ["_law_actual"] ["_law_actual"] (C8.fnScope s__law_is_integer) := C8.fnScope_by (by decide +kernel)
abbrev s__law_is_place : Stmt := topS 46
theorem sc__law_is_place : FnScope ["_law_actual", "_law_x"] ["_law_actual"] (C8.fnScope s__law_is_place) := C8.fnScope_by (by decide +kernel)
abbrev s__law_is_row : Stmt := topS 47
theorem sc__law_is_row : FnScope ["_law_actual", "_law_k", "_law_entry"] ["_law_actual"] (C8.fnScope s__law_is_row) := C8.fnScope_by (by decide +kernel)
abbrev s__law_same : Stmt := topS 48
theorem sc__law_same : FnScope ["_law_actual", "_law_expected"] ["_law_actual", "_law_expected"] (C8.fnScope s__law_same) := C8.fnScope_by (by decide +kernel)
abbrev s__law_plus : Stmt := topS 49
theorem sc__law_plus : FnScope ["_law_place", "_law_other", "_law_k"] ["_law_place", "_law_other"] (C8.fnScope s__law_plus) := C8.fnScope_by (by decide +kernel)
abbrev s__law_back : Stmt := topS 50
theorem sc__law_back : FnScope ["_law_place", "_law_x"] ["_law_place"] (C8.fnScope s__law_back) := C8.fnScope_by (by decide +kernel)
abbrev s__law_row : Stmt := topS 51
theorem sc__law_row : FnScope ["_law_pairs", "_law_sums", "_law_place", "_law_number"] ["_law_pairs"] (C8.fnScope s__law_row) := C8.fnScope_by (by decide +kernel)
abbrev s__law_add : Stmt := topS 52
theorem sc__law_add : FnScope ["_law_first", "_law_second"] ["_law_first", "_law_second"] (C8.fnScope s__law_add) := C8.fnScope_by (by decide +kernel)
abbrev s__law_scaled : Stmt := topS 53
theorem sc__law_scaled : FnScope ["_law_row_here", "_law_factor", "_law_entry"] ["_law_row_here", "_law_factor"] (C8.fnScope s__law_scaled) := C8.fnScope_by (by decide +kernel)
abbrev s__law_times : Stmt := topS 54
theorem sc__law_times : FnScope ["_law_first", "_law_second", "_law_pairs", "_law_place", "_law_number", "_law_other", "_law_factor"] ["_law_first", "_law_second"] (C8.fnScope s__law_times) := C8.fnScope_by (by decide +kernel)
abbrev s__law_mirror : Stmt := topS 55
theorem sc__law_mirror : FnScope ["_law_row_here", "_law_entry"] ["_law_row_here"] (C8.fnScope s__law_mirror) := C8.fnScope_by (by decide +kernel)
abbrev s__law_moved : Stmt := topS 56
theorem sc__law_moved : FnScope ["_law_row_here", "_law_by", "_law_entry"] ["_law_row_here", "_law_by"] (C8.fnScope s__law_moved) := C8.fnScope_by (by decide +kernel)
abbrev s__law_cross : Stmt := topS 57
theorem sc__law_cross : FnScope ["_law_first", "_law_second"] ["_law_first", "_law_second"] (C8.fnScope s__law_cross) := C8.fnScope_by (by decide +kernel)
abbrev s__law_own : Stmt := topS 58
theorem sc__law_own : FnScope ["_law_row_here"] ["_law_row_here"] (C8.fnScope s__law_own) := C8.fnScope_by (by decide +kernel)
abbrev s__law_corner : Stmt := topS 59
theorem sc__law_corner : FnScope ["_law_row_here", "_law_k", "_law_entry"] ["_law_row_here"] (C8.fnScope s__law_corner) := C8.fnScope_by (by decide +kernel)
abbrev s__law_zero : Stmt := topS 60
theorem sc__law_zero : FnScope ["_law_count", "_law_k"] ["_law_count"] (C8.fnScope s__law_zero) := C8.fnScope_by (by decide +kernel)
abbrev s__law_places : Stmt := topS 61
theorem sc__law_places : FnScope ["_law_box_here", "_law_places_here", "_law_width", "_law_longer", "_law_place", "_law_k"] ["_law_box_here"] (C8.fnScope s__law_places) := C8.fnScope_by (by decide +kernel)
abbrev s__law_drawn : Stmt := topS 62
theorem sc__law_drawn : FnScope ["_law_cell_here", "_law_box_here", "_law_reach", "_law_moves", "_law_places_here", "_law_draws_here", "_law_by", "_law_k"] ["_law_cell_here", "_law_box_here", "_law_reach", "_law_moves"] (C8.fnScope s__law_drawn) := C8.fnScope_by (by decide +kernel)
abbrev s__law_box : Stmt := topS 63
theorem sc__law_box : FnScope ["_law_kind", "_law_wide"] ["_law_kind", "_law_wide"] (C8.fnScope s__law_box) := C8.fnScope_by (by decide +kernel)
abbrev s__law_is_error : Stmt := topS 64
theorem sc__law_is_error : FnScope ["_law_e", "_law_word"] ["_law_e", "_law_word"] (C8.fnScope s__law_is_error) := C8.fnScope_by (by decide +kernel)
abbrev s__law_words : Stmt := topS 65
theorem sc__law_words : FnScope ["_law_e", "_law_words_here"] ["_law_e"] (C8.fnScope s__law_words) := C8.fnScope_by (by decide +kernel)
abbrev s__law_refuses : Stmt := topS 66
theorem sc__law_refuses : FnScope ["_law_row_here", "_law_factor", "_law_word", "_law_handed", "_law_turn", "_law_refused", "_law_e"] ["_law_row_here", "_law_factor", "_law_word"] (C8.fnScope s__law_refuses) := C8.fnScope_by (by decide +kernel)
abbrev s__law_flips : Stmt := topS 67
theorem sc__law_flips : FnScope ["_law_row_here", "_law_factor", "_law_expected", "_law_handed", "_law_turn", "_law_back_here", "_law_told"] ["_law_row_here", "_law_factor", "_law_expected"] (C8.fnScope s__law_flips) := C8.fnScope_by (by decide +kernel)
abbrev s__law_widened : Stmt := topS 68
theorem sc__law_widened : FnScope ["_law_row_here", "_law_draw", "_law_count"] ["_law_row_here", "_law_draw", "_law_count"] (C8.fnScope s__law_widened) := C8.fnScope_by (by decide +kernel)
abbrev s__law_aside : Stmt := topS 69
theorem sc__law_aside : FnScope ["_law_far", "_law_count", "_law_k"] ["_law_far", "_law_count"] (C8.fnScope s__law_aside) := C8.fnScope_by (by decide +kernel)
abbrev s__law_single : Stmt := topS 70
theorem sc__law_single : FnScope ["_law_cell_here", "_law_count", "_law_draws_here", "_law_place", "_law_k"] ["_law_cell_here", "_law_count"] (C8.fnScope s__law_single) := C8.fnScope_by (by decide +kernel)
abbrev s__law_near : Stmt := topS 71
theorem sc__law_near : FnScope ["_law_cell_here", "_law_row_here", "_law_count", "_law_wide", "_law_draws_here", "_law_place", "_law_k"] ["_law_cell_here", "_law_row_here", "_law_count"] (C8.fnScope s__law_near) := C8.fnScope_by (by decide +kernel)
abbrev s__law_foreign : Stmt := topS 72
theorem sc__law_foreign : FnScope ["_law_cell_here", "_law_count", "_law_row_here"] ["_law_cell_here", "_law_count"] (C8.fnScope s__law_foreign) := C8.fnScope_by (by decide +kernel)
abbrev s__law_quotient : Stmt := topS 73
theorem sc__law_quotient : FnScope ["_law_factor", "_law_rest", "_law_extra", "_law_place", "_law_at"] ["_law_factor", "_law_rest", "_law_extra", "_law_place"] (C8.fnScope s__law_quotient) := C8.fnScope_by (by decide +kernel)
abbrev s__law_by_number : Stmt := topS 74
theorem sc__law_by_number : FnScope ["_law_product", "_law_factor", "_law_rest", "_law_times_here", "_law_wider", "_law_entry", "_law_part"] ["_law_product", "_law_factor", "_law_rest", "_law_times_here"] (C8.fnScope s__law_by_number) := C8.fnScope_by (by decide +kernel)
abbrev s_law : Stmt := topS 75
theorem sc_law : FnScope ["_law_script", "_law_draws_here", "_law_box_here", "_law_count", "_law_mode", "_law_factor", "_law_rest", "_law_product", "_law_turned", "_law_extra", "_law_place", "_law_row_here", "_law_quotient_here", "_law_other"] ["_law_script"] (C8.fnScope s_law) := C8.fnScope_by (by decide +kernel)
theorem iteD {c A B : Prop} [Decidable c] (h1 : c → A) (h2 : ¬ c → B) : if decide c = true then A else B := by
  by_cases h : c
  · rw [decide_eq_true h]
    exact iteT (h1 h)
  · rw [decide_eq_false h]
    exact iteF (h2 h)
theorem iteND {c A B : Prop} [Decidable c] (h1 : ¬ c → A) (h2 : c → B) : if (!decide c) = true then A else B := by
  by_cases h : c
  · rw [decide_eq_true h]
    exact iteF (h2 h)
  · rw [decide_eq_false h]
    exact iteT (h1 h)
theorem iteB {c : Bool} {A B : Prop} (h1 : c = true → A) (h2 : c = false → B) : if c = true then A else B := by
  cases c with
  | true => exact iteT (h1 rfl)
  | false => exact iteF (h2 rfl)
theorem atI_int {ns : List Int} {k : Int} (h0 : 0 ≤ k) (h1 : k < (ns.length : Int)) : ∃ c, atI (ns.map V.int) k = some (.int c) ∧ ns[k.toNat]? = some c := by
  obtain ⟨j, rfl⟩ := Int.eq_ofNat_of_zero_le h0
  have hj : j < ns.length := by omega
  refine ⟨ns[j], atI_nat ?_, ?_⟩
  · rw [List.getElem?_map, List.getElem?_eq_getElem hj]
    rfl
  · rw [Int.toNat_natCast, List.getElem?_eq_getElem hj]
theorem same_upd {H : Hp} {p : Addr} {o : HO} (h : H p = none) : Same H (upd H p o) := fun b x e => by
  rw [upd_ne (ne_of_none e h)]
  exact e
theorem same_mut {H H' : Hp} {p : Addr} {o : HO} (e : Same H H') (h : H p = none) : Same H (upd H' p o) := fun b x z => by
  rw [upd_ne (ne_of_none z h)]
  exact e b x z
theorem same_t {K : PySem.W.Frag} {H H' : Hp} {a : Addr} {xs : List V} (e : Same H H') (h : SqT K H a xs) : SqT K H' a xs := by
  rcases h with (h | ⟨o, h⟩) | h
  · exact .inl (.inl (e _ _ h))
  · exact .inl (.inr ⟨o, e _ _ h⟩)
  · exact .inr h
/-- the module's names that stay the built-in ones -/
structure Bi (mg : Str → Option Value) : Prop where
  n_len : mg "len" = none
  n_int : mg "int" = none
  n_str : mg "str" = none
  n_bool : mg "bool" = none
  n_list : mg "list" = none
  n_tuple : mg "tuple" = none
  n_range : mg "range" = none
  n_enumerate : mg "enumerate" = none
  n_isinstance : mg "isinstance" = none
  n_sorted : mg "sorted" = none
  n_abs : mg "abs" = none
  n_any : mg "any" = none
  n_all : mg "all" = none
  n_sum : mg "sum" = none
  n_min : mg "min" = none
  n_max : mg "max" = none
  n_zip : mg "zip" = none
  n_set : mg "set" = none
section
variable {P : Program} {w : World} {K : PySem.W.Frag} {mg : Str → Option Value} {base : Heap}
/-! ### a cell of the script -/
def spCell (K : PySem.W.Frag) : Sp := fun vs H Q _ => ∃ (a : Addr) (ns : List Int) (k : Int), vs = [.ref a, .int k] ∧ SqL K H a (ns.map V.int) ∧ 0 ≤ k ∧ ∀ c : Int, Q (.int c) H
theorem c__law_cell {f : Addr} {fd : FuncData} (D : C8.Def K mg "_law_cell" s__law_cell f fd) (b : Binds K fd ["_law_script", "_law_k"] []) (T : Bi mg) : C8.Cal P w K mg base 1 "_law_cell" (spCell K) [] := by
  refine C8.cal0 D b .nil sc__law_cell (fun vs H Q E h => ?_) (fun cdv A outer s H vs Q E hr h => ?_)
  · obtain ⟨a, ns, k, rfl, _⟩ := h
    rfl
  · obtain ⟨a, ns, k, rfl, hS, hk, q⟩ := h
    refine ⟨_, (pss_cons (ps_if (pt_cmpR op_lt (pv 1) (pe_callB call_len_seq (by rfl) T.n_len OT.b_len (pa_cons (pv 0) pa_nil)) (nomark _)) (pss_one (ps_ret (pe_ix ix_list (pv 0) (pv 1) (fun _ _ => rfl)))) pss_nil)
  (pss_cons (ps_if (pt_cmpR op_eq (pe_callB call_len_seq (by rfl) T.n_len OT.b_len (pa_cons (pv 0) pa_nil)) pe_int (nomark _)) (pss_one (ps_ret (pe_op op_add (pe_op op_mul pe_int (pv 1)) pe_int))) pss_nil)
  (pss_one (ps_ret (pe_op op_mod (pe_callTy call_int1 (by rfl) T.n_int OT.b_int (pa_cons (pe_op op_add (pe_op op_add (pe_op op_mul (pe_ix ix_list (pv 0) (pe_op op_mod (pe_callTy call_int1 (by rfl) T.n_int OT.b_int (pa_cons (pv 1) pa_nil)) (pe_callB call_len_seq (by rfl) T.n_len OT.b_len (pa_cons (pv 0) pa_nil))) (fun _ _ => rfl)) pe_int) (pe_op op_mul pe_int (pv 1))) pe_int) pa_nil)) pe_int))))), ?_⟩
    refine ⟨_, rfl, _, rfl, a, _, rfl, .inl hS, _, _, rfl, rfl, _, rfl, ?_⟩
    refine iteD (fun h1 => ?_) (fun h1 => ?_)
    · rw [List.length_map] at h1
      obtain ⟨c, hc, _⟩ := atI_int hk h1
      exact ⟨_, rfl, _, rfl, a, _, _, _, rfl, rfl, hS, hc, q c⟩
    · refine ⟨_, rfl, a, _, rfl, .inl hS, rfl, _, rfl, ?_⟩
      refine iteD (fun h2 => ?_) (fun h2 => ?_)
      · exact ⟨_, rfl, _, _, rfl, rfl, .inl ⟨by decide, by decide⟩, _, _, rfl, rfl, q _⟩
      · have hp : 0 < ns.length := by
          have h3 : ¬ (V.int ((ns.map V.int).length : Int) = V.int 0) := h2
          rw [List.length_map] at h3
          cases ns with
          | nil => exact absurd rfl h3
          | cons x r => exact Nat.succ_pos _
        have hm : 0 ≤ k % (ns.length : Int) := Int.emod_nonneg _ (by omega)
        have hm2 : k % (ns.length : Int) < ns.length := Int.emod_lt_of_pos _ (by omega)
        obtain ⟨c, hc, _⟩ := atI_int hm hm2
        refine ⟨_, rfl, _, rfl, .inl ⟨k, rfl, _, rfl, a, _, rfl, .inl hS, k, _, rfl, rfl, ?_, a, _, _, _, rfl, rfl, hS, ?_, c, _, rfl, rfl, .inr ⟨by decide, by decide⟩, _, rfl, _, _, rfl, rfl, .inl ⟨by decide, by decide⟩, _, _, rfl, rfl, _, _, rfl, rfl, .inl ⟨_, rfl, _, _, rfl, rfl, by show (0 : Int) < 2147483647; decide, q _⟩⟩⟩
        · rw [List.length_map]
          show (0 : Int) < (ns.length : Int)
          omega
        · rw [List.length_map]
          exact hc
/-! ### draws -/
theorem cmul_m1 (x y : Int) : CMul (x % 2147483647) y := by
  refine .inl ?_
  have h1 := Int.emod_nonneg x (show (2147483647 : Int) ≠ 0 by decide)
  have h2 := Int.emod_lt_of_pos x (show (0 : Int) < 2147483647 by decide)
  have h3 : (2 : Int) ^ 64 = 18446744073709551616 := by decide
  omega
theorem cmul_m2 (x y : Int) : CMul (x % 2147483629) y := by
  refine .inl ?_
  have h1 := Int.emod_nonneg x (show (2147483629 : Int) ≠ 0 by decide)
  have h2 := Int.emod_lt_of_pos x (show (0 : Int) < 2147483629 by decide)
  have h3 : (2 : Int) ^ 64 = 18446744073709551616 := by decide
  omega

theorem small64 {z : Int} (h1 : 0 < z) (h2 : z < 1000000000000000) : z.natAbs < 2 ^ 64 := by
  have : (2 : Nat) ^ 64 = 18446744073709551616 := by decide
  omega
def InR (ds zs : List Int) : Prop := ds.length = zs.length ∧ ∀ (i : Nat) (d z : Int), ds[i]? = some d → zs[i]? = some z → 0 ≤ d ∧ d < z
def spDraws (K : PySem.W.Frag) : Sp := fun vs H Q _ => ∃ (a : Addr) (zs : List Int) (c : Int), vs = [.int c, .ref a] ∧ SqL K H a (zs.map V.int) ∧ zs.length ≤ 1000 ∧ (∀ z ∈ zs, 0 < z ∧ z < 1000000000000000) ∧
  ∀ (ds : List Int) H' p, InR ds zs → Same H H' → H p = none → H' p = some (.lst (ds.map V.int)) → Q (.ref p) H'
theorem c__law_draws {f : Addr} {fd : FuncData} (D : C8.Def K mg "_law_draws" s__law_draws f fd) (b : Binds K fd ["_law_cell_here", "_law_sizes"] []) (T : Bi mg) : C8.Cal P w K mg base 1 "_law_draws" (spDraws K) [] := by
  refine C8.cal0 D b .nil sc__law_draws (fun vs H Q E h => ?_) (fun cdv A outer s H vs Q E hr h => ?_)
  · obtain ⟨a, zs, c, rfl, _⟩ := h
    rfl
  · obtain ⟨a, zs, c, rfl, hS, hl, hz, q⟩ := h
    refine ⟨_, (pss_cons (ps_set (i := 2) sc__law_draws.nd rfl (Or.inl rfl) (pe_lst pa_nil))
  (pss_cons (ps_set (i := 3) sc__law_draws.nd rfl (Or.inl rfl) (pe_op op_sub (pv 0) (pe_op op_pow pe_int pe_int)))
  (pss_cons (ps_for PassesOwn.never rfl (pi_range1 rfl T.n_range (pa_cons (pe_callB call_len_seq (by rfl) T.n_len OT.b_len (pa_cons (pv 1) pa_nil)) pa_nil)) (pg_name (i := 4) sc__law_draws.nd rfl (Or.inl rfl)) (pss_one (ps_if (pt_cmpR op_ge (pv 0) (pe_op op_pow pe_int pe_int) (nomark _)) (pss_cons (ps_expr (pe_bm PySem.F.plainAttrs_list PySem.F.slot_list_append PySem.F.type_list_append mt_append (pv 2) (pa_cons (pe_op op_mod (pe_callTy call_int1 (by rfl) T.n_int OT.b_int (pa_cons (pv 3) pa_nil)) (pe_ix ix_list (pv 1) (pv 4) (fun _ _ => rfl))) pa_nil)))
  (pss_one (ps_set (i := 3) sc__law_draws.nd rfl (Or.inl rfl) (pe_op op_fdivW (pv 3) (pe_ix ix_list (pv 1) (pv 4) (fun _ _ => rfl)))))) (pss_cons (ps_set (i := 5) sc__law_draws.nd rfl (Or.inl rfl) (pe_op op_mod (pe_callTy call_int1 (by rfl) T.n_int OT.b_int (pa_cons (pe_op op_add (pe_op op_add (pv 0) (pe_op op_mul pe_int (pv 4))) pe_int) pa_nil)) pe_int))
  (pss_cons (ps_set (i := 5) sc__law_draws.nd rfl (Or.inl rfl) (pe_op op_mod (pe_callTy call_int1 (by rfl) T.n_int OT.b_int (pa_cons (pe_op op_mul (pv 5) (pe_op op_add (pv 5) pe_int)) pa_nil)) pe_int))
  (pss_cons (ps_set (i := 5) sc__law_draws.nd rfl (Or.inl rfl) (pe_op op_mod (pe_callTy call_int1 (by rfl) T.n_int OT.b_int (pa_cons (pe_op op_add (pe_op op_mul (pv 5) (pe_op op_add (pv 5) pe_int)) (pe_op op_mul pe_int (pv 4))) pa_nil)) pe_int))
  (pss_one (ps_expr (pe_bm PySem.F.plainAttrs_list PySem.F.slot_list_append PySem.F.type_list_append mt_append (pv 2) (pa_cons (pe_op op_mod (pe_callTy call_int1 (by rfl) T.n_int OT.b_int (pa_cons (pe_op op_fdiv (pv 5) pe_int) pa_nil)) (pe_ix ix_list (pv 1) (pv 4) (fun _ _ => rfl))) pa_nil))))))))))
  (pss_one (ps_ret (pv 2)))))), ?_⟩
    refine ⟨Nat.zero_le _, fun p np => ?_⟩
    have s1 : Same H (upd H p (.lst [])) := same_upd np
    refine ⟨_, rfl, 10, 18, rfl, rfl, ?cp, _, _, rfl, rfl, ?_⟩
    case cp => exact ⟨by decide, by decide⟩
    refine ⟨_, rfl, a, _, rfl, .inl (s1.seq hS), _, rfl, ?_, ?_, ?_⟩
    · rw [List.length_map]
      omega
    · rw [List.length_map]
      have : (2 : Int) ^ 62 = 4611686018427387904 := by decide
      omega
    rw [List.length_map, Int.toNat_natCast]
    refine for_range (fun i σ H2 => ∃ (ds : List Int) (r : Int) (y4 y5 : Option V), σ = [some (.int c), some (.ref a), some (.ref p), some (.int r), y4, y5] ∧ Same H H2 ∧ H2 p = some (.lst (ds.map V.int)) ∧ InR ds (zs.take i)) ?_ ?_ ?_
    · exact ⟨[], _, none, none, rfl, s1, upd_same, rfl, fun i d z h => by simp at h⟩
    · rintro i σ H2 hi ⟨ds, r, y4, y5, rfl, sm, hp, hr2⟩
      have hzi : zs[i]? = some zs[i] := List.getElem?_eq_getElem hi
      obtain ⟨z1, z2⟩ := hz zs[i] (List.getElem_mem hi)
      have hix : atI (zs.map V.int) ((0 : Int) + (i : Int)) = some (.int zs[i]) := by
        rw [Int.zero_add]
        exact atI_nat (by rw [List.getElem?_map, hzi]; rfl)
      have hS2 := sm.seq hS
      have hlen : ds.length = i := by
        rw [hr2.1, List.length_take]
        omega
      have hlt : (ds.map V.int).length < sizeLine := by
        rw [List.length_map]
        exact small1000 (by omega)
      have more : ∀ x : Int, InR (ds ++ [x % zs[i]]) (zs.take (i + 1)) := fun x => by
        refine ⟨?_, fun j d z h1 h2 => ?_⟩
        · rw [List.length_append, List.length_take, hlen]
          simp
          omega
        · by_cases hj : j < i
          · rw [List.getElem?_append_left (by omega)] at h1
            rw [List.getElem?_take_of_lt (by omega)] at h2
            exact hr2.2 j d z h1 (by rw [List.getElem?_take_of_lt hj]; exact h2)
          · by_cases ej : j = i
            · subst ej
              rw [List.getElem?_append_right (by omega), hlen, Nat.sub_self] at h1
              rw [List.getElem?_take_of_lt (by omega), hzi] at h2
              have e1 : x % zs[j] = d := Option.some.inj h1
              have e2 : zs[j] = z := Option.some.inj h2
              rw [← e1, ← e2]
              exact ⟨Int.emod_nonneg _ (by omega), Int.emod_lt_of_pos _ z1⟩
            · rw [List.getElem?_eq_none (by rw [List.length_take]; omega)] at h2
              cases h2
      have fin : ∀ (x r' : Int) (y4 y5 : Option V), ∃ (ds2 : List Int) (r2 : Int) (z4 z5 : Option V), [some (.int c), some (.ref a), some (.ref p), some (.int r'), y4, y5] = [some (.int c), some (.ref a), some (.ref p), some (.int r2), z4, z5] ∧
          Same H (upd H2 p (.lst (ds.map V.int ++ [V.int (x % zs[i])]))) ∧ (upd H2 p (.lst (ds.map V.int ++ [V.int (x % zs[i])]))) p = some (.lst (ds2.map V.int)) ∧ InR ds2 (zs.take (i + 1)) := fun x r' y4 y5 => by
        refine ⟨ds ++ [x % zs[i]], r', y4, y5, rfl, same_mut sm np, ?_, more x⟩
        rw [upd_same, List.map_append]
        rfl
      refine ⟨_, rfl, 10, 18, rfl, rfl, ⟨by decide, by decide⟩, _, _, rfl, rfl, _, rfl, ?_⟩
      refine iteD (fun _ => ?_) (fun _ => ?_)
      · refine ⟨_, rfl, .inl ⟨rfl, _, .inl (.inl hp)⟩, _, rfl, .inl ⟨r, rfl, _, rfl, _, rfl, a, _, _, _, rfl, rfl, hS2, hix, _, _, rfl, rfl, z1, p, _, _, rfl, rfl, hp, hlt, ?_⟩⟩
        have sm3 : Same H (upd H2 p (.lst (ds.map V.int ++ [V.int (r % zs[i])]))) := same_mut sm np
        refine ⟨_, rfl, _, rfl, _, rfl, a, _, _, _, rfl, rfl, sm3.seq hS, hix, _, _, rfl, rfl, wide_div z1 (b := 64) (small64 z1 z2) (by decide) (by decide), ?_⟩
        exact fin _ _ _ _
      · refine ⟨_, rfl, _, rfl, _, _, rfl, rfl, .inl ⟨by decide, by decide⟩, _, _, rfl, rfl, _, _, rfl, rfl, .inl ⟨_, rfl, _, _, rfl, rfl, by show (0 : Int) < 2147483647; decide, ?_⟩⟩
        refine ⟨_, rfl, _, rfl, _, _, rfl, rfl, _, _, rfl, rfl, cmul_m1 _ _, .inl ⟨_, rfl, _, _, rfl, rfl, by show (0 : Int) < 2147483629; decide, ?_⟩⟩
        refine ⟨_, rfl, _, rfl, _, _, rfl, rfl, _, _, rfl, rfl, cmul_m2 _ _, _, rfl, _, _, rfl, rfl, .inl ⟨by decide, by decide⟩, _, _, rfl, rfl, .inl ⟨_, rfl, _, _, rfl, rfl, by show (0 : Int) < 2147483647; decide, ?_⟩⟩
        refine ⟨_, rfl, .inl ⟨rfl, _, .inl (.inl hp)⟩, _, rfl, _, _, rfl, rfl, ⟨by decide, by decide⟩, .inl ⟨_, rfl, _, rfl, _, rfl, a, _, _, _, rfl, rfl, hS2, hix, _, _, rfl, rfl, z1, p, _, _, rfl, rfl, hp, hlt, ?_⟩⟩
        exact fin _ _ _ _
    · rintro σ H2 ⟨ds, r, y4, y5, rfl, sm, hp, hr2⟩
      rw [List.take_length] at hr2
      exact ⟨_, rfl, q ds H2 p hr2 sm np hp⟩
end
end OT

set_option Elab.async false
set_option linter.all false
set_option maxRecDepth 100000
set_option maxHeartbeats 2000000
namespace OT
open PySem PySem.Spec PyProof.Rows L2
theorem take_map_succ {α β : Type} {l : List α} {i : Nat} (f : α → β) (h : i < l.length) : (l.take (i + 1)).map f = (l.take i).map f ++ [f l[i]] := by
  rw [List.take_add_one, List.getElem?_eq_getElem h, List.map_append]
  rfl
theorem getm {α β : Type} {l : List α} {i : Nat} {f : α → β} {x : β} (h : (l.map f)[i]? = some x) : ∃ hi : i < l.length, x = f l[i] := by
  rw [List.getElem?_map] at h
  cases e : l[i]? with
  | none =>
    rw [e] at h
    cases h
  | some z =>
    rw [e] at h
    obtain ⟨hi, hz⟩ := List.getElem?_eq_some_iff.mp e
    exact ⟨hi, by rw [hz]; exact (Option.some.inj h).symm⟩
theorem tYes_of {A B : Hp → Prop} {σ : L2.St} {H : Hp} (h : A H) : tYes σ H (fun b H3 => if b = true then A H3 else B H3) := by
  show (if true = true then A H else B H)
  rw [if_pos rfl]
  exact h
theorem drop_cons {α : Type} {l : List α} {i : Nat} (h : i < l.length) : l.drop i = l[i] :: l.drop (i + 1) := List.drop_eq_getElem_cons h
theorem kb_ii : kitB "int" "int" = some true := by decide +kernel
theorem kb_ib : kitB "int" "bool" = some false := by decide +kernel
theorem kb_tt : kitB "tuple" "tuple" = some true := by decide +kernel
theorem kb_ss : kitB "str" "str" = some true := by decide +kernel
theorem kb_ll : kitB "list" "list" = some true := by decide +kernel
theorem depth_ints : ∀ ns : List Int, PyData.depthAll (ns.map PyData.int) = 0
  | [] => by simp only [List.map_nil, PyData.depthAll]
  | n :: r => by simp only [List.map_cons, PyData.depthAll, PyData.depth, depth_ints r, Nat.max_self]
theorem depth_row : ∀ es : List Ent, PyData.depthAll (es.map dEnt) ≤ 3
  | [] => by simp only [List.map_nil, PyData.depthAll]; decide
  | e :: r => by
    have ih := depth_row r
    simp only [List.map_cons, PyData.depthAll, dEnt, dPl, PyData.depth, depth_ints] at ih ⊢
    omega
theorem shaped_row (es : List Ent) : SeqAt.shaped (dRow es) = true := by
  unfold SeqAt.shaped
  have h1 : (dRow es).canLay0 = true := lay_row es
  rw [h1, Bool.true_and]
  refine decide_eq_true ?_
  have := depth_row es
  simp only [dRow, PyData.depth]
  omega
section
variable {P : Program} {w : World} {K : PySem.W.Frag} {mg : Str → Option Value} {base : Heap}
def spIsInt : Sp := fun vs H Q _ => ∃ i : Int, vs = [.int i] ∧ Q (.bl true) H
theorem c__law_is_integer {f : Addr} {fd : FuncData} (D : C8.Def K mg "_law_is_integer" s__law_is_integer f fd) (b : Binds K fd ["_law_actual"] []) (T : Bi mg) : C8.Cal P w K mg base 1 "_law_is_integer" spIsInt [] := by
  refine C8.cal0 D b .nil sc__law_is_integer (fun vs H Q E h => ?_) (fun cdv A outer s H vs Q E hr h => ?_)
  · obtain ⟨i, rfl, _⟩ := h
    rfl
  · obtain ⟨i, rfl, q⟩ := h
    refine ⟨_, (pss_one (ps_ret (pe_and (pe_callB call_isi (by rfl) T.n_isinstance OT.b_isinstance (pa_cons (pv 0) (pa_cons (pe_bltn (v := .ty "int") (by rfl) T.n_int OT.b_int rfl) pa_nil))) (pe_one (pe_not (pe_callB call_isi (by rfl) T.n_isinstance OT.b_isinstance (pa_cons (pv 0) (pa_cons (pe_bltn (v := .ty "bool") (by rfl) T.n_bool OT.b_bool rfl) pa_nil)))))))), ?_⟩
    refine ⟨_, rfl, _, _, _, _, _, rfl, .ty _, .base (.int i), kit_ty kb_ii, _, rfl, ?_⟩
    refine iteT ?_
    exact ⟨_, rfl, _, _, _, _, _, rfl, .ty _, .base (.int i), kit_ty kb_ib, _, rfl, q⟩
def spIsPlace (K : PySem.W.Frag) : Sp := fun vs H Q _ => ∃ (a : Addr) (ns : List Int), vs = [.ref a] ∧ H a = some (.tup (ns.map V.int)) ∧ 1 ≤ ns.length ∧ ns.length ≤ 3 ∧ Q (.bl true) H
theorem c__law_is_place {f : Addr} {fd : FuncData} (D : C8.Def K mg "_law_is_place" s__law_is_place f fd) (b : Binds K fd ["_law_actual"] []) (T : Bi mg) (c__law_is_integer : C8.Cal P w K mg base 1 "_law_is_integer" spIsInt []) : C8.Cal P w K mg base 2 "_law_is_place" (spIsPlace K) [] := by
  refine C8.cal0 D b .nil sc__law_is_place (fun vs H Q E h => ?_) (fun cdv A outer s H vs Q E hr h => ?_)
  · obtain ⟨a, ns, rfl, _⟩ := h
    rfl
  · obtain ⟨a, ns, rfl, hS, h1, h3, q⟩ := h
    have hT : SqT K H a (ns.map V.int) := .inl (.inl hS)
    refine ⟨_, (pss_cons (ps_if (PW.pt (pw_or (pt_not (pt_val (pe_callB call_isi (by rfl) T.n_isinstance OT.b_isinstance (pa_cons (pv 0) (pa_cons (pe_bltn (v := .ty "tuple") (by rfl) T.n_tuple OT.b_tuple rfl) pa_nil))))) (pw_or (pt_cmpR op_lt (pe_callB call_len_seq (by rfl) T.n_len OT.b_len (pa_cons (pv 0) pa_nil)) pe_int (nomark _)) (pw_or1 (pt_cmpR op_gt (pe_callB call_len_seq (by rfl) T.n_len OT.b_len (pa_cons (pv 0) pa_nil)) pe_int (nomark _)))))) (pss_one (ps_ret pe_bl)) pss_nil)
  (pss_cons (ps_for PassesOwn.never rfl (pi_tup (pv 0)) (pg_name (i := 1) sc__law_is_place.nd rfl (Or.inl rfl)) (pss_one (ps_if (pt_not (pt_val (C8.pe_c c__law_is_integer hr (by decide) (by rfl) (pa_cons (pv 1) pa_nil)))) (pss_one (ps_ret pe_bl)) pss_nil)))
  (pss_one (ps_ret pe_bl)))), ?_⟩
    refine ⟨_, rfl, _, _, _, _, _, rfl, .ty _, .base (.tup hS), kit_ty kb_tt, _, rfl, ?_⟩
    refine iteF ?_
    refine ⟨_, rfl, a, _, rfl, .inr hT, _, _, rfl, rfl, _, rfl, iteD (fun z => ?_) (fun _ => ?_)⟩
    · rw [List.length_map] at z
      omega
    refine ⟨_, rfl, a, _, rfl, .inr hT, _, _, rfl, rfl, _, rfl, iteD (fun z => ?_) (fun _ => ?_)⟩
    · rw [List.length_map] at z
      omega
    refine ⟨_, rfl, a, rfl, ⟨_, hT⟩, ?_⟩
    refine for_tup (K := K) (xs := ns.map V.int) (fun i σ H2 => ∃ y, σ = [some (.ref a), y] ∧ H2 = H) ⟨none, rfl, rfl⟩ (fun i σ H2 _ ⟨_, _, e⟩ => by rw [e]; exact hT) ?_ ?_
    · rintro i x σ H2 hx ⟨y, rfl, rfl⟩
      obtain ⟨hi, rfl⟩ := getm hx
      exact ⟨_, rfl, _, rfl, _, rfl, iteF ⟨_, rfl, rfl⟩⟩
    · rintro σ H2 ⟨y, rfl, rfl⟩
      exact q
end
end OT

set_option Elab.async false
set_option linter.all false
set_option maxRecDepth 100000
set_option maxHeartbeats 2000000
namespace OT
open PySem PySem.Spec PyProof.Rows L2
theorem kV_ints (k : Pl) : (k.map (Sum.inl : Int → Key)).map kV = k.map V.int := by
  rw [List.map_map]
  rfl
theorem dgetT {H : Hp} {d b : Addr} {kvs : List (List Key × V)} {k : Pl} {o : Option V} (e : H d = some (.dT kvs)) (eb : H b = some (.tup (k.map V.int))) (h : valV kvs (k.map Sum.inl) = o) : DGet H d (.ref b) o := by
  rw [← h]
  exact DGet.t e (by rw [kV_ints]; exact eb)
theorem ne_lst {H : Hp} {a D : Addr} {xs l : List V} (h : H a = some (.tup xs)) (hD : H D = some (.lst l)) : a ≠ D := fun e => by
  rw [e, hD] at h
  cases h
theorem EntAt.updL {H : Hp} {D : Addr} {l l' : List V} {v : V} {e : Ent} (hD : H D = some (.lst l)) (h : EntAt H v e) : EntAt (upd H D (.lst l')) v e := by
  obtain ⟨t, p, rfl, h1, h2⟩ := h
  exact ⟨t, p, rfl, by rw [upd_ne (ne_lst h1 hD)]; exact h1, by rw [upd_ne (ne_lst h2 hD)]; exact h2⟩
theorem Ents.updL {H : Hp} {D : Addr} {l l' : List V} {vs : List V} {es : List Ent} (hD : H D = some (.lst l)) (h : Ents H vs es) : Ents (upd H D (.lst l')) vs es := by
  induction h with
  | nil => exact .nil
  | cons h1 _ ih => exact .cons (h1.updL hD) ih
theorem mkR_len (f : Pl → Int) : ∀ ks : List Pl, (mkR f ks).length ≤ ks.length
  | [] => Nat.le_refl _
  | k :: r => by
    have ih := mkR_len f r
    show (if f k = 0 then mkR f r else (k, f k) :: mkR f r).length ≤ r.length + 1
    by_cases h : f k = 0
    · rw [if_pos h]
      omega
    · rw [if_neg h, List.length_cons]
      omega
theorem none_of_upd {H : Hp} {p D : Addr} {o : HO} (h : upd H p o D = none) : H D = none ∧ p ≠ D := by
  have ne : p ≠ D := ne_of_none upd_same h
  exact ⟨by rw [upd_ne ne.symm] at h; exact h, ne⟩
section
variable {P : Program} {w : World} {K : PySem.W.Frag} {mg : Str → Option Value} {base : Heap}
def wantRow (H : Hp) (es : List Ent) (Q : VK) : Prop := ∀ (r : List Ent) (p : Addr) (ws : List V) (H' : Hp), RowIs r es → Same H H' → H p = none → H' p = some (.lst ws) → Ents H' ws r → Q (.ref p) H'
def spRowOf (K : PySem.W.Frag) : Sp := fun vs H Q _ => ∃ (d : Addr) (kvs : List (List Key × V)) (ks : List Pl) (es : List Ent), vs = [.ref d] ∧ H d = some (.dT kvs) ∧ Sums kvs ks (numAt es) ∧ (∀ k ∈ ks, k ≠ []) ∧ ks.length < sizeLine ∧ wantRow H es Q
end
end OT

set_option Elab.async false
set_option linter.all false
set_option maxRecDepth 100000
set_option maxHeartbeats 2000000
namespace OT
open PySem PySem.Spec PyProof.Rows L2
section
variable {P : Program} {w : World} {K : PySem.W.Frag} {mg : Str → Option Value} {base : Heap}
theorem put_keys_ne {ks : List Pl} {e : Pl} (h : ∀ k ∈ ks, k ≠ []) (he : e ≠ []) : ∀ k ∈ (if e ∈ ks then ks else ks ++ [e]), k ≠ [] := by
  by_cases m : e ∈ ks
  · rw [if_pos m]
    exact h
  · rw [if_neg m]
    intro k hk
    rcases List.mem_append.mp hk with hk | hk
    · exact h k hk
    · rw [List.mem_singleton.mp hk]
      exact he
theorem put_keys_len {ks : List Pl} {e : Pl} {i : Nat} (h : ks.length ≤ i) : (if e ∈ ks then ks else ks ++ [e]).length ≤ i + 1 := by
  by_cases m : e ∈ ks
  · rw [if_pos m]
    omega
  · rw [if_neg m, List.length_append, List.length_singleton]
    omega
theorem Ents.updD {H : Hp} {D : Addr} {l l' : List (List Key × V)} {vs : List V} {es : List Ent} (hD : H D = some (.dT l)) (h : Ents H vs es) : Ents (upd H D (.dT l')) vs es := by
  have ne : ∀ {a : Addr} {xs : List V}, H a = some (.tup xs) → a ≠ D := fun {a xs} h e => by
    rw [e, hD] at h
    cases h
  induction h with
  | nil => exact .nil
  | cons h1 _ ih =>
    obtain ⟨t, p, rfl, h1, h2⟩ := h1
    exact .cons ⟨t, p, rfl, by rw [upd_ne (ne h1)]; exact h1, by rw [upd_ne (ne h2)]; exact h2⟩ ih
theorem seq_upd {H : Hp} {D a : Addr} {o : HO} {xs : List V} (h : SqL K H a xs) (ne : a ≠ D) : SqL K (upd H D o) a xs := by
  rcases h with (h | ⟨o', h⟩) | h
  · exact .inl (.inl (by rw [upd_ne ne]; exact h))
  · exact .inl (.inr ⟨o', by rw [upd_ne ne]; exact h⟩)
  · exact .inr h
/-- what a list of entries asks -/
structure InEnts (K : PySem.W.Frag) (H : Hp) (a : Addr) (vs : List V) (es : List Ent) : Prop where
  l : SqL K H a vs
  e : Ents H vs es
  z : es.length < sizeLine
theorem InEnts.mono {H H' : Hp} {a : Addr} {vs : List V} {es : List Ent} (s : Same H H') (h : InEnts K H a vs es) : InEnts K H' a vs es := ⟨s.seq h.l, h.e.mono s, h.z⟩
def spGather (K : PySem.W.Frag) : Sp := fun vs H Q _ => ∃ (a : Addr) (xs : List V) (es : List Ent), vs = [.ref a] ∧ InEnts K H a xs es ∧ (∀ e ∈ es, e.1 ≠ []) ∧ wantRow H es Q
theorem c__law_row {f : Addr} {fd : FuncData} (D : C8.Def K mg "_law_row" s__law_row f fd) (b : Binds K fd ["_law_pairs"] []) (T : Bi mg) : C8.Cal P w K mg base 1 "_law_row" (spGather K) [] := by
  refine C8.cal0 D b .nil sc__law_row (fun vs H Q E h => ?_) (fun cdv A outer s H vs Q E hr h => ?_)
  · obtain ⟨a, xs, es, rfl, _⟩ := h
    rfl
  · obtain ⟨a, xs, es, rfl, hE, hne, q⟩ := h
    refine ⟨_, (pss_cons (ps_set (i := 1) sc__law_row.nd rfl (Or.inr rfl) pe_dnewT)
  (pss_cons (ps_for PassesOwn.never rfl (pi_list (pv 0)) (pg_tup rfl (pgs_cons (pg_name (i := 2) sc__law_row.nd rfl (Or.inl rfl)) (pgs_cons (pg_name (i := 3) sc__law_row.nd rfl (Or.inl rfl)) pgs_nil))) (pss_one (ps_dput (hu_of hr) (pv 1) (pv 2) (pe_op op_add (pe_dget2 (hu_of hr) (pv 1) (pv 2) pe_int ⟨rfl, rfl, rfl, rfl⟩) (pv 3)) rfl)))
  (pss_one (ps_ret (pe_lc (own := [("_law_place", 2)]) (g := (gName 2)) rfl sc__law_row.nd (pi_list (pe_callB (cr_sortedDT rfl) (by rfl) T.n_sorted OT.b_sorted (pa_cons (pv 1) pa_nil))) (blkOk_by (N := ["_law_pairs", "_law_sums", "_law_place", "_law_number"]) (sc := C8.fnScope s__law_row) (by decide +kernel)) (fun _ _ _ _ _ => (pg_name (i := 2) sc__law_row.nd rfl (Or.inl rfl))) (fun _ _ _ _ _ => (pts_one (pt_cmpR op_ne (pe_dget (hu_of hr) (pv 1) (pv 2) (fun _ _ => rfl)) pe_int (nomark _)))) (fun _ _ _ _ _ => (pe_tup (pa_cons (pv 2) (pa_cons (pe_dget (hu_of hr) (pv 1) (pv 2) (fun _ _ => rfl)) pa_nil))))))))), ?_⟩
    refine fun d nd => ?_
    have s1 : Same H (upd H d (.dT [])) := same_upd nd
    refine ⟨_, rfl, a, rfl, ⟨xs, s1.seq hE.l⟩, ?_⟩
    refine for_list (K := K) (xs := xs) (fun i σ H2 => ∃ (kvs : List (List Key × V)) (ks : List Pl) (y2 y3 : Option V), σ = [some (.ref a), some (.ref d), y2, y3] ∧ Same H H2 ∧ H2 d = some (.dT kvs) ∧ Sums kvs ks (numAt (es.take i)) ∧ (∀ k ∈ ks, k ≠ []) ∧ ks.length ≤ i) ?_ ?_ ?_ ?_
    · exact ⟨[], [], none, none, rfl, s1, upd_same, Sums.nil, fun k hk => (by cases hk), Nat.le_refl _⟩
    · rintro i σ H2 _ ⟨_, _, _, _, _, sm, _⟩
      exact sm.seq hE.l
    · rintro i x σ H2 hx ⟨kvs, ks, y2, y3, rfl, sm, hd, hs, hk, hl⟩
      obtain ⟨e, he, hv⟩ := (hE.e.mono sm).get hx
      obtain ⟨t, p, rfl, ht, hp⟩ := hv
      have hi := (List.getElem?_eq_some_iff.mp he).1
      have hm : e ∈ es := List.mem_of_getElem? he
      have hz := hE.z
      refine ⟨t, _, rfl, .inl (.inl ht), rfl, _, _, rfl, _, _, rfl, rfl, ?_⟩
      refine ⟨_, rfl, d, rfl, .inr ⟨kvs, .inl hd⟩, _, rfl, _, dgetT hd hp rfl, _, rfl, numAt (es.take i) e.1, e.2, hs.getD _, rfl, _, rfl, _, rfl, d, _, rfl, DPut.t hd (k := e.1.map Sum.inl) (by rw [kV_ints]; exact hp) ?_, ?_⟩
      · rw [hs.len]
        omega
      · exact ⟨_, _, _, _, rfl, same_mut sm nd, upd_same, hs.next he, put_keys_ne hk (hne e hm), put_keys_len hl⟩
    · rintro σ H2 ⟨kvs, ks, y2, y3, rfl, sm, hd, hs, hk, hl⟩
      have hz := hE.z
      have hlen := hE.e.len
      rw [hlen, List.take_length] at hs
      have hkz : ks.length < sizeLine := by omega
      refine ⟨_, rfl, d, kvs, ks, rfl, .inl hd, hs.keys, fun _ => hk, fun out p perm pw nod held np => ?_⟩
      refine ⟨p, rfl, ⟨_, .inl (.inl upd_same)⟩, fun D nD => ?_⟩
      have hpD : p ≠ D := ne_of_none upd_same nD
      obtain ⟨hDn, _⟩ := none_of_upd nD
      have hkd : ∀ x ∈ out, x.2 ∈ ks := fun x hx => perm.mem_iff.mp (List.mem_map_of_mem hx)
      refine lc_list (K := K) (a := p) (xs := out.map fun x => V.ref x.1) (fun i H3 => Same H2 H3 ∧ H3 p = some (.lst (out.map fun x => V.ref x.1)) ∧ ∃ ws, H3 D = some (.lst ws) ∧ Ents H3 ws (mkR (numAt es) ((out.take i).map (·.2)))) ?_ ?_ ?_ ?_
      · refine ⟨(same_upd np).trans (same_upd nD), ?_, [], upd_same, .nil⟩
        rw [upd_ne hpD, upd_same]
      · rintro i H3 _ ⟨_, hp, _⟩
        exact .inl (.inl hp)
      · rintro i x H3 hx ⟨sm3, hp, ws, hD, hE3⟩
        obtain ⟨hi, rfl⟩ := getm hx
        have hm := List.getElem_mem hi
        have hk3 := sm3 _ _ (held _ hm)
        have hv := hs.get (hkd _ hm)
        have hd2 := sm3 _ _ hd
        refine ⟨rfl, _, rfl, _, rfl, d, _, rfl, dgetT hd2 hk3 hv, ?_⟩
        refine ⟨rfl, _, rfl, ?_⟩
        have htk : (out.take (i + 1)).map (·.2) = (out.take i).map (·.2) ++ [out[i].2] := take_map_succ (·.2) hi
        rw [htk, mkR_snoc]
        refine iteND (fun hn => ?_) (fun h0 => ?_)
        · have hn0 : numAt es out[i].2 ≠ 0 := fun z => hn (by rw [z])
          rw [if_neg hn0]
          refine ⟨_, rfl, _, rfl, _, rfl, d, _, rfl, dgetT hd2 hk3 hv, (by show 2 ≤ sizeLine; decide), fun t nt => ?_⟩
          have ntD : D ≠ t := ne_of_none hD nt
          have smt : Same H3 (upd H3 t (.tup [.ref out[i].1, .int (numAt es out[i].2)])) := same_upd nt
          have hD3 := smt _ _ hD
          refine ⟨ws, hD3, ?_, same_mut (sm3.trans smt) hDn, ?_, ws ++ [.ref t], upd_same, ?_⟩
          · have h1 := hE3.len
            have h2 := mkR_len (numAt es) ((out.take i).map (·.2))
            have h3 := perm.length_eq
            rw [List.length_map] at h2 h3
            rw [List.length_take] at h2
            omega
          · rw [upd_ne hpD]
            exact smt _ _ hp
          · refine ((hE3.mono smt).updL hD3).app (.cons (EntAt.updL hD3 ⟨t, _, rfl, upd_same, ?_⟩) .nil)
            exact smt _ _ hk3
        · have h0' : numAt es out[i].2 = 0 := V.int.inj h0
          rw [if_pos h0', List.append_nil]
          exact ⟨sm3, hp, ws, hD, hE3⟩
      · rintro H3 ⟨sm3, hp, ws, hD, hE3⟩
        rw [List.length_map, List.take_length] at hE3
        refine q _ D ws H3 (row_sorted perm pw nod hs.out) (sm.trans sm3) ?_ hD hE3
        cases z : H D with
        | none => rfl
        | some o =>
          rw [sm _ _ z] at hDn
          cases hDn
end
end OT

set_option Elab.async false
set_option linter.all false
set_option maxRecDepth 100000
set_option maxHeartbeats 2000000
namespace OT
open PySem PySem.Spec PyProof.Rows L2
section
variable {P : Program} {w : World} {K : PySem.W.Frag} {mg : Str → Option Value} {base : Heap}
/-- a row of places of n coordinates -/
structure RowN (n : Nat) (r : List Ent) : Prop where
  v : Valid r
  n1 : 1 ≤ n
  n3 : n ≤ 3
  at_ : ∀ e ∈ r, e.1.length = n
theorem asc_get {r : List Ent} (h : Valid r) {i j : Nat} (hi : i < r.length) (hj : j < r.length) (hij : i < j) : HT.lexLt r[i].1 r[j].1 = true := List.pairwise_iff_getElem.mp h.asc i j hi hj hij
def spIsRow (K : PySem.W.Frag) : Sp := fun vs H Q _ => ∃ (a : Addr) (ws : List V) (r : List Ent) (n : Nat), vs = [.ref a] ∧ H a = some (.lst ws) ∧ Ents H ws r ∧ RowN n r ∧ r.length ≤ 100000 ∧ Q (.bl true) H
theorem c__law_is_row {f : Addr} {fd : FuncData} (D : C8.Def K mg "_law_is_row" s__law_is_row f fd) (b : Binds K fd ["_law_actual"] []) (T : Bi mg) (c__law_is_place : C8.Cal P w K mg base 2 "_law_is_place" (spIsPlace K) []) (c__law_is_integer : C8.Cal P w K mg base 1 "_law_is_integer" spIsInt []) :
    C8.Cal P w K mg base 3 "_law_is_row" (spIsRow K) [] := by
  refine C8.cal0 D b .nil sc__law_is_row (fun vs H Q E h => ?_) (fun cdv A outer s H vs Q E hr h => ?_)
  · obtain ⟨a, ws, r, n, rfl, _⟩ := h
    rfl
  · obtain ⟨a, ws, r, n, rfl, ha, hE, hN, hz, q⟩ := h
    have hS : SqL K H a ws := .inl (.inl ha)
    refine ⟨_, (pss_cons (ps_if (pt_not (pt_val (pe_callB call_isi (by rfl) T.n_isinstance OT.b_isinstance (pa_cons (pv 0) (pa_cons (pe_bltn (v := .ty "list") (by rfl) T.n_list OT.b_list rfl) pa_nil))))) (pss_one (ps_ret pe_bl)) pss_nil)
  (pss_cons (ps_for PassesOwn.never rfl (pi_range1 rfl T.n_range (pa_cons (pe_callB call_len_seq (by rfl) T.n_len OT.b_len (pa_cons (pv 0) pa_nil)) pa_nil)) (pg_name (i := 1) sc__law_is_row.nd rfl (Or.inl rfl)) (pss_cons (ps_set (i := 2) sc__law_is_row.nd rfl (Or.inl rfl) (pe_ix ix_list (pv 0) (pv 1) (fun _ _ => rfl)))
  (pss_cons (ps_if (PW.pt (pw_or (pt_not (pt_val (pe_callB call_isi (by rfl) T.n_isinstance OT.b_isinstance (pa_cons (pv 2) (pa_cons (pe_bltn (v := .ty "tuple") (by rfl) T.n_tuple OT.b_tuple rfl) pa_nil))))) (pw_or1 (pt_cmpR op_ne (pe_callB call_len_seq (by rfl) T.n_len OT.b_len (pa_cons (pv 2) pa_nil)) pe_int (nomark _))))) (pss_one (ps_ret pe_bl)) pss_nil)
  (pss_cons (ps_if (PW.pt (pw_or (pt_not (pt_val (C8.pe_c c__law_is_place hr (by decide) (by rfl) (pa_cons (pe_ix ix_tup (pv 2) pe_int (fun _ _ => rfl)) pa_nil)))) (pw_or (pt_not (pt_val (C8.pe_c c__law_is_integer hr (by decide) (by rfl) (pa_cons (pe_ix ix_tup (pv 2) pe_int (fun _ _ => rfl)) pa_nil)))) (pw_or1 (pt_cmpR op_eq (pe_ix ix_tup (pv 2) pe_int (fun _ _ => rfl)) pe_int (nomark _)))))) (pss_one (ps_ret pe_bl)) pss_nil)
  (pss_cons (ps_if (pt_cmpR op_ne (pe_callB call_len_seq (by rfl) T.n_len OT.b_len (pa_cons (pe_ix ix_tup (pv 2) pe_int (fun _ _ => rfl)) pa_nil)) (pe_callB call_len_seq (by rfl) T.n_len OT.b_len (pa_cons (pe_ix ix_tup (pe_ix ix_list (pv 0) pe_int (fun _ _ => rfl)) pe_int (fun _ _ => rfl)) pa_nil)) (nomark _)) (pss_one (ps_ret pe_bl)) pss_nil)
  (pss_one (ps_if (PW.pt (pw_and (pt_cmpR op_gt (pv 1) pe_int (nomark _)) (pw_and1 (pt_not (pt_cmpR (op_ltT hr.units0) (pe_ix ix_tup (pe_ix ix_list (pv 0) (pe_op op_sub (pv 1) pe_int) (fun _ _ => rfl)) pe_int (fun _ _ => rfl)) (pe_ix ix_tup (pv 2) pe_int (fun _ _ => rfl)) (nomark _)))))) (pss_one (ps_ret pe_bl)) pss_nil)))))))
  (pss_one (ps_ret pe_bl)))), ?_⟩
    refine ⟨_, rfl, _, _, _, _, _, rfl, .ty _, .base (.lst ha), kit_ty kb_ll, _, rfl, ?_⟩
    refine iteF ?_
    refine ⟨_, rfl, a, _, rfl, .inl hS, _, rfl, ?_, ?_, ?_⟩
    · omega
    · have h2 := hE.len
      have : (2 : Int) ^ 62 = 4611686018427387904 := by decide
      omega
    rw [Int.toNat_natCast, hE.len]
    refine for_range (fun i σ H2 => ∃ y1 y2, σ = [some (.ref a), y1, y2] ∧ H2 = H) ⟨none, none, rfl, rfl⟩ ?_ ?_
    · rintro i σ H2 hi ⟨y1, y2, rfl, rfl⟩
      obtain ⟨v, hv, t, p, rfl, ht, hp⟩ := hE.at hi
      obtain ⟨v0, hv0, t0, p0, rfl, ht0, hp0⟩ := hE.at (i := 0) (by omega)
      have hm := List.getElem_mem hi
      have hm0 := List.getElem_mem (show 0 < r.length by omega)
      have hT : SqT K H2 t [.ref p, .int r[i].2] := .inl (.inl ht)
      have hT0 : SqT K H2 t0 [.ref p0, .int (r[0]'(by omega)).2] := .inl (.inl ht0)
      have hP : SqT K H2 p (r[i].1.map V.int) := .inl (.inl hp)
      have hP0 : SqT K H2 p0 ((r[0]'(by omega)).1.map V.int) := .inl (.inl hp0)
      refine ⟨_, rfl, _, rfl, a, _, _, .ref t, rfl, rfl, hS, by rw [Int.zero_add]; exact atI_nat hv, ?_⟩
      refine ⟨_, rfl, _, _, _, _, _, rfl, .ty _, .base (.tup ht), kit_ty kb_tt, _, rfl, ?_⟩
      refine iteF ?_
      refine ⟨_, rfl, t, _, rfl, .inr hT, rfl, _, rfl, ?_⟩
      refine iteF ?_
      refine ⟨_, rfl, t, _, 0, _, rfl, rfl, hT, atI_nat (j := 0) rfl, p, _, rfl, hp, by rw [hN.at_ _ hm]; exact hN.n1, by rw [hN.at_ _ hm]; exact hN.n3, _, rfl, ?_⟩
      refine iteF ?_
      refine ⟨_, rfl, t, _, 1, _, rfl, rfl, hT, atI_nat (j := 1) rfl, _, rfl, _, rfl, ?_⟩
      refine iteF ?_
      refine ⟨_, rfl, t, _, 1, _, rfl, rfl, hT, atI_nat (j := 1) rfl, rfl, _, rfl, iteD (fun z => absurd (V.int.inj z) (hN.v.nz _ hm)) (fun _ => ?_)⟩
      refine ⟨_, rfl, t, _, 0, _, rfl, rfl, hT, atI_nat (j := 0) rfl, p, _, rfl, .inr hP, _, rfl, a, _, 0, _, rfl, rfl, hS, atI_nat (j := 0) hv0, t0, _, 0, _, rfl, rfl, hT0, atI_nat (j := 0) rfl, p0, _, rfl, .inr hP0, rfl, _, rfl, iteND (fun z => ?_) (fun _ => ?_)⟩
      · rw [List.length_map, List.length_map, hN.at_ _ hm, hN.at_ _ hm0] at z
        exact absurd rfl z
      refine ⟨_, rfl, _, _, rfl, rfl, _, rfl, iteD (fun hk => ?_) (fun _ => ?_)⟩
      · have hi1 : i - 1 < r.length := by omega
        obtain ⟨v1, hv1, t1, p1, rfl, ht1, hp1⟩ := hE.at (i := i - 1) hi1
        have hT1 : SqT K H2 t1 [.ref p1, .int (r[i - 1]'hi1).2] := .inl (.inl ht1)
        refine ⟨_, rfl, _, rfl, _, _, rfl, rfl, a, _, _, _, rfl, rfl, hS, ?_, t1, _, 0, _, rfl, rfl, hT1, atI_nat (j := 0) rfl, _, rfl, t, _, 0, _, rfl, rfl, hT, atI_nat (j := 0) rfl, p1, p, _, _, rfl, rfl, .inl (.inl hp1), hP, _, rfl, ?_⟩
        · rw [show (0 : Int) + (i : Int) - 1 = ((i - 1 : Nat) : Int) by omega]
          exact atI_nat hv1
        · rw [asc_get hN.v hi1 hi (by omega)]
          refine iteF ?_
          exact ⟨_, _, rfl, rfl⟩
      · exact ⟨_, _, rfl, rfl⟩
    · rintro σ H2 ⟨y1, y2, rfl, rfl⟩
      exact q
def spSame (K : PySem.W.Frag) : Sp := fun vs H Q _ => ∃ (a c : Addr) (ws us : List V) (r : List Ent) (n : Nat), vs = [.ref a, .ref c] ∧ H a = some (.lst ws) ∧ Ents H ws r ∧ H c = some (.lst us) ∧ Ents H us r ∧ RowN n r ∧ r.length ≤ 100000 ∧ Q (.bl true) H
theorem c__law_same {f : Addr} {fd : FuncData} (D : C8.Def K mg "_law_same" s__law_same f fd) (b : Binds K fd ["_law_actual", "_law_expected"] []) (T : Bi mg) (c__law_is_row : C8.Cal P w K mg base 3 "_law_is_row" (spIsRow K) []) :
    C8.Cal P w K mg base 4 "_law_same" (spSame K) [] := by
  refine C8.cal0 D b .nil sc__law_same (fun vs H Q E h => ?_) (fun cdv A outer s H vs Q E hr h => ?_)
  · obtain ⟨a, c, ws, us, r, n, rfl, _⟩ := h
    rfl
  · obtain ⟨a, c, ws, us, r, n, rfl, ha, hE, hc, hF, hN, hz, q⟩ := h
    refine ⟨_, (pss_one (ps_ret (pe_and (C8.pe_c c__law_is_row hr (by decide) (by rfl) (pa_cons (pv 0) pa_nil)) (pe_one (pe_cmpR (op_eqD hr.units) (pv 0) (pv 1) (nomark _)))))), ?_⟩
    refine ⟨_, rfl, a, ws, r, n, rfl, ha, hE, hN, hz, _, rfl, ?_⟩
    refine iteT ?_
    refine ⟨_, rfl, _, rfl, dRow r, dRow r, hE.dp (.inl (.inl ha)), hF.dp (.inl (.inl hc)), shaped_row r, shaped_row r, ?_⟩
    rw [SeqAt.eqv_refl _ (SeqAt.canLay_of_shaped (shaped_row r))]
    exact q
end
end OT

set_option Elab.async false
set_option linter.all false
set_option maxRecDepth 100000
set_option maxHeartbeats 2000000
namespace OT
open PySem PySem.Spec PyProof.Rows L2
/-! ### places -/
def plusP (k l : Pl) : Pl := List.zipWith (· + ·) k l
theorem plusP_len {k l : Pl} (h : k.length ≤ l.length) : (plusP k l).length = k.length := by
  unfold plusP
  rw [List.length_zipWith, Nat.min_eq_left h]
theorem plusP_get {k l : Pl} {i : Nat} (h : i < (plusP k l).length) (h1 : i < k.length) (h2 : i < l.length) : (plusP k l)[i] = k[i] + l[i] := by
  unfold plusP
  exact List.getElem_zipWith ..
theorem plusP_mem {k l : Pl} {x : Int} (h : x ∈ plusP k l) : ∃ a ∈ k, ∃ b ∈ l, x = a + b := by
  obtain ⟨i, hi, rfl⟩ := List.getElem_of_mem h
  have hk : i < k.length := by
    unfold plusP at hi
    rw [List.length_zipWith] at hi
    omega
  have hl : i < l.length := by
    unfold plusP at hi
    rw [List.length_zipWith] at hi
    omega
  exact ⟨_, List.getElem_mem hk, _, List.getElem_mem hl, plusP_get hi hk hl⟩
theorem plusP_lt : ∀ {a b l : Pl}, a.length ≤ l.length → b.length ≤ l.length → HT.lexLt (plusP a l) (plusP b l) = HT.lexLt a b
  | [], [], _, _, _ => rfl
  | [], _ :: _, _ :: _, _, _ => rfl
  | _ :: _, [], _ :: _, _, _ => rfl
  | x :: a, y :: b, z :: l, h1, h2 => by
    show (if x + z = y + z then HT.lexLt (plusP a l) (plusP b l) else decide (x + z < y + z)) = if x = y then HT.lexLt a b else decide (x < y)
    rw [plusP_lt (Nat.le_of_succ_le_succ h1) (Nat.le_of_succ_le_succ h2)]
    by_cases e : x = y
    · rw [if_pos e, if_pos (by rw [e])]
    · rw [if_neg e, if_neg (by omega)]
      by_cases h : x < y
      · rw [decide_eq_true h, decide_eq_true (by omega)]
      · rw [decide_eq_false h, decide_eq_false (by omega)]
def movL (es : List Ent) (l : Pl) : List Ent := es.map fun e => (plusP e.1 l, e.2)
theorem movL_valid {es : List Ent} {l : Pl} (h : Valid es) (hl : ∀ e ∈ es, e.1.length ≤ l.length) : Valid (movL es l) := by
  refine ⟨?_, fun e he => ?_⟩
  · unfold movL
    rw [List.pairwise_map]
    refine List.Pairwise.imp_of_mem (fun {x y} hx hy q => ?_) h.asc
    rw [plusP_lt (hl x hx) (hl y hy)]
    exact q
  · obtain ⟨x, hx, rfl⟩ := List.mem_map.mp he
    exact h.nz x hx
theorem numAt_bound {es : List Ent} {m : Nat} (h : ∀ e ∈ es, e.2.natAbs ≤ m) (q : Pl) : (numAt es q).natAbs ≤ es.length * m := by
  induction es with
  | nil => exact Nat.zero_le _
  | cons e r ih =>
    have h1 := h e List.mem_cons_self
    have h2 := ih fun x hx => h x (List.mem_cons_of_mem _ hx)
    show ((if e.1 = q then e.2 else 0) + numAt r q).natAbs ≤ (r.length + 1) * m
    rw [Nat.succ_mul]
    by_cases c : e.1 = q
    · rw [if_pos c]
      omega
    · rw [if_neg c]
      omega
theorem RowIs.bound {r es : List Ent} {m : Nat} (h : RowIs r es) (hb : ∀ e ∈ es, e.2.natAbs ≤ m) : ∀ e ∈ r, e.2.natAbs ≤ es.length * m := fun e he => by
  have h1 := h.v.at e he
  rw [h.s] at h1
  rw [← h1]
  exact numAt_bound hb _
/-- tuples of ints, in turn -/
inductive Pls (H : Hp) : List V → List Pl → Prop
  | nil : Pls H [] []
  | cons {p : Addr} {k : Pl} {vs : List V} {ks : List Pl} : H p = some (.tup (k.map V.int)) → Pls H vs ks → Pls H (.ref p :: vs) (k :: ks)
theorem Pls.len {H : Hp} {vs : List V} {ks : List Pl} (h : Pls H vs ks) : vs.length = ks.length := by
  induction h with
  | nil => rfl
  | cons _ _ ih => rw [List.length_cons, List.length_cons, ih]
theorem Pls.mono {H H' : Hp} {vs : List V} {ks : List Pl} (s : ∀ b o, H b = some o → H' b = some o) (h : Pls H vs ks) : Pls H' vs ks := by
  induction h with
  | nil => exact .nil
  | cons h1 _ ih => exact .cons (s _ _ h1) ih
theorem Pls.app {H : Hp} {vs ws : List V} {ks ls : List Pl} (h : Pls H vs ks) (g : Pls H ws ls) : Pls H (vs ++ ws) (ks ++ ls) := by
  induction h with
  | nil => exact g
  | cons h1 _ ih => exact .cons h1 ih
theorem Pls.updL {H : Hp} {D : Addr} {l l' : List V} {vs : List V} {ks : List Pl} (hD : H D = some (.lst l)) (h : Pls H vs ks) : Pls (upd H D (.lst l')) vs ks := by
  induction h with
  | nil => exact .nil
  | cons h1 _ ih => exact .cons (by rw [upd_ne (ne_lst h1 hD)]; exact h1) ih
theorem Pls.get {H : Hp} {vs : List V} {ks : List Pl} (h : Pls H vs ks) : ∀ {i : Nat} {v : V}, vs[i]? = some v → ∃ p k, v = .ref p ∧ ks[i]? = some k ∧ H p = some (.tup (k.map V.int)) := by
  induction h with
  | nil => intro i v h; simp at h
  | cons h1 _ ih =>
    intro i v hv
    cases i with
    | zero =>
      cases hv
      exact ⟨_, _, rfl, rfl, h1⟩
    | succ i => exact ih (i := i) hv
section
variable {P : Program} {w : World} {K : PySem.W.Frag} {mg : Str → Option Value} {base : Heap}
theorem small100k {n : Nat} (h : n ≤ 100000) : n < sizeLine := Nat.lt_of_le_of_lt h (by decide)
theorem b62 {n : Nat} (h : n ≤ 100000) : (n : Int) < 2 ^ 62 := by
  have : (2 : Int) ^ 62 = 4611686018427387904 := by decide
  omega
def spPlus (K : PySem.W.Frag) : Sp := fun vs H Q _ => ∃ (a b : Addr) (k l : Pl), vs = [.ref a, .ref b] ∧ SqT K H a (k.map V.int) ∧ SqT K H b (l.map V.int) ∧ k.length ≤ l.length ∧ k.length ≤ 1000 ∧ ∀ p H', Same H H' → H' p = some (.tup ((plusP k l).map V.int)) → Q (.ref p) H'
theorem c__law_plus {f : Addr} {fd : FuncData} (D : C8.Def K mg "_law_plus" s__law_plus f fd) (b : Binds K fd ["_law_place", "_law_other"] []) (T : Bi mg) : C8.Cal P w K mg base 1 "_law_plus" (spPlus K) [] := by
  refine C8.cal0 D b .nil sc__law_plus (fun vs H Q E h => ?_) (fun cdv A outer s H vs Q E hr h => ?_)
  · obtain ⟨a, b, k, l, rfl, _⟩ := h
    rfl
  · obtain ⟨a, b, k, l, rfl, hk, hl, hkl, hz, q⟩ := h
    refine ⟨_, (pss_one (ps_ret (pe_callTy call_tuple_of (by rfl) T.n_tuple OT.b_tuple (pa_cons (pe_lc (own := [("_law_k", 2)]) (g := (gName 2)) (tt := tYes) rfl sc__law_plus.nd (pi_range1 rfl T.n_range (pa_cons (pe_callB call_len_seq (by rfl) T.n_len OT.b_len (pa_cons (pv 0) pa_nil)) pa_nil)) (blkOk_by (N := ["_law_place", "_law_other", "_law_k"]) (sc := C8.fnScope s__law_plus) (by decide +kernel)) (fun _ _ _ _ _ => (pg_name (i := 2) sc__law_plus.nd rfl (Or.inl rfl))) (fun _ _ _ _ _ => pts_nil) (fun _ _ _ _ _ => (pe_op op_add (pe_ix (show IxR _ (rIxT K) from ix_tup) (pv 0) (pv 2) (fun _ _ => rfl)) (pe_ix (show IxR _ (rIxT K) from ix_tup) (pv 1) (pv 2) (fun _ _ => rfl))))) pa_nil)))), ?_⟩
    have hpl := plusP_len hkl
    refine ⟨_, rfl, a, _, rfl, .inr hk, _, rfl, by omega, b62 (by rw [List.length_map]; omega), fun p np => ?_⟩
    rw [List.length_map, Int.toNat_natCast]
    refine lc_range (lo := 0) (n := k.length) (fun i H2 => Same H H2 ∧ H2 p = some (.lst (((plusP k l).take i).map V.int))) ⟨same_upd np, upd_same⟩ ?_ ?_
    · rintro i H2 hi ⟨sm, hp⟩
      have hil : i < l.length := by omega
      have hip : i < (plusP k l).length := by omega
      have gk : atI (k.map V.int) ((0 : Int) + (i : Int)) = some (.int k[i]) := by
        rw [Int.zero_add]
        exact atI_nat (by rw [List.getElem?_map, List.getElem?_eq_getElem hi]; rfl)
      have gl : atI (l.map V.int) ((0 : Int) + (i : Int)) = some (.int l[i]) := by
        rw [Int.zero_add]
        exact atI_nat (by rw [List.getElem?_map, List.getElem?_eq_getElem hil]; rfl)
      refine ⟨rfl, tYes_of ?_⟩
      refine ⟨_, rfl, _, rfl, a, _, _, _, rfl, rfl, same_t sm hk, gk, _, rfl, _, rfl, b, _, _, _, rfl, rfl, same_t sm hl, gl, _, _, rfl, rfl, _, hp, ?_, same_mut sm np, ?_⟩
      · rw [List.length_map, List.length_take]
        exact small1000 (by omega)
      · rw [upd_same, take_map_succ V.int hip, plusP_get hip hi hil]
    · rintro H2 ⟨sm, hp⟩
      rw [← hpl, List.take_length] at hp
      exact ⟨p, _, rfl, .inl ⟨.inl (.inl hp), fun t nt => q t _ (sm.trans (same_upd nt)) upd_same⟩⟩
def spMoved (K : PySem.W.Frag) : Sp := fun vs H Q _ => ∃ (a b : Addr) (xs : List V) (es : List Ent) (l : Pl), vs = [.ref a, .ref b] ∧ InEnts K H a xs es ∧ SqT K H b (l.map V.int) ∧ (∀ e ∈ es, e.1.length ≤ l.length) ∧ l.length ≤ 1000 ∧
  ∀ p ws H', Same H H' → H p = none → H' p = some (.lst ws) → Ents H' ws (movL es l) → Q (.ref p) H'
theorem c__law_moved {f : Addr} {fd : FuncData} (D : C8.Def K mg "_law_moved" s__law_moved f fd) (b : Binds K fd ["_law_row_here", "_law_by"] []) (T : Bi mg) (c__law_plus : C8.Cal P w K mg base 1 "_law_plus" (spPlus K) []) : C8.Cal P w K mg base 2 "_law_moved" (spMoved K) [] := by
  refine C8.cal0 D b .nil sc__law_moved (fun vs H Q E h => ?_) (fun cdv A outer s H vs Q E hr h => ?_)
  · obtain ⟨a, b, xs, es, l, rfl, _⟩ := h
    rfl
  · obtain ⟨a, b, xs, es, l, rfl, hE, hl, hle, hz, q⟩ := h
    refine ⟨_, (pss_one (ps_ret (pe_lc (own := [("_law_entry", 2)]) (g := (gName 2)) (tt := tYes) rfl sc__law_moved.nd (pi_list (pv 0)) (blkOk_by (N := ["_law_row_here", "_law_by", "_law_entry"]) (sc := C8.fnScope s__law_moved) (by decide +kernel)) (fun _ _ _ _ _ => (pg_name (i := 2) sc__law_moved.nd rfl (Or.inl rfl))) (fun _ _ _ _ _ => pts_nil) (fun _ _ _ _ _ => (pe_tup (pa_cons (C8.pe_c c__law_plus hr (by decide) (by rfl) (pa_cons (pe_ix (show IxR _ (rIxT K) from ix_tup) (pv 2) pe_int (fun _ _ => rfl)) (pa_cons (pv 1) pa_nil))) (pa_cons (pe_ix (show IxR _ (rIxT K) from ix_tup) (pv 2) pe_int (fun _ _ => rfl)) pa_nil))))))), ?_⟩
    have hx := hE.e.len
    have hez := hE.z
    refine ⟨_, rfl, a, rfl, ⟨_, hE.l⟩, fun p np => ?_⟩
    refine lc_list (K := K) (xs := xs) (fun i H2 => Same H H2 ∧ ∃ ws, H2 p = some (.lst ws) ∧ Ents H2 ws (movL (es.take i) l)) ?_ ?_ ?_ ?_
    · exact ⟨same_upd np, [], upd_same, .nil⟩
    · rintro i H2 _ ⟨sm, _⟩
      exact sm.seq hE.l
    · rintro i x H2 hxi ⟨sm, ws, hp, hW⟩
      obtain ⟨e, he, t, pe, rfl, ht, hpe⟩ := (hE.e.mono sm).get hxi
      obtain ⟨hi, hee⟩ := List.getElem?_eq_some_iff.mp he
      have hm := List.mem_of_getElem? he
      have hT : SqT K H2 t [.ref pe, .int e.2] := .inl (.inl ht)
      refine ⟨rfl, tYes_of ?_⟩
      refine ⟨_, rfl, t, _, 0, _, rfl, rfl, hT, atI_nat (j := 0) rfl, _, rfl, pe, b, e.1, l, rfl, .inl (.inl hpe), same_t sm hl, hle e hm, Nat.le_trans (hle e hm) hz, fun p3 H3 sm3 hp3 => ?_⟩
      refine ⟨_, rfl, t, _, 1, _, rfl, rfl, same_t sm3 hT, atI_nat (j := 1) rfl, (by show 2 ≤ sizeLine; decide), fun t4 nt4 => ?_⟩
      have sm4 : Same H3 (upd H3 t4 (.tup [.ref p3, .int e.2])) := same_upd nt4
      have smA := sm3.trans sm4
      have hv : EntAt (upd H3 t4 (.tup [.ref p3, .int e.2])) (.ref t4) (plusP e.1 l, e.2) := ⟨t4, p3, rfl, upd_same, sm4 _ _ hp3⟩
      have hD := smA _ _ hp
      have hwl := hW.len
      refine ⟨ws, hD, ?_, same_mut (sm.trans smA) np, ws ++ [.ref t4], upd_same, ?_⟩
      · unfold movL at hwl
        rw [List.length_map, List.length_take] at hwl
        omega
      · have ht1 : es.take (i + 1) = es.take i ++ [e] := by
          rw [List.take_add_one, he]
          rfl
        unfold movL
        rw [ht1, List.map_append]
        exact ((hW.mono smA).app (.cons hv .nil)).updL hD
    · rintro H2 ⟨sm, ws, hp, hW⟩
      rw [hx, List.take_length] at hW
      exact q p ws H2 sm np hp hW
def spBox (K : PySem.W.Frag) : Sp := fun vs H Q _ => ∃ (k u : Nat), vs = [.int (k : Int), .int (u : Int)] ∧ k < 3 ∧ ∀ p (bs : List Nat) H', (bs = [u] ∨ bs = [u, 2] ∨ bs = [2, 2, 2]) → bs.length = k + 1 → Same H H' → H' p = some (.lst (bs.map fun (n : Nat) => V.int n)) → Q (.ref p) H'
theorem c__law_box {f : Addr} {fd : FuncData} (D : C8.Def K mg "_law_box" s__law_box f fd) (b : Binds K fd ["_law_kind", "_law_wide"] []) (T : Bi mg) : C8.Cal P w K mg base 1 "_law_box" (spBox K) [] := by
  refine C8.cal0 D b .nil sc__law_box (fun vs H Q E h => ?_) (fun cdv A outer s H vs Q E hr h => ?_)
  · obtain ⟨k, u, rfl, _⟩ := h
    rfl
  · obtain ⟨k, u, rfl, hk, q⟩ := h
    refine ⟨_, (pss_cons (ps_if (pt_cmpR op_eq (pv 0) pe_int (nomark _)) (pss_one (ps_ret (pe_lst (pa_cons (pv 1) pa_nil)))) pss_nil)
  (pss_cons (ps_if (pt_cmpR op_eq (pv 0) pe_int (nomark _)) (pss_one (ps_ret (pe_lst (pa_cons (pv 1) (pa_cons pe_int pa_nil))))) pss_nil)
  (pss_one (ps_ret (pe_lst (pa_cons pe_int (pa_cons pe_int (pa_cons pe_int pa_nil)))))))), ?_⟩
    refine ⟨_, rfl, rfl, _, rfl, iteD (fun h => ?_) (fun h => ?_)⟩
    · refine ⟨_, rfl, (by show 1 ≤ sizeLine; decide), fun p np => ?_⟩
      have h0 := V.int.inj h
      exact q p [u] _ (.inl rfl) (by show 1 = k + 1; omega) (same_upd np) upd_same
    · refine ⟨_, rfl, rfl, _, rfl, iteD (fun h2 => ?_) (fun h2 => ?_)⟩
      · refine ⟨_, rfl, (by show 2 ≤ sizeLine; decide), fun p np => ?_⟩
        have h0 := V.int.inj h2
        exact q p [u, 2] _ (.inr (.inl rfl)) (by show 2 = k + 1; omega) (same_upd np) upd_same
      · refine ⟨(by show 3 ≤ sizeLine; decide), fun p np => ?_⟩
        have h0 : k ≠ 0 := fun e => h (by rw [e]; rfl)
        have h1 : k ≠ 1 := fun e => h2 (by rw [e]; rfl)
        exact q p [2, 2, 2] _ (.inr (.inr rfl)) (by show 3 = k + 1; omega) (same_upd np) upd_same
end
end OT

set_option Elab.async false
set_option linter.all false
set_option maxRecDepth 100000
set_option maxHeartbeats 2000000
namespace OT
open PySem PySem.Spec PyProof.Rows L2
theorem InR.get {ds zs : List Int} (h : InR ds zs) {i : Nat} {z : Int} (hz : zs[i]? = some z) : ∃ d, (ds.map V.int)[i]? = some (.int d) ∧ 0 ≤ d ∧ d < z := by
  have hi : i < ds.length := by
    rw [h.1]
    exact (List.getElem?_eq_some_iff.mp hz).1
  have e : ds[i]? = some ds[i] := List.getElem?_eq_getElem hi
  exact ⟨ds[i], by rw [List.getElem?_map, e]; rfl, h.2 i _ z e hz⟩
theorem ixN_nat {n j : Nat} (h : j < n) : ixN n (j : Int) = some j := by
  unfold ixN
  rw [if_pos (by omega), if_pos (by omega), Int.toNat_natCast]
theorem mod_nat {n : Nat} (h : 0 < n) (z : Int) : ∃ j : Nat, z % (n : Int) = (j : Int) ∧ j < n := by
  have h0 : 0 ≤ z % (n : Int) := Int.emod_nonneg _ (by omega)
  have h1 : z % (n : Int) < n := Int.emod_lt_of_pos _ (by omega)
  obtain ⟨j, hj⟩ := Int.eq_ofNat_of_zero_le h0
  exact ⟨j, hj, by omega⟩
/-- how many places a box has -/
def pr (bs : List Nat) : Nat := bs.foldl (· * ·) 1
theorem pr_snoc (bs : List Nat) (n : Nat) : pr (bs ++ [n]) = pr bs * n := by
  unfold pr
  rw [List.foldl_append]
  rfl
theorem pr_take {bs : List Nat} {i : Nat} (h : i < bs.length) : pr (bs.take (i + 1)) = pr (bs.take i) * bs[i] := by
  rw [List.take_add_one, List.getElem?_eq_getElem h]
  exact pr_snoc _ _
/-- within a box, direction by direction -/
def InN (o : Pl) (bs : List Nat) (k : Pl) : Prop := ∀ (i : Nat) (x y : Int) (b : Nat), k[i]? = some x → o[i]? = some y → bs[i]? = some b → y ≤ x ∧ x < y + (b : Int)
def zeros (n : Nat) : Pl := List.replicate n 0
theorem InN.push {n : Nat} {bs : List Nat} {k : Pl} {m w : Nat} (h : InN (zeros n) bs k) (hl : k.length = bs.length) (hm : m < w) (hn : bs.length ≤ n) : InN (zeros (n + 1)) (bs ++ [w]) (k ++ [(m : Int)]) := by
  intro i x y b hx hy hb
  have hy0 : y = 0 := by
    have := List.mem_of_getElem? hy
    exact (List.mem_replicate.mp this).2
  subst hy0
  by_cases c : i < k.length
  · rw [List.getElem?_append_left c] at hx
    rw [List.getElem?_append_left (by omega)] at hb
    refine h i x 0 b hx ?_ hb
    unfold zeros
    rw [List.getElem?_replicate, if_pos (by omega)]
  · have hi := (List.getElem?_eq_some_iff.mp hx).1
    rw [List.length_append, List.length_singleton] at hi
    have e : i = k.length := by omega
    subst e
    rw [List.getElem?_append_right (by omega), Nat.sub_self] at hx
    rw [hl, List.getElem?_append_right (by omega), Nat.sub_self] at hb
    cases hx
    cases hb
    omega
structure PlaceN (W : Nat) (cs : List Nat) (ks : List Pl) : Prop where
  l : ∀ k ∈ ks, k.length = cs.length
  c : ∀ k ∈ ks, ∀ x ∈ k, 0 ≤ x ∧ x < (W : Int)
  b : ∀ k ∈ ks, InN (zeros cs.length) cs k
theorem PlaceN.push {W : Nat} {cs : List Nat} {w : Nat} {ks : List Pl} {k : Pl} {m : Nat} (h : PlaceN W (cs ++ [w]) ks) (hl : k.length = cs.length) (hc : ∀ x ∈ k, 0 ≤ x ∧ x < (W : Int)) (hb : InN (zeros cs.length) cs k) (hm : m < W) (hw : m < w) : PlaceN W (cs ++ [w]) (ks ++ [k ++ [(m : Int)]]) := by
  constructor
  · intro y hy
    rcases List.mem_append.mp hy with hy | hy
    · exact h.l y hy
    · rw [List.mem_singleton.mp hy, List.length_append, hl, List.length_append]
      rfl
  · intro y hy x hx
    rcases List.mem_append.mp hy with hy | hy
    · exact h.c y hy x hx
    · rw [List.mem_singleton.mp hy] at hx
      rcases List.mem_append.mp hx with hx | hx
      · exact hc x hx
      · rw [List.mem_singleton.mp hx]
        omega
  · intro y hy
    rcases List.mem_append.mp hy with hy | hy
    · exact h.b y hy
    · rw [List.mem_singleton.mp hy, List.length_append, List.length_singleton]
      exact hb.push hl hw (Nat.le_refl _)
section
variable {P : Program} {w : World} {K : PySem.W.Frag} {mg : Str → Option Value} {base : Heap}
/-- a box that is small -/
structure BoxOk (W : Nat) (bs : List Nat) : Prop where
  n : bs.length ≤ 3
  w : ∀ n ∈ bs, n ≤ W
  p : ∀ i, pr (bs.take i) ≤ 64000
def spPlaces (K : PySem.W.Frag) : Sp := fun vs H Q _ => ∃ (b : Addr) (bs : List Nat) (W : Nat), vs = [.ref b] ∧ SqL K H b (bs.map fun (n : Nat) => V.int n) ∧ BoxOk W bs ∧ W ≤ 1000 ∧
  ∀ p ws ks H', Same H H' → H' p = some (.lst ws) → Pls H' ws ks → ks.length = pr bs → PlaceN W bs ks → Q (.ref p) H'
theorem c__law_places {f : Addr} {fd : FuncData} (D : C8.Def K mg "_law_places" s__law_places f fd) (b : Binds K fd ["_law_box_here"] []) (T : Bi mg) : C8.Cal P w K mg base 1 "_law_places" (spPlaces K) [] := by
  refine C8.cal0 D b .nil sc__law_places (fun vs H Q E h => ?_) (fun cdv A outer s H vs Q E hr h => ?_)
  · obtain ⟨b, bs, W, rfl, _⟩ := h
    rfl
  · obtain ⟨b, bs, W, rfl, hB, ok, hW0, q⟩ := h
    refine ⟨_, (pss_cons (ps_set (i := 1) sc__law_places.nd rfl (Or.inl rfl) (pe_lst (pa_cons (pe_tup pa_nil) pa_nil)))
  (pss_cons (ps_for PassesOwn.never rfl (pi_list (pv 0)) (pg_name (i := 2) sc__law_places.nd rfl (Or.inl rfl)) (pss_cons (ps_set (i := 3) sc__law_places.nd rfl (Or.inl rfl) (pe_lst pa_nil))
  (pss_cons (ps_for PassesOwn.never rfl (pi_list (pv 1)) (pg_name (i := 4) sc__law_places.nd rfl (Or.inl rfl)) (pss_one (ps_for PassesOwn.never rfl (pi_range1 rfl T.n_range (pa_cons (pv 2) pa_nil)) (pg_name (i := 5) sc__law_places.nd rfl (Or.inl rfl)) (pss_one (ps_expr (pe_bm PySem.F.plainAttrs_list PySem.F.slot_list_append PySem.F.type_list_append mt_append (pv 3) (pa_cons (pe_op op_catA (pv 4) (pe_tup (pa_cons (pv 5) pa_nil))) pa_nil)))))))
  (pss_one (ps_set (i := 1) sc__law_places.nd rfl (Or.inl rfl) (pe_callTy call_list_of (by rfl) T.n_list OT.b_list (pa_cons (pv 3) pa_nil)))))))
  (pss_one (ps_ret (pv 1))))), ?_⟩
    refine ⟨(by show 0 ≤ sizeLine; decide), fun t0 nt0 => ⟨(by show 1 ≤ sizeLine; decide), fun p0 np0 => ?_⟩⟩
    have s0 : Same H (upd H t0 (.tup [])) := same_upd nt0
    have s1 : Same (upd H t0 (.tup [])) (upd (upd H t0 (.tup [])) p0 (.lst [.ref t0])) := same_upd np0
    refine ⟨_, rfl, b, rfl, ⟨_, (s0.trans s1).seq hB⟩, ?_⟩
    refine for_list (K := K) (xs := bs.map fun (n : Nat) => V.int n) (fun i σ H2 => ∃ (p : Addr) (ws : List V) (ks : List Pl) (y2 y3 y4 y5 : Option V), σ = [some (.ref b), some (.ref p), y2, y3, y4, y5] ∧ Same H H2 ∧ H2 p = some (.lst ws) ∧ Pls H2 ws ks ∧ ks.length = pr (bs.take i) ∧ PlaceN W (bs.take i) ks) ?_ ?_ ?_ ?_
    · refine ⟨p0, _, [[]], none, none, none, none, rfl, s0.trans s1, upd_same, .cons (s1 _ _ upd_same) .nil, rfl, ⟨fun k hk => ?_, fun k hk x hx => ?_, fun k hk => ?_⟩⟩
      · rw [List.mem_singleton.mp hk]
        rfl
      · rw [List.mem_singleton.mp hk] at hx
        cases hx
      · rw [List.mem_singleton.mp hk]
        intro i x y b hx _ _
        cases hx
    · rintro i σ H2 _ ⟨_, _, _, _, _, _, _, _, sm, _⟩
      exact sm.seq hB
    · rintro i x σ H2 hx ⟨p, ws, ks, y2, y3, y4, y5, rfl, sm, hp, hW, hkl, hN⟩
      obtain ⟨hi, rfl⟩ := getm hx
      have hwi := ok.w _ (List.getElem_mem hi)
      have hpi := ok.p i
      have hpi1 := ok.p (i + 1)
      rw [pr_take hi] at hpi1
      have htk : bs.take (i + 1) = bs.take i ++ [bs[i]] := by
        rw [List.take_add_one, List.getElem?_eq_getElem hi]
        rfl
      have htl : (bs.take i).length = i := by
        rw [List.length_take]
        omega
      rw [htk]
      generalize hbn : bs[i] = n at hwi hpi1 htk ⊢
      rw [← hkl] at hpi hpi1
      have hwl := hW.len
      refine ⟨Nat.zero_le _, fun D nD => ?_⟩
      have s2 : Same H2 (upd H2 D (.lst [])) := same_upd nD
      have hl0 := s2 _ _ hp
      have nDl : D ≠ p := Ne.symm (ne_of_none hp nD)
      refine ⟨_, rfl, p, rfl, ⟨_, .inl (.inl hl0)⟩, ?_⟩
      refine for_list (K := K) (a := p) (xs := ws) (fun j σ H3 => ∃ (us : List V) (ls : List Pl) (z4 z5 : Option V), σ = [some (.ref b), some (.ref p), some (.int (n : Int)), some (.ref D), z4, z5] ∧ Same H2 H3 ∧ H3 p = some (.lst ws) ∧ H3 D = some (.lst us) ∧ Pls H3 us ls ∧ ls.length = j * n ∧ PlaceN W (bs.take i ++ [n]) ls) ?_ ?_ ?_ ?_
      · exact ⟨[], [], y4, y5, rfl, s2, hl0, upd_same, .nil, by rw [Nat.zero_mul]; rfl, ⟨fun k hk => (by cases hk), fun k hk => (by cases hk), fun k hk => (by cases hk)⟩⟩
      · rintro j σ H3 _ ⟨_, _, _, _, _, _, hl, _⟩
        exact .inl (.inl hl)
      · rintro j x σ H3 hxj ⟨us, ls, z4, z5, rfl, sm3, hl, hD, hU, hll, hN3⟩
        obtain ⟨a, k, rfl, hkk, hak⟩ := (hW.mono sm3).get hxj
        have hj := (List.getElem?_eq_some_iff.mp hkk).1
        have hkm := List.mem_of_getElem? hkk
        have hjn : (j + 1) * n ≤ ks.length * n := Nat.mul_le_mul_right _ hj
        rw [Nat.succ_mul] at hjn
        refine ⟨_, rfl, _, rfl, by omega, b62 (by omega), ?_⟩
        rw [Int.toNat_natCast]
        refine for_range (lo := 0) (n := n) (fun m σ H4 => ∃ (us : List V) (ls : List Pl) (z5 : Option V), σ = [some (.ref b), some (.ref p), some (.int (n : Int)), some (.ref D), some (.ref a), z5] ∧ Same H2 H4 ∧ H4 p = some (.lst ws) ∧ H4 D = some (.lst us) ∧ Pls H4 us ls ∧ ls.length = j * n + m ∧ PlaceN W (bs.take i ++ [n]) ls) ⟨us, ls, z5, rfl, sm3, hl, hD, hU, hll, hN3⟩ ?_ ?_
        · rintro m σ H4 hm ⟨us, ls, z5, rfl, sm4, hl4, hD4, hU4, hll4, hN4⟩
          have hak4 : H4 a = some (.tup (k.map V.int)) := by
            obtain ⟨a2, k2, e1, e2, e3⟩ := (hW.mono sm4).get hxj
            cases e1
            rw [hkk] at e2
            cases e2
            exact e3
          have hul := hU4.len
          have nl4 : ∀ {o : HO}, upd H4 D o p = H4 p := fun {o} => upd_ne (Ne.symm nDl)
          refine ⟨_, rfl, .inl ⟨rfl, _, .inl (.inl hD4)⟩, _, rfl, _, rfl, (by show 1 ≤ sizeLine; decide), fun t nt => ?_⟩
          have sm5 : Same H4 (upd H4 t (.tup [.int ((0 : Int) + (m : Int))])) := same_upd nt
          have hN5 := hN4.push (hN.l k hkm) (hN.c k hkm) (hN.b k hkm) (show m < W by omega) hm
          have hlen5 : (ls ++ [k ++ [(m : Int)]]).length = j * n + (m + 1) := by
            rw [List.length_append, hll4]
            rfl
          refine ⟨a, t, _, _, rfl, rfl, .inl (.inl (sm5 _ _ hak4)), .inl (.inl upd_same), ?_, fun h0 => ?_, fun _ h => (by cases h), fun _ _ u nu => ?_⟩
          · rw [List.length_map, hN.l k hkm, htl]
            exact Nat.le_of_lt (small1000 (by show i + 1 ≤ 1000; have := ok.n; omega))
          · have hk0 : k = [] := List.map_eq_nil_iff.mp h0
            have hD5 := sm5 _ _ hD4
            refine ⟨D, us, _, rfl, rfl, hD5, small100k (by omega), ?_⟩
            refine ⟨us ++ [.ref t], ls ++ [k ++ [(m : Int)]], _, rfl, same_mut (sm4.trans sm5) nD, ?_, upd_same, ((hU4.mono sm5).app (.cons ?_ .nil)).updL hD5, hlen5, hN5⟩
            · rw [upd_ne (Ne.symm nDl)]
              exact sm5 _ _ hl4
            · rw [upd_same, hk0, Int.zero_add]
              rfl
          · have sm6 : Same (upd H4 t (.tup [.int ((0 : Int) + (m : Int))])) (upd (upd H4 t (.tup [.int ((0 : Int) + (m : Int))])) u (.tup (k.map V.int ++ [.int ((0 : Int) + (m : Int))]))) := same_upd nu
            have sm7 := sm5.trans sm6
            have hD5 := sm7 _ _ hD4
            refine ⟨D, us, _, rfl, rfl, hD5, small100k (by omega), ?_⟩
            refine ⟨us ++ [.ref u], ls ++ [k ++ [(m : Int)]], _, rfl, same_mut (sm4.trans sm7) nD, ?_, upd_same, ((hU4.mono sm7).app (.cons ?_ .nil)).updL hD5, hlen5, hN5⟩
            · rw [upd_ne (Ne.symm nDl)]
              exact sm7 _ _ hl4
            · rw [upd_same, List.map_append, Int.zero_add]
              rfl
        · rintro σ H4 ⟨us, ls, z5, rfl, sm4, hl4, hD4, hU4, hll4, hN4⟩
          exact ⟨us, ls, _, _, rfl, sm4, hl4, hD4, hU4, by rw [hll4, Nat.succ_mul], hN4⟩
      · rintro σ H3 ⟨us, ls, z4, z5, rfl, sm3, hl, hD, hU, hll, hN3⟩
        refine ⟨_, rfl, D, us, rfl, .inl (.inl (.inl hD)), fun l nl => ?_⟩
        refine ⟨l, us, ls, _, _, _, _, rfl, (sm.trans sm3).trans (same_upd nl), upd_same, hU.mono (same_upd nl), ?_, hN3⟩
        rw [hll, hwl, hkl, pr_snoc]
    · rintro σ H2 ⟨p, ws, ks, y2, y3, y4, y5, rfl, sm, hp, hW, hkl, hN⟩
      rw [List.length_map] at hkl hN
      rw [List.take_length] at hkl hN
      exact ⟨_, rfl, q p ws ks H2 sm hp hW hkl hN⟩
end
end OT

set_option Elab.async false
set_option linter.all false
set_option maxRecDepth 100000
set_option maxHeartbeats 2000000
namespace OT
open PySem PySem.Spec PyProof.Rows L2
/-- a row that is drawn: at most m places of n coordinates -/
structure DrawnR (n m c u : Nat) (r : List Ent) : Prop where
  v : Valid r
  m : r.length ≤ m
  n : ∀ e ∈ r, e.1.length = n
  c : ∀ e ∈ r, ∀ x ∈ e.1, x.natAbs ≤ c
  u : ∀ e ∈ r, e.2.natAbs ≤ u
/-- within some box of these sizes -/
def Boxed (bs : List Nat) (r : List Ent) : Prop := ∃ o : Pl, o.length = bs.length ∧ ∀ e ∈ r, InN o bs e.1
theorem InN.mov {n : Nat} {bs : List Nat} {k o : Pl} (h : InN (zeros n) bs k) (hk : k.length = o.length) (hn : o.length ≤ n) : InN o bs (plusP k o) := by
  intro i x y b hx hy hb
  have hi := (List.getElem?_eq_some_iff.mp hy).1
  have hik : i < k.length := by omega
  have hip : i < (plusP k o).length := (List.getElem?_eq_some_iff.mp hx).1
  rw [List.getElem?_eq_getElem hip] at hx
  rw [plusP_get hip hik hi] at hx
  have ho : o[i] = y := Option.some.inj ((List.getElem?_eq_getElem hi).symm.trans hy)
  obtain ⟨h1, h2⟩ := h i k[i] 0 b (List.getElem?_eq_getElem hik) (by
    unfold zeros
    rw [List.getElem?_replicate, if_pos (by omega)]) hb
  have := Option.some.inj hx
  omega
section
variable {P : Program} {w : World} {K : PySem.W.Frag} {mg : Str → Option Value} {base : Heap}
def spDrawn (K : PySem.W.Frag) : Sp := fun vs H Q _ => ∃ (c : Int) (b : Addr) (bs : List Nat) (rc mv W : Nat), vs = [.int c, .ref b, .int (rc : Int), .int (mv : Int)] ∧ SqL K H b (bs.map fun (n : Nat) => V.int n) ∧ BoxOk W bs ∧ W ≤ 1000 ∧ 1 ≤ bs.length ∧ pr bs ≤ 900 ∧ rc ≤ 1000 ∧ mv ≤ 100000 ∧
  ∀ p ws r H', Same H H' → H p = none → H' p = some (.lst ws) → Ents H' ws r → DrawnR bs.length (pr bs) (W + mv) (pr bs * rc) r → Boxed bs r → Q (.ref p) H'
theorem rep_get {n : Nat} {z : Int} {i : Nat} (h : i < n) (ys : List Int) : (List.replicate n z ++ ys)[i]? = some z := by
  rw [List.getElem?_append_left (by rw [List.length_replicate]; exact h), List.getElem?_replicate, if_pos h]
theorem rep_get2 {n m : Nat} {y z : Int} {i : Nat} (h : i < m) : (List.replicate n y ++ List.replicate m z)[n + i]? = some z := by
  rw [List.getElem?_append_right (by rw [List.length_replicate]; exact Nat.le_add_right _ _), List.length_replicate, Nat.add_sub_cancel_left, List.getElem?_replicate, if_pos h]
theorem c__law_drawn {f : Addr} {fd : FuncData} (D : C8.Def K mg "_law_drawn" s__law_drawn f fd) (b : Binds K fd ["_law_cell_here", "_law_box_here", "_law_reach", "_law_moves"] []) (T : Bi mg) (c__law_places : C8.Cal P w K mg base 1 "_law_places" (spPlaces K) []) (c__law_draws : C8.Cal P w K mg base 1 "_law_draws" (spDraws K) [])
    (c__law_row : C8.Cal P w K mg base 1 "_law_row" (spGather K) []) (c__law_moved : C8.Cal P w K mg base 2 "_law_moved" (spMoved K) []) : C8.Cal P w K mg base 3 "_law_drawn" (spDrawn K) [] := by
  refine C8.cal0 D b .nil sc__law_drawn (fun vs H Q E h => ?_) (fun cdv A outer s H vs Q E hr h => ?_)
  · obtain ⟨c, b, bs, rc, mv, W, rfl, _⟩ := h
    rfl
  · obtain ⟨c, b, bs, rc, mv, W, rfl, hB, ok, hW0, hb1, hpr, hrc, hmv, q⟩ := h
    refine ⟨_, (pss_cons (ps_set (i := 4) sc__law_drawn.nd rfl (Or.inr rfl) (C8.pe_c c__law_places hr (by decide) (by rfl) (pa_cons (pv 1) pa_nil)))
  (pss_cons (ps_set (i := 5) sc__law_drawn.nd rfl (Or.inr rfl) (C8.pe_c c__law_draws hr (by decide) (by rfl) (pa_cons (pv 0) (pa_cons (pe_op op_cat (pe_lc (own := [("_law_k", 7)]) (g := (gName 7)) (tt := tYes) rfl sc__law_drawn.nd (pi_list (pv 4)) (blkOk_by (N := ["_law_cell_here", "_law_box_here", "_law_reach", "_law_moves", "_law_places_here", "_law_draws_here", "_law_by", "_law_k"]) (sc := C8.fnScope s__law_drawn) (by decide +kernel)) (fun _ _ _ _ _ => (pg_name (i := 7) sc__law_drawn.nd rfl (Or.inl rfl))) (fun _ _ _ _ _ => pts_nil) (fun _ _ _ _ _ => (pe_op op_add (pe_op op_mul pe_int (pv 2)) pe_int))) (pe_lc (own := [("_law_k", 7)]) (g := (gName 7)) (tt := tYes) rfl sc__law_drawn.nd (pi_list (pv 1)) (blkOk_by (N := ["_law_cell_here", "_law_box_here", "_law_reach", "_law_moves", "_law_places_here", "_law_draws_here", "_law_by", "_law_k"]) (sc := C8.fnScope s__law_drawn) (by decide +kernel)) (fun _ _ _ _ _ => (pg_name (i := 7) sc__law_drawn.nd rfl (Or.inl rfl))) (fun _ _ _ _ _ => pts_nil) (fun _ _ _ _ _ => (pe_op op_add (pe_op op_mul pe_int (pv 3)) pe_int)))) pa_nil))))
  (pss_cons (ps_set (i := 6) sc__law_drawn.nd rfl (Or.inl rfl) (pe_callTy call_tuple_of (by rfl) T.n_tuple OT.b_tuple (pa_cons (pe_lc (own := [("_law_k", 7)]) (g := (gName 7)) (tt := tYes) rfl sc__law_drawn.nd (pi_range1 rfl T.n_range (pa_cons (pe_callB call_len_seq (by rfl) T.n_len OT.b_len (pa_cons (pv 1) pa_nil)) pa_nil)) (blkOk_by (N := ["_law_cell_here", "_law_box_here", "_law_reach", "_law_moves", "_law_places_here", "_law_draws_here", "_law_by", "_law_k"]) (sc := C8.fnScope s__law_drawn) (by decide +kernel)) (fun _ _ _ _ _ => (pg_name (i := 7) sc__law_drawn.nd rfl (Or.inl rfl))) (fun _ _ _ _ _ => pts_nil) (fun _ _ _ _ _ => (pe_op op_sub (pe_ix (show IxR _ (rIxL K) from ix_list) (pv 5) (pe_op op_add (pe_callB (show CallR _ _ (Evl.rLenS K) from call_len_seq) (by rfl) T.n_len OT.b_len (pa_cons (pv 4) pa_nil)) (pv 7)) (fun _ _ => rfl)) (pv 3)))) pa_nil)))
  (pss_one (ps_ret (C8.pe_c c__law_moved hr (by decide) (by rfl) (pa_cons (C8.pe_c c__law_row hr (by decide) (by rfl) (pa_cons (pe_lc (own := [("_law_k", 7)]) (g := (gName 7)) (tt := tYes) rfl sc__law_drawn.nd (pi_range1 rfl T.n_range (pa_cons (pe_callB call_len_seq (by rfl) T.n_len OT.b_len (pa_cons (pv 4) pa_nil)) pa_nil)) (blkOk_by (N := ["_law_cell_here", "_law_box_here", "_law_reach", "_law_moves", "_law_places_here", "_law_draws_here", "_law_by", "_law_k"]) (sc := C8.fnScope s__law_drawn) (by decide +kernel)) (fun _ _ _ _ _ => (pg_name (i := 7) sc__law_drawn.nd rfl (Or.inl rfl))) (fun _ _ _ _ _ => pts_nil) (fun _ _ _ _ _ => (pe_tup (pa_cons (pe_ix (show IxR _ (rIxL K) from ix_list) (pv 4) (pv 7) (fun _ _ => rfl)) (pa_cons (pe_op op_sub (pe_ix (show IxR _ (rIxL K) from ix_list) (pv 5) (pv 7) (fun _ _ => rfl)) (pv 2)) pa_nil))))) pa_nil)) (pa_cons (pv 6) pa_nil)))))))), ?_⟩
    refine ⟨_, rfl, b, bs, W, rfl, hB, ok, hW0, fun p ws ks H1 sm1 hp hW hkl hN => ?_⟩
    have hS : SqL K H1 p ws := .inl (.inl hp)
    have hwl := hW.len
    have hbn := ok.n
    refine ⟨_, rfl, _, rfl, p, rfl, ⟨_, hS⟩, fun D1 nD1 => ?_⟩
    refine lc_list (K := K) (xs := ws) (fun i H2 => Same H1 H2 ∧ H2 D1 = some (.lst (List.replicate i (V.int (2 * (rc : Int) + 1))))) ⟨same_upd nD1, upd_same⟩ ?_ ?_ ?_
    · rintro i H2 _ ⟨sm, _⟩
      exact sm.seq hS
    · rintro i x H2 hx ⟨sm, hD⟩
      have hi := (List.getElem?_eq_some_iff.mp hx).1
      refine ⟨rfl, tYes_of ?_⟩
      refine ⟨_, rfl, _, _, rfl, rfl, .inl ⟨by decide, by decide⟩, _, _, rfl, rfl, _, hD, ?_, same_mut sm nD1, ?_⟩
      · rw [List.length_replicate]
        exact small1000 (by omega)
      · rw [upd_same, List.replicate_succ']
    rintro H2 ⟨sm2, hD1⟩
    have sA := sm1.trans sm2
    refine ⟨_, rfl, b, rfl, ⟨_, sA.seq hB⟩, fun D2 nD2 => ?_⟩
    refine lc_list (K := K) (xs := bs.map fun (n : Nat) => V.int n) (fun i H3 => Same H2 H3 ∧ H3 D2 = some (.lst (List.replicate i (V.int (2 * (mv : Int) + 1))))) ⟨same_upd nD2, upd_same⟩ ?_ ?_ ?_
    · rintro i H3 _ ⟨sm, _⟩
      exact (sA.trans sm).seq hB
    · rintro i x H3 hx ⟨sm, hD⟩
      have hi := (List.getElem?_eq_some_iff.mp hx).1
      rw [List.length_map] at hi
      refine ⟨rfl, tYes_of ?_⟩
      refine ⟨_, rfl, _, _, rfl, rfl, .inl ⟨by decide, by decide⟩, _, _, rfl, rfl, _, hD, ?_, same_mut sm nD2, ?_⟩
      · rw [List.length_replicate]
        exact small1000 (by omega)
      · rw [upd_same, List.replicate_succ']
    rintro H3 ⟨sm3, hD2⟩
    rw [List.length_map] at hD2
    refine ⟨D1, D2, _, _, rfl, rfl, sm3 _ _ hD1, hD2, ?_, fun p3 np3 => ?_⟩
    · rw [List.length_replicate, List.length_replicate]
      exact Nat.le_of_lt (small1000 (by omega))
    let zs : List Int := List.replicate ws.length (2 * (rc : Int) + 1) ++ List.replicate bs.length (2 * (mv : Int) + 1)
    have hzl : zs.length = ws.length + bs.length := by
      show (_ ++ _ : List Int).length = _
      rw [List.length_append, List.length_replicate, List.length_replicate]
    have hzm : zs.map V.int = List.replicate ws.length (V.int (2 * (rc : Int) + 1)) ++ List.replicate bs.length (V.int (2 * (mv : Int) + 1)) := by
      show (_ ++ _ : List Int).map V.int = _
      rw [List.map_append, List.map_replicate, List.map_replicate]
    have sB := (sA.trans sm3).trans (same_upd (o := .lst (List.replicate ws.length (V.int (2 * (rc : Int) + 1)) ++ List.replicate bs.length (V.int (2 * (mv : Int) + 1)))) np3)
    have sB1 := (sm2.trans sm3).trans (same_upd (o := .lst (List.replicate ws.length (V.int (2 * (rc : Int) + 1)) ++ List.replicate bs.length (V.int (2 * (mv : Int) + 1)))) np3)
    refine ⟨p3, zs, c, rfl, .inl (.inl ?_), by omega, fun z hz => ?_, fun ds H4 p4 hin sm4 np4 hp4 => ?_⟩
    · rw [upd_same, hzm]
    · rcases List.mem_append.mp hz with hz | hz
      · rw [(List.mem_replicate.mp hz).2]
        omega
      · rw [(List.mem_replicate.mp hz).2]
        omega
    have sC := sB.trans sm4
    have sC1 := sB1.trans sm4
    have L4 : SqL K H4 p4 (ds.map V.int) := .inl (.inl hp4)
    refine ⟨_, rfl, b, _, rfl, .inl (sC.seq hB), _, rfl, by omega, b62 (by rw [List.length_map]; omega), fun p5 np5 => ?_⟩
    rw [List.length_map, Int.toNat_natCast]
    refine lc_range (lo := 0) (n := bs.length) (fun i H5 => ∃ ys : List Int, ys.length = i ∧ (∀ y ∈ ys, y.natAbs ≤ mv) ∧ Same H4 H5 ∧ H5 p5 = some (.lst (ys.map V.int))) ⟨[], rfl, fun y hy => (by cases hy), same_upd np5, upd_same⟩ ?_ ?_
    · rintro i H5 hi ⟨ys, hyl, hyb, sm5, hp5⟩
      obtain ⟨d, gd, gda, gdb⟩ := hin.get (i := ws.length + i) (rep_get2 hi)
      refine ⟨rfl, tYes_of ?_⟩
      have hix : atI (ds.map V.int) (((ws.length : Nat) : Int) + ((0 : Int) + (i : Int))) = some (.int d) := by
        rw [show ((ws.length : Nat) : Int) + ((0 : Int) + (i : Int)) = ((ws.length + i : Nat) : Int) by omega]
        exact atI_nat gd
      refine ⟨_, rfl, _, rfl, p, _, rfl, .inl ((sC1.trans sm5).seq hS), _, rfl, _, _, rfl, rfl, p4, _, _, _, rfl, rfl, sm5.seq L4, hix, ?_⟩
      refine ⟨_, rfl, _, _, rfl, rfl, ?_⟩
      refine ⟨_, hp5, ?_, ys ++ [d - (mv : Int)], by rw [List.length_append, hyl]; rfl, fun y hy => ?_, same_mut sm5 np5, ?_⟩
      · rw [List.length_map]
        exact small1000 (by omega)
      · rcases List.mem_append.mp hy with hy | hy
        · exact hyb y hy
        · rw [List.mem_singleton.mp hy]
          omega
      · rw [upd_same, List.map_append]
        rfl
    rintro H5 ⟨ys, hyl, hyb, sm5, hp5⟩
    refine ⟨p5, _, rfl, .inl ⟨.inl (.inl hp5), fun bt nbt => ?_⟩⟩
    have sm6 := sm5.trans (same_upd (o := .tup (ys.map V.int)) nbt)
    have hbt : (upd H5 bt (.tup (ys.map V.int))) bt = some (.tup (ys.map V.int)) := upd_same
    generalize upd H5 bt (.tup (ys.map V.int)) = H6 at sm6 hbt ⊢
    have sD := sC.trans sm6
    have sD1 := sC1.trans sm6
    refine ⟨_, rfl, p, _, rfl, .inl (sD1.seq hS), _, rfl, by omega, b62 (by omega), fun p7 np7 => ?_⟩
    rw [Int.toNat_natCast]
    refine lc_range (lo := 0) (n := ws.length) (fun i H7 => ∃ (us : List V) (es : List Ent), es.length = i ∧ Same H6 H7 ∧ H7 p7 = some (.lst us) ∧ Ents H7 us es ∧ (∀ e ∈ es, e.1 ∈ ks) ∧ ∀ e ∈ es, e.2.natAbs ≤ rc) ⟨[], [], rfl, same_upd np7, upd_same, .nil, fun e he => (by cases he), fun e he => (by cases he)⟩ ?_ ?_
    · rintro i H7 hi ⟨us, es, hel, sm7, hp7, hU, hek, hen⟩
      obtain ⟨d, gd, gda, gdb⟩ := hin.get (i := i) (rep_get hi _)
      have hWs := hW.mono (sD1.trans sm7)
      obtain ⟨a, k, ea, hk, hak⟩ := hWs.get (List.getElem?_eq_getElem hi)
      have hix : atI ws ((0 : Int) + (i : Int)) = some (.ref a) := by
        rw [Int.zero_add, ← ea]
        exact atI_nat (List.getElem?_eq_getElem hi)
      have hid : atI (ds.map V.int) ((0 : Int) + (i : Int)) = some (.int d) := by
        rw [Int.zero_add]
        exact atI_nat gd
      refine ⟨rfl, tYes_of ?_⟩
      refine ⟨_, rfl, _, rfl, p, _, _, _, rfl, rfl, (sD1.trans sm7).seq hS, hix, _, rfl, _, rfl, p4, _, _, _, rfl, rfl, (sm6.trans sm7).seq L4, hid, _, rfl, _, _, rfl, rfl, (by show 2 ≤ sizeLine; decide), fun t nt => ?_⟩
      have smt : Same H7 (upd H7 t (.tup [.ref a, .int (d - (rc : Int))])) := same_upd nt
      have hv : EntAt (upd H7 t (.tup [.ref a, .int (d - (rc : Int))])) (.ref t) (k, d - (rc : Int)) := ⟨t, a, rfl, upd_same, smt _ _ hak⟩
      have hul := hU.len
      refine ⟨us, smt _ _ hp7, small1000 (by omega), us ++ [.ref t], es ++ [(k, d - (rc : Int))], by rw [List.length_append, hel]; rfl, same_mut (sm7.trans smt) np7, upd_same, ((hU.mono smt).app (.cons hv .nil)).updL (smt _ _ hp7), fun e he => ?_, fun e he => ?_⟩
      · rcases List.mem_append.mp he with he | he
        · exact hek e he
        · rw [List.mem_singleton.mp he]
          exact List.mem_of_getElem? hk
      · rcases List.mem_append.mp he with he | he
        · exact hen e he
        · rw [List.mem_singleton.mp he]
          show (d - (rc : Int)).natAbs ≤ rc
          omega
    rintro H7 ⟨us, es, hel, sm7, hp7, hU, hek, hen⟩
    have hel2 : es.length ≤ pr bs := by omega
    refine ⟨p7, us, es, rfl, ⟨.inl (.inl hp7), hU, small1000 (by omega)⟩, fun e he z => ?_, fun r p8 rws H8 hr sm8 np8 hp8 he8 => ?_⟩
    · have := hN.l e.1 (hek e he)
      rw [z] at this
      have h0 : (0 : Nat) = bs.length := this
      omega
    have hrl := hr.len
    have hrk : ∀ e ∈ r, e.1 ∈ ks := fun e he => by
      obtain ⟨x, hx, ex⟩ := hr.mem he
      rw [← ex]
      exact hek x hx
    have hrn := hr.bound hen
    have hle : ∀ e ∈ r, e.1.length ≤ ys.length := fun e he => by
      rw [hN.l _ (hrk e he), hyl]
      exact Nat.le_refl _
    refine ⟨_, rfl, p8, bt, rws, r, ys, rfl, ⟨.inl (.inl hp8), he8, small1000 (by omega)⟩, .inl (.inl ((sm7.trans sm8) _ _ hbt)), hle, by omega, fun p9 ws9 H9 sm9 np9 hp9 he9 => ?_⟩
    have sZ := sD.trans (sm7.trans sm8)
    refine q p9 ws9 (movL r ys) H9 (sZ.trans sm9) ?_ hp9 he9 ⟨movL_valid hr.v hle, ?_, fun e he => ?_, fun e he x hx => ?_, fun e he => ?_⟩ ⟨ys, hyl, fun e he => ?_⟩
    · cases z : H p9 with
      | none => rfl
      | some o =>
        rw [sZ _ _ z] at np9
        cases np9
    · unfold movL
      rw [List.length_map]
      omega
    · obtain ⟨y, hy, rfl⟩ := List.mem_map.mp he
      show (plusP y.1 ys).length = _
      rw [plusP_len (hle y hy)]
      exact hN.l _ (hrk y hy)
    · obtain ⟨y, hy, rfl⟩ := List.mem_map.mp he
      obtain ⟨a, ha, b2, hb2, rfl⟩ := plusP_mem hx
      have h1 := hN.c _ (hrk y hy) a ha
      have h2 := hyb b2 hb2
      omega
    · obtain ⟨y, hy, rfl⟩ := List.mem_map.mp he
      exact Nat.le_trans (hrn y hy) (Nat.mul_le_mul_right _ hel2)
    · obtain ⟨y, hy, rfl⟩ := List.mem_map.mp he
      exact (hN.b _ (hrk y hy)).mov (by rw [hN.l _ (hrk y hy), hyl]) (by rw [hyl]; exact Nat.le_refl _)
end
end OT

set_option Elab.async false
set_option linter.all false
set_option maxRecDepth 100000
set_option maxHeartbeats 2000000
namespace OT
open PySem PySem.Spec PyProof.Rows L2
def negP (k : Pl) : Pl := k.map fun x => -x
theorem negP_len (k : Pl) : (negP k).length = k.length := List.length_map _
def scaleL (es : List Ent) (f : Int) : List Ent := es.map fun e => (e.1, e.2 * f)
def mirL (es : List Ent) : List Ent := es.map fun e => (negP e.1, e.2)
section
variable {P : Program} {w : World} {K : PySem.W.Frag} {mg : Str → Option Value} {base : Heap}
def spBack (K : PySem.W.Frag) : Sp := fun vs H Q _ => ∃ (a : Addr) (ns : Pl), vs = [.ref a] ∧ SqT K H a (ns.map V.int) ∧ ns.length ≤ 1000 ∧ ∀ p H', Same H H' → H' p = some (.tup ((negP ns).map V.int)) → Q (.ref p) H'
theorem c__law_back {f : Addr} {fd : FuncData} (D : C8.Def K mg "_law_back" s__law_back f fd) (b : Binds K fd ["_law_place"] []) (T : Bi mg) : C8.Cal P w K mg base 1 "_law_back" (spBack K) [] := by
  refine C8.cal0 D b .nil sc__law_back (fun vs H Q E h => ?_) (fun cdv A outer s H vs Q E hr h => ?_)
  · obtain ⟨a, ns, rfl, _⟩ := h
    rfl
  · obtain ⟨a, ns, rfl, hS, hl, q⟩ := h
    refine ⟨_, (pss_one (ps_ret (pe_callTy call_tuple_of (by rfl) T.n_tuple OT.b_tuple (pa_cons (pe_lc (own := [("_law_x", 1)]) (g := (gName 1)) (tt := tYes) rfl sc__law_back.nd (pi_tup (pv 0)) (blkOk_by (N := ["_law_place", "_law_x"]) (sc := C8.fnScope s__law_back) (by decide +kernel)) (fun _ _ _ _ _ => (pg_name (i := 1) sc__law_back.nd rfl (Or.inl rfl))) (fun _ _ _ _ _ => pts_nil) (fun _ _ _ _ _ => (pe_un un_neg (pv 1)))) pa_nil)))), ?_⟩
    refine ⟨_, rfl, a, rfl, ⟨_, hS⟩, fun p np => ?_⟩
    refine lc_tup (K := K) (xs := ns.map V.int) (fun i H2 => Same H H2 ∧ H2 p = some (.lst ((ns.take i).map fun n => V.int (-n)))) ?_ ?_ ?_ ?_
    · exact ⟨same_upd np, upd_same⟩
    · rintro i H2 _ ⟨sm, _⟩
      exact same_t sm hS
    · rintro i x H2 hx ⟨sm, hp⟩
      obtain ⟨hi, rfl⟩ := getm hx
      refine ⟨rfl, tYes_of ?_⟩
      refine ⟨_, rfl, _, rfl, _, hp, ?_, same_mut sm np, ?_⟩
      · rw [List.length_map, List.length_take]
        exact small1000 (by omega)
      · rw [upd_same, take_map_succ (fun n => V.int (-n)) hi]
    · rintro H2 ⟨sm, hp⟩
      rw [List.length_map, List.take_length] at hp
      refine ⟨p, _, rfl, .inl ⟨.inl (.inl hp), fun l nl => ?_⟩⟩
      refine q l _ (sm.trans (same_upd nl)) ?_
      rw [upd_same]
      unfold negP
      rw [List.map_map]
      rfl
/-- a list of entries of places that are not empty -/
structure Lst (H : Hp) (a : Addr) (xs : List V) (es : List Ent) : Prop where
  l : H a = some (.lst xs)
  e : Ents H xs es
  z : es.length ≤ 1000
  p : ∀ e ∈ es, e.1 ≠ []
theorem Lst.mono {H H' : Hp} {a : Addr} {xs : List V} {es : List Ent} (s : Same H H') (h : Lst H a xs es) : Lst H' a xs es := ⟨s _ _ h.l, h.e.mono s, h.z, h.p⟩
theorem wantRow.mono {H H2 : Hp} {es : List Ent} {Q : VK} (sm : Same H H2) (q : wantRow H es Q) : wantRow H2 es Q := by
  intro r p ws H3 hr sm3 np hp he
  refine q r p ws H3 hr (sm.trans sm3) ?_ hp he
  cases z : H p with
  | none => rfl
  | some o =>
    rw [sm _ _ z] at np
    cases np
def spAdd : Sp := fun vs H Q _ => ∃ (a b : Addr) (xs ys : List V) (es fs : List Ent), vs = [.ref a, .ref b] ∧ Lst H a xs es ∧ Lst H b ys fs ∧ wantRow H (es ++ fs) Q
theorem c__law_add {f : Addr} {fd : FuncData} (D : C8.Def K mg "_law_add" s__law_add f fd) (b : Binds K fd ["_law_first", "_law_second"] []) (T : Bi mg) (c__law_row : C8.Cal P w K mg base 1 "_law_row" (spGather K) []) : C8.Cal P w K mg base 2 "_law_add" spAdd [] := by
  refine C8.cal0 D b .nil sc__law_add (fun vs H Q E h => ?_) (fun cdv A outer s H vs Q E hr h => ?_)
  · obtain ⟨a, b, xs, ys, es, fs, rfl, _⟩ := h
    rfl
  · obtain ⟨a, b, xs, ys, es, fs, rfl, hA, hB, q⟩ := h
    refine ⟨_, (pss_one (ps_ret (C8.pe_c c__law_row hr (by decide) (by rfl) (pa_cons (pe_op op_cat (pv 0) (pv 1)) pa_nil)))), ?_⟩
    have h1 := hA.e.len
    have h2 := hB.e.len
    have z1 := hA.z
    have z2 := hB.z
    refine ⟨_, rfl, _, rfl, a, b, _, _, rfl, rfl, hA.l, hB.l, Nat.le_of_lt (small100k (by omega)), fun p np => ?_⟩
    have s1 : Same H (upd H p (.lst (xs ++ ys))) := same_upd np
    refine ⟨p, xs ++ ys, es ++ fs, rfl, ⟨.inl (.inl upd_same), (hA.e.app hB.e).mono s1, by rw [List.length_append]; exact small100k (by omega)⟩, fun e he => ?_, q.mono s1⟩
    rcases List.mem_append.mp he with he | he
    · exact hA.p e he
    · exact hB.p e he
def spScaled : Sp := fun vs H Q _ => ∃ (a : Addr) (xs : List V) (es : List Ent) (m : Int), vs = [.ref a, .int m] ∧ Lst H a xs es ∧ (-(2 ^ 64) < m ∧ m < 2 ^ 64) ∧ wantRow H (scaleL es m) Q
theorem take_snoc {es : List Ent} {i : Nat} {e : Ent} (h : es[i]? = some e) : es.take (i + 1) = es.take i ++ [e] := by
  rw [List.take_add_one, h]
  rfl
theorem c__law_scaled {f : Addr} {fd : FuncData} (D : C8.Def K mg "_law_scaled" s__law_scaled f fd) (b : Binds K fd ["_law_row_here", "_law_factor"] []) (T : Bi mg) (c__law_row : C8.Cal P w K mg base 1 "_law_row" (spGather K) []) : C8.Cal P w K mg base 2 "_law_scaled" spScaled [] := by
  refine C8.cal0 D b .nil sc__law_scaled (fun vs H Q E h => ?_) (fun cdv A outer s H vs Q E hr h => ?_)
  · obtain ⟨a, xs, es, m, rfl, _⟩ := h
    rfl
  · obtain ⟨a, xs, es, m, rfl, hA, hm, q⟩ := h
    refine ⟨_, (pss_one (ps_ret (C8.pe_c c__law_row hr (by decide) (by rfl) (pa_cons (pe_lc (own := [("_law_entry", 2)]) (g := (gName 2)) (tt := tYes) rfl sc__law_scaled.nd (pi_list (pv 0)) (blkOk_by (N := ["_law_row_here", "_law_factor", "_law_entry"]) (sc := C8.fnScope s__law_scaled) (by decide +kernel)) (fun _ _ _ _ _ => (pg_name (i := 2) sc__law_scaled.nd rfl (Or.inl rfl))) (fun _ _ _ _ _ => pts_nil) (fun _ _ _ _ _ => (pe_tup (pa_cons (pe_ix (show IxR _ (rIxT K) from ix_tup) (pv 2) pe_int (fun _ _ => rfl)) (pa_cons (pe_op op_mul (pe_ix (show IxR _ (rIxT K) from ix_tup) (pv 2) pe_int (fun _ _ => rfl)) (pv 1)) pa_nil))))) pa_nil)))), ?_⟩
    have hS : SqL K H a xs := .inl (.inl hA.l)
    have hx := hA.e.len
    have hz := hA.z
    refine ⟨_, rfl, a, rfl, ⟨_, hS⟩, fun p np => ?_⟩
    refine lc_list (K := K) (xs := xs) (fun i H2 => Same H H2 ∧ ∃ ws, H2 p = some (.lst ws) ∧ Ents H2 ws (scaleL (es.take i) m)) ?_ ?_ ?_ ?_
    · exact ⟨same_upd np, [], upd_same, .nil⟩
    · rintro i H2 _ ⟨sm, _⟩
      exact sm.seq hS
    · rintro i x H2 hxi ⟨sm, ws, hp, hW⟩
      obtain ⟨e, he, t, pe, rfl, ht, hpe⟩ := (hA.e.mono sm).get hxi
      obtain ⟨hi, hee⟩ := List.getElem?_eq_some_iff.mp he
      have hT : SqT K H2 t [.ref pe, .int e.2] := .inl (.inl ht)
      refine ⟨rfl, tYes_of ?_⟩
      refine ⟨_, rfl, t, _, 0, _, rfl, rfl, hT, atI_nat (j := 0) rfl, _, rfl, t, _, 1, _, rfl, rfl, hT, atI_nat (j := 1) rfl, _, rfl, _, _, rfl, rfl, .inr hm, (by show 2 ≤ sizeLine; decide), fun t4 nt4 => ?_⟩
      have sm4 : Same H2 (upd H2 t4 (.tup [.ref pe, .int (e.2 * m)])) := same_upd nt4
      have hv : EntAt (upd H2 t4 (.tup [.ref pe, .int (e.2 * m)])) (.ref t4) (e.1, e.2 * m) := ⟨t4, pe, rfl, upd_same, sm4 _ _ hpe⟩
      have hD := sm4 _ _ hp
      have hwl := hW.len
      refine ⟨ws, hD, ?_, same_mut (sm.trans sm4) np, ws ++ [.ref t4], upd_same, ?_⟩
      · unfold scaleL at hwl
        rw [List.length_map, List.length_take] at hwl
        exact small100k (by omega)
      · unfold scaleL
        rw [take_snoc he, List.map_append]
        exact ((hW.mono sm4).app (.cons hv .nil)).updL hD
    · rintro H2 ⟨sm, ws, hp, hW⟩
      rw [hx, List.take_length] at hW
      refine ⟨p, ws, scaleL es m, rfl, ⟨.inl (.inl hp), hW, by unfold scaleL; rw [List.length_map]; exact small100k (by omega)⟩, fun e he => ?_, q.mono sm⟩
      obtain ⟨y, hy, rfl⟩ := List.mem_map.mp he
      exact hA.p y hy
end
end OT

set_option Elab.async false
set_option linter.all false
set_option maxRecDepth 100000
set_option maxHeartbeats 2000000
namespace OT
open PySem PySem.Spec PyProof.Rows L2
/-! mirrors and normal rows: the program's road and the law's lead to the same row -/
theorem RowIs.self {r : List Ent} (h : Valid r) : RowIs r r := ⟨h, fun _ => rfl⟩
theorem negP_lt : ∀ {a b : Pl}, a.length = b.length → HT.lexLt (negP b) (negP a) = HT.lexLt a b
  | [], [], _ => rfl
  | x :: a, y :: b, h => by
    show (if -y = -x then HT.lexLt (negP b) (negP a) else decide (-y < -x)) = if x = y then HT.lexLt a b else decide (x < y)
    rw [negP_lt (Nat.succ.inj h)]
    by_cases e : x = y
    · rw [if_pos e, if_pos (by rw [e])]
    · rw [if_neg e, if_neg (by omega)]
      by_cases c : x < y
      · rw [decide_eq_true c, decide_eq_true (by omega)]
      · rw [decide_eq_false c, decide_eq_false (by omega)]
theorem numAt_rev (es : List Ent) (q : Pl) : numAt es.reverse q = numAt es q := by
  induction es with
  | nil => rfl
  | cons e r ih =>
    rw [List.reverse_cons, numAt_app, ih]
    show numAt r q + ((if e.1 = q then e.2 else 0) + 0) = (if e.1 = q then e.2 else 0) + numAt r q
    omega
/-- the program's mirror -/
def mirP (es : List Ent) : List Ent := es.reverse.map fun e => (negP e.1, e.2)
theorem mirP_valid {es : List Ent} {n : Nat} (h : Valid es) (hn : ∀ e ∈ es, e.1.length = n) : Valid (mirP es) := by
  unfold mirP
  refine ⟨?_, fun e he => ?_⟩
  · rw [List.pairwise_map, List.pairwise_reverse]
    refine List.Pairwise.imp_of_mem (fun {x y} hx hy q => ?_) h.asc
    rw [negP_lt ((hn x hx).trans (hn y hy).symm)]
    exact q
  · obtain ⟨y, hy, rfl⟩ := List.mem_map.mp he
    exact h.nz y (List.mem_reverse.mp hy)
theorem mirP_is {es : List Ent} {n : Nat} (h : Valid es) (hn : ∀ e ∈ es, e.1.length = n) : RowIs (mirP es) (mirL es) := by
  refine ⟨mirP_valid h hn, fun q => ?_⟩
  have e : mirP es = (mirL es).reverse := by
    unfold mirP mirL
    rw [List.map_reverse]
  rw [e, numAt_rev]
/-- the dimension of a row -/
def dimE : List Ent → Nat
  | [] => 0
  | e :: _ => e.1.length
section
variable {P : Program} {w : World} {K : PySem.W.Frag} {mg : Str → Option Value} {base : Heap}
def spPLen (K : PySem.W.Frag) : Sp := fun vs H Q _ => ∃ (a : Addr) (xs : List V) (es : List Ent), vs = [.ref a] ∧ SqL K H a xs ∧ Ents H xs es ∧ Q (.int (dimE es : Nat)) H
theorem c_places_length {f : Addr} {fd : FuncData} (D : C8.Def K mg "places_length" s_places_length f fd) (b : Binds K fd ["row"] []) (T : Bi mg) : C8.Cal P w K mg base 1 "places_length" (spPLen K) [] := by
  refine C8.cal0 D b .nil sc_places_length (fun vs H Q E h => ?_) (fun cdv A outer s H vs Q E hr h => ?_)
  · obtain ⟨a, xs, es, rfl, _⟩ := h
    rfl
  · obtain ⟨a, xs, es, rfl, hS, hE, q⟩ := h
    refine ⟨_, (pss_one (ps_ret (pe_ifExp (pt_truth (pv 0) (by intro _; rfl)) (pe_callB call_len_seq (by rfl) T.n_len OT.b_len (pa_cons (pe_ix ix_tup (pe_ix ix_list (pv 0) pe_int (fun _ _ => rfl)) pe_int (fun _ _ => rfl)) pa_nil)) pe_int))), ?_⟩
    refine ⟨_, rfl, _, .inl ⟨xs, hS, rfl⟩, ?_⟩
    cases hE with
    | nil =>
      refine iteF ?_
      exact q
    | cons h1 h2 =>
      rename_i v e vs es
      obtain ⟨t, p, rfl, ht, hp⟩ := h1
      refine iteT ?_
      refine ⟨_, rfl, a, _, 0, _, rfl, rfl, hS, atI_nat (j := 0) rfl, t, _, 0, _, rfl, rfl, .inl (.inl ht), atI_nat (j := 0) rfl, p, _, rfl, .inr (.inl (.inl hp)), ?_⟩
      rw [List.length_map]
      exact q
end
end OT

set_option Elab.async false
set_option linter.all false
set_option maxRecDepth 100000
set_option maxHeartbeats 2000000
namespace OT
open PySem PySem.Spec PyProof.Rows L2
/-- some length is another than the first one -/
def mixL (ns : List Int) : Bool := (ns.map fun m => !decide (V.int m = V.int (ns.headD 0))).any id
def nz (n : Int) : Bool := decide (n ≠ 0)
section
variable {P : Program} {w : World} {K : PySem.W.Frag} {mg : Str → Option Value} {base : Heap}
/-! ### the errors' own __init__ -/
theorem ok_te {f : Addr} {fd : FuncData} (F : C8.Fun K "__init__" "TableError.__init__" s_TableError___init__ f fd) : FnOk P w K mg base L2.CX0 1 f fd ["self"] (spTE K) := by
  refine C8.fn0 F sc_TableError___init__ (fun vs H Q E h => ?_) (fun cdv A outer s H vs Q E hr h => ?_)
  · obtain ⟨a, C, nm, rfl, _⟩ := h
    rfl
  · obtain ⟨a, C, nm, rfl, ha, T, k⟩ := h
    refine ⟨_, pss_one (ps_ost (pv 0) (pe_otname (pv 0))), ?_⟩
    exact ⟨_, rfl, a, C, nm, rfl, ha, T.oc, T.on, _, rfl, a, C, rfl, T.ox, T.nw, Or.inl ⟨ha, fun d nd ne => k d nd ne⟩⟩
/-- what is known of an error of a class that tells an index -/
structure ErrI (K : PySem.W.Frag) (mg : Str → Option Value) (nm : Str) (C fI : Addr) : Prop where
  g : mg nm = some (.ref C)
  t : OtErr K C nm
  i : PySem.W.findIn K (.ref C) "__init__" = some (some (.ref fI))
  ty : PySem.W.typeIn K (.ref fI) = some (.type "function")
def errM : List (Str × V) := [("word", .str "MixedDimensions")]
def spSL (K : PySem.W.Frag) (M : Addr) : Sp := fun vs H Q E => ∃ (a : Addr) (ns : List Int), vs = [.ref a] ∧ SqL K H a (ns.map V.int) ∧ ns.length ≤ 100000 ∧
  (mixL (ns.filter nz) = true → ∀ d H', Same H H' → H' d = some (.xd errM) → E (.ref M) (some d) H') ∧ (mixL (ns.filter nz) = false → ∀ H', Same H H' → Q .non H')
theorem ok_same_lengths {f M fB : Addr} {fd fdB : FuncData} (D : C8.Def K mg "same_lengths" s_same_lengths f fd) (T : Bi mg) (X : ErrI K mg "MixedDimensions" M fB) (GB : FnOk P w K mg base L2.CX0 1 fB fdB ["self"] (spTE K)) (bB : Binds K fdB ["self"] []) :
    FnOk P w K mg base (L2.CX P w) 3 f fd ["lengths"] (spSL K M) := by
  obtain ⟨oc, od, dV, kV, doc, pm, an, cdv, ct, osl, rfl, lk, hcd⟩ := D.fn.ex
  refine fn_of lk hcd sc_same_lengths (fun vs H Q E h => ?_) fun A outer s H vs Q E hr h => ?_
  · obtain ⟨a, ns, rfl, _⟩ := h
    rfl
  · obtain ⟨a, ns, rfl, hS, hz, qE, qN⟩ := h
    refine ⟨_, (pss_cons (ps_set (i := 1) sc_same_lengths.nd rfl (Or.inr rfl) (pe_lc (own := [("length", 2)]) (g := (gName 2)) rfl sc_same_lengths.nd (pi_list (pv 0)) (blkOk_by (N := ["lengths", "known", "length"]) (sc := C8.fnScope s_same_lengths) (by decide +kernel)) (fun _ _ _ _ _ => (pg_name (i := 2) sc_same_lengths.nd rfl (Or.inl rfl))) (fun _ _ _ _ _ => (pts_one (pt_cmpR op_ne (pv 2) pe_int (nomark _)))) (fun _ _ _ _ _ => (pv 2))))
  (pss_one (ps_if (pt_val (pe_callB (cr_any rfl) (by rfl) T.n_any OT.b_any (pa_cons (pe_lc (own := [("length", 2)]) (g := (gName 2)) (tt := tYes) rfl sc_same_lengths.nd (pi_list (pv 1)) (blkOk_by (N := ["lengths", "known", "length"]) (sc := C8.fnScope s_same_lengths) (by decide +kernel)) (fun _ _ _ _ _ => (pg_name (i := 2) sc_same_lengths.nd rfl (Or.inl rfl))) (fun _ _ _ _ _ => pts_nil) (fun _ _ _ _ _ => (pe_cmpR op_ne (pv 2) (pe_ix (show IxR _ (rIxL K) from ix_list) (pv 1) pe_int (fun _ _ => rfl)) (nomark _)))) pa_nil))) (pss_one (ps_raise rfl (takes_of rfl rfl rfl rfl) (pmk_oex0 X.t.ox X.i X.ty GB hr bB pass0 (by rfl) X.g))) pss_nil))), ?_⟩
    refine ⟨_, rfl, a, rfl, ⟨_, hS⟩, fun p np => ?_⟩
    refine lc_list (K := K) (xs := ns.map V.int) (fun i H2 => Same H H2 ∧ H2 p = some (.lst (((ns.take i).filter nz).map V.int))) ?_ ?_ ?_ ?_
    · exact ⟨same_upd np, upd_same⟩
    · rintro i H2 _ ⟨sm, _⟩
      exact sm.seq hS
    · rintro i x H2 hx ⟨sm, hp⟩
      obtain ⟨hi, rfl⟩ := getm hx
      have htk : (ns.take (i + 1)).filter nz = (ns.take i).filter nz ++ (if nz ns[i] = true then [ns[i]] else []) := by
        rw [List.take_add_one, List.getElem?_eq_getElem hi, List.filter_append]
        show _ ++ (match nz ns[i] with | true => [ns[i]] | false => []) = _
        cases nz ns[i] <;> rfl
      refine ⟨rfl, _, rfl, rfl, _, rfl, iteND (fun hn => ?_) (fun h0 => ?_)⟩
      · have hnz : nz ns[i] = true := decide_eq_true fun z => hn (by rw [z])
        rw [htk, if_pos hnz]
        refine ⟨_, rfl, _, hp, ?_, same_mut sm np, ?_⟩
        · rw [List.length_map]
          have h1 := List.length_filter_le nz (ns.take i)
          rw [List.length_take] at h1
          exact Nat.lt_of_le_of_lt (show _ ≤ 100000 by omega) (by decide)
        · rw [upd_same, List.map_append]
          rfl
      · have hnz : ¬ nz ns[i] = true := fun z => of_decide_eq_true z (V.int.inj h0)
        rw [htk, if_neg hnz, List.append_nil]
        exact ⟨sm, hp⟩
    · rintro H2 ⟨sm, hp⟩
      rw [List.length_map, List.take_length] at hp
      have hz : (ns.filter nz).length ≤ 100000 := Nat.le_trans (List.length_filter_le _ _) hz
      generalize ns.filter nz = ns at hp hz qE qN
      have hP : SqL K H2 p (ns.map V.int) := .inl (.inl hp)
      refine ⟨_, rfl, p, rfl, ⟨_, hP⟩, fun p2 np2 => ?_⟩
      refine lc_list (K := K) (xs := ns.map V.int) (fun i H3 => Same H2 H3 ∧ H3 p2 = some (.lst ((ns.take i).map fun m => V.bl (!decide (V.int m = V.int (ns.headD 0)))))) ?_ ?_ ?_ ?_
      · exact ⟨same_upd np2, upd_same⟩
      · rintro i H3 _ ⟨sm3, _⟩
        exact sm3.seq hP
      · rintro i x H3 hx ⟨sm3, hp3⟩
        obtain ⟨hi, rfl⟩ := getm hx
        have h0 : (ns.map V.int)[0]? = some (.int (ns.headD 0)) := by
          cases ns with
          | nil => exact absurd hi (Nat.not_lt_zero _)
          | cons n r => rfl
        refine ⟨rfl, tYes_of ?_⟩
        refine ⟨_, rfl, _, rfl, p, _, 0, _, rfl, rfl, sm3.seq hP, atI_nat (j := 0) h0, rfl, _, hp3, ?_, same_mut sm3 np2, ?_⟩
        · rw [List.length_map, List.length_take]
          exact Nat.lt_of_le_of_lt (show min i ns.length ≤ 100000 by omega) (by decide)
        · rw [upd_same, take_map_succ (fun m => V.bl (!decide (V.int m = V.int (ns.headD 0)))) hi]
      · rintro H3 ⟨sm3, hp3⟩
        rw [List.length_map, List.take_length] at hp3
        have sA := sm.trans sm3
        refine ⟨p2, ns.map fun m => !decide (V.int m = V.int (ns.headD 0)), rfl, .inl (.inl ?_), _, rfl, ?_⟩
        · rw [hp3, List.map_map]
          rfl
        show if mixL ns = true then _ else _
        cases e : mixL ns with
        | true =>
          refine iteT ?_
          refine ⟨(by show 0 ≤ 1000; decide), fun a na => ⟨a, M, _, rfl, upd_same, X.t, fun d nd ne => ?_⟩⟩
          have nd3 : H3 d = none := by
            rw [upd_ne ne] at nd
            exact nd
          refine ⟨rfl, d, _, upd_same, ?_, nd3, qE e d _ ?_ upd_same⟩
          · rw [upd_ne ne, upd_same]
            rfl
          · intro b o hb
            have hb2 := sA b o hb
            have nba : b ≠ a := ne_of_none hb2 na
            have nbd : b ≠ d := ne_of_none hb2 nd3
            rw [upd_ne nbd, del_ne nba, upd_ne nba, upd_ne nbd, upd_ne nba]
            exact hb2
        | false =>
          refine iteF ?_
          exact qN e H3 sA
end
end OT

set_option Elab.async false
set_option linter.all false
set_option maxRecDepth 100000
set_option maxHeartbeats 2000000
namespace OT
open PySem PySem.Spec PyProof.Rows L2
/-- rows at addresses, in turn -/
inductive RowsAt (H : Hp) : List V → List (List Ent) → Prop
  | nil : RowsAt H [] []
  | cons {a : Addr} {xs : List V} {es : List Ent} {vs : List V} {ess : List (List Ent)} : H a = some (.lst xs) → Ents H xs es → RowsAt H vs ess → RowsAt H (.ref a :: vs) (es :: ess)
theorem RowsAt.len {H : Hp} {vs : List V} {ess : List (List Ent)} (h : RowsAt H vs ess) : vs.length = ess.length := by
  induction h with
  | nil => rfl
  | cons _ _ _ ih => rw [List.length_cons, List.length_cons, ih]
theorem RowsAt.mono {H H' : Hp} {vs : List V} {ess : List (List Ent)} (s : ∀ b o, H b = some o → H' b = some o) (h : RowsAt H vs ess) : RowsAt H' vs ess := by
  induction h with
  | nil => exact .nil
  | cons h1 h2 _ ih => exact .cons (s _ _ h1) (h2.mono s) ih
theorem RowsAt.get {H : Hp} {vs : List V} {ess : List (List Ent)} (h : RowsAt H vs ess) : ∀ {i : Nat} {v : V}, vs[i]? = some v → ∃ a xs es, v = .ref a ∧ ess[i]? = some es ∧ H a = some (.lst xs) ∧ Ents H xs es := by
  induction h with
  | nil => intro i v h; simp at h
  | cons h1 h2 _ ih =>
    intro i v hv
    cases i with
    | zero =>
      cases hv
      exact ⟨_, _, _, rfl, rfl, h1, h2⟩
    | succ i => exact ih (i := i) hv
def dims (ess : List (List Ent)) : List Int := ess.map fun es => ((dimE es : Nat) : Int)
def plens (ks : List Pl) : List Int := ks.map fun k => (k.length : Int)
theorem dims_snoc {ess : List (List Ent)} {i : Nat} {es : List Ent} (h : ess[i]? = some es) : (dims (ess.take (i + 1))).map V.int = (dims (ess.take i)).map V.int ++ [V.int ((dimE es : Nat) : Int)] := by
  rw [List.take_add_one, h]
  unfold dims
  rw [List.map_append, List.map_append]
  rfl
theorem plens_snoc {ks : List Pl} {i : Nat} {k : Pl} (h : ks[i]? = some k) : (plens (ks.take (i + 1))).map V.int = (plens (ks.take i)).map V.int ++ [V.int (k.length : Int)] := by
  rw [List.take_add_one, h]
  unfold plens
  rw [List.map_append, List.map_append]
  rfl
section
variable {P : Program} {w : World} {K : PySem.W.Frag} {mg : Str → Option Value} {base : Heap}
def spSD (K : PySem.W.Frag) (M : Addr) : Sp := fun vs H Q E => ∃ (a b : Addr) (us ws : List V) (ess : List (List Ent)) (ks : List Pl), vs = [.ref a, .ref b] ∧ SqL K H a us ∧ RowsAt H us ess ∧ SqL K H b ws ∧ Pls H ws ks ∧ ess.length ≤ 1000 ∧ ks.length ≤ 1000 ∧
  (mixL ((dims ess ++ plens ks).filter nz) = true → ∀ d H', Same H H' → H' d = some (.xd errM) → E (.ref M) (some d) H') ∧ (mixL ((dims ess ++ plens ks).filter nz) = false → ∀ H', Same H H' → Q .non H')
theorem ok_same_dimension {f M fS : Addr} {fd fdS : FuncData} (D : C8.Def K mg "same_dimension" s_same_dimension f fd) (T : Bi mg) (DS : C8.Def K mg "same_lengths" s_same_lengths fS fdS) (bS : Binds K fdS ["lengths"] []) (GS : FnOk P w K mg base (L2.CX P w) 3 fS fdS ["lengths"] (spSL K M))
    (c_places_length : C8.Cal P w K mg base 1 "places_length" (spPLen K) []) : FnOk P w K mg base (L2.CX P w) 4 f fd ["rows", "places"] (spSD K M) := by
  obtain ⟨oc, od, dV, kV, doc, pm, an, cdv, ct, osl, rfl, lk, hcd⟩ := D.fn.ex
  refine fn_of lk hcd sc_same_dimension (fun vs H Q E h => ?_) fun A outer s H vs Q E hr h => ?_
  · obtain ⟨a, b, us, ws, ess, ks, rfl, _⟩ := h
    rfl
  · obtain ⟨a, b, us, ws, ess, ks, rfl, ha, hR, hb, hP, z1, z2, qE, qN⟩ := h
    refine ⟨_, (pss_one (ps_expr (pe_callS GS hr rfl DS.mgf DS.kp bS (fun σ => passAt (takes_of rfl rfl rfl rfl) σ) (pa_cons (pe_op op_cat (pe_lc (own := [("row", 2)]) (g := (gName 2)) (tt := tYes) rfl sc_same_dimension.nd (pi_list (pv 0)) (blkOk_by (N := ["rows", "places", "row", "place"]) (sc := C8.fnScope s_same_dimension) (by decide +kernel)) (fun _ _ _ _ _ => (pg_name (i := 2) sc_same_dimension.nd rfl (Or.inl rfl))) (fun _ _ _ _ _ => pts_nil) (fun _ _ _ _ _ => (C8.pe_c c_places_length hr (by decide) (by rfl) (pa_cons (pv 2) pa_nil)))) (pe_lc (own := [("place", 3)]) (g := (gName 3)) (tt := tYes) rfl sc_same_dimension.nd (pi_list (pv 1)) (blkOk_by (N := ["rows", "places", "row", "place"]) (sc := C8.fnScope s_same_dimension) (by decide +kernel)) (fun _ _ _ _ _ => (pg_name (i := 3) sc_same_dimension.nd rfl (Or.inl rfl))) (fun _ _ _ _ _ => pts_nil) (fun _ _ _ _ _ => (pe_callB (show CallR _ _ (Evl.rLenS K) from call_len_seq) (by rfl) T.n_len OT.b_len (pa_cons (pv 3) pa_nil))))) pa_nil)))), ?_⟩
    have l1 := hR.len
    have l2 := hP.len
    refine ⟨_, rfl, a, rfl, ⟨_, ha⟩, fun p np => ?_⟩
    refine lc_list (K := K) (xs := us) (fun i H2 => Same H H2 ∧ H2 p = some (.lst ((dims (ess.take i)).map V.int))) ?_ ?_ ?_ ?_
    · exact ⟨same_upd np, upd_same⟩
    · rintro i H2 _ ⟨sm, _⟩
      exact sm.seq ha
    · rintro i x H2 hx ⟨sm, hp⟩
      obtain ⟨a1, xs, es, rfl, he, h1, h2⟩ := (hR.mono sm).get hx
      have hi := (List.getElem?_eq_some_iff.mp he).1
      refine ⟨rfl, tYes_of ?_⟩
      refine ⟨_, rfl, a1, xs, es, rfl, .inl (.inl h1), h2, _, hp, ?_, same_mut sm np, ?_⟩
      · unfold dims
        rw [List.length_map, List.length_map, List.length_take]
        exact small1000 (by omega)
      · rw [upd_same, dims_snoc he]
    · rintro H2 ⟨sm2, hp⟩
      rw [l1, List.take_length] at hp
      refine ⟨_, rfl, b, rfl, ⟨_, sm2.seq hb⟩, fun p3 np3 => ?_⟩
      refine lc_list (K := K) (xs := ws) (fun i H3 => Same H2 H3 ∧ H3 p3 = some (.lst ((plens (ks.take i)).map V.int))) ?_ ?_ ?_ ?_
      · exact ⟨same_upd np3, upd_same⟩
      · rintro i H3 _ ⟨sm, _⟩
        exact (sm2.trans sm).seq hb
      · rintro i x H3 hx ⟨sm, hp3⟩
        obtain ⟨q3, k, rfl, hk, hq3⟩ := (hP.mono (sm2.trans sm)).get hx
        have hi := (List.getElem?_eq_some_iff.mp hk).1
        refine ⟨rfl, tYes_of ?_⟩
        refine ⟨_, rfl, q3, _, rfl, .inr (.inl (.inl hq3)), _, hp3, ?_, same_mut sm np3, ?_⟩
        · unfold plens
          rw [List.length_map, List.length_map, List.length_take]
          exact small1000 (by omega)
        · rw [upd_same, plens_snoc hk, List.length_map]
      · rintro H3 ⟨sm3, hp3⟩
        rw [l2, List.take_length] at hp3
        have sA := sm2.trans sm3
        have d1 : (dims ess).length = ess.length := List.length_map _
        have d2 : (plens ks).length = ks.length := List.length_map _
        refine ⟨p, p3, _, _, rfl, rfl, sm3 _ _ hp, hp3, ?_, fun p4 np4 => ?_⟩
        · rw [List.length_map, List.length_map, d1, d2]
          exact Nat.le_of_lt (small100k (by omega))
        have s4 : Same H3 (upd H3 p4 (.lst ((dims ess).map V.int ++ (plens ks).map V.int))) := same_upd np4
        have sB := sA.trans s4
        refine ⟨p4, dims ess ++ plens ks, rfl, .inl (.inl ?_), ?_, fun hm d H5 sm5 hd => qE hm d H5 (sB.trans sm5) hd, fun hm H5 sm5 => qN hm H5 (sB.trans sm5)⟩
        · rw [upd_same, List.map_append]
        · rw [List.length_append, d1, d2]
          omega
end
end OT

set_option Elab.async false
set_option linter.all false
set_option maxRecDepth 100000
set_option maxHeartbeats 2000000
namespace OT
open PySem PySem.Spec PyProof.Rows L2
/-- the products of all pairs of entries -/
def rowT (e : Ent) (fs : List Ent) : List Ent := fs.map fun g => (plusP e.1 g.1, e.2 * g.2)
def timesL (es fs : List Ent) : List Ent := es.flatMap fun e => rowT e fs
theorem timesL_snoc (es fs : List Ent) (e : Ent) : timesL (es ++ [e]) fs = timesL es fs ++ rowT e fs := by
  unfold timesL
  rw [List.flatMap_append]
  simp
theorem dimE_eq {es : List Ent} {n : Nat} (h : ∀ e ∈ es, e.1.length = n) (hp : es ≠ []) : dimE es = n := by
  cases es with
  | nil => exact absurd rfl hp
  | cons e r => exact h e List.mem_cons_self
theorem put_klen {ks : List Pl} {e : Pl} {i : Nat} (h : ks.length ≤ i) : (if e ∈ ks then ks else ks ++ [e]).length ≤ i + 1 := by
  by_cases m : e ∈ ks
  · rw [if_pos m]
    omega
  · rw [if_neg m, List.length_append, List.length_singleton]
    omega
section
variable {P : Program} {w : World} {K : PySem.W.Frag} {mg : Str → Option Value} {base : Heap}
def spSDT (K : PySem.W.Frag) (M : Addr) : Sp := fun vs H Q E => ∃ (a b : Addr) (us : List V) (ess : List (List Ent)), vs = [.ref a, .ref b] ∧ SqL K H a us ∧ RowsAt H us ess ∧ SqT K H b [] ∧ ess.length ≤ 1000 ∧
  (mixL ((dims ess).filter nz) = true → ∀ d H', Same H H' → H' d = some (.xd errM) → E (.ref M) (some d) H') ∧ (mixL ((dims ess).filter nz) = false → ∀ H', Same H H' → Q .non H')
theorem ok_same_dimensionT {f M fS : Addr} {fd fdS : FuncData} (D : C8.Def K mg "same_dimension" s_same_dimension f fd) (T : Bi mg) (DS : C8.Def K mg "same_lengths" s_same_lengths fS fdS) (bS : Binds K fdS ["lengths"] []) (GS : FnOk P w K mg base (L2.CX P w) 3 fS fdS ["lengths"] (spSL K M))
    (c_places_length : C8.Cal P w K mg base 1 "places_length" (spPLen K) []) : FnOk P w K mg base (L2.CX P w) 4 f fd ["rows", "places"] (spSDT K M) := by
  obtain ⟨oc, od, dV, kV, doc, pm, an, cdv, ct, osl, rfl, lk, hcd⟩ := D.fn.ex
  refine fn_of lk hcd sc_same_dimension (fun vs H Q E h => ?_) fun A outer s H vs Q E hr h => ?_
  · obtain ⟨a, b, us, ess, rfl, _⟩ := h
    rfl
  · obtain ⟨a, b, us, ess, rfl, ha, hR, hb, z1, qE, qN⟩ := h
    refine ⟨_, (pss_one (ps_expr (pe_callS GS hr rfl DS.mgf DS.kp bS (fun σ => passAt (takes_of rfl rfl rfl rfl) σ) (pa_cons (pe_op op_cat (pe_lc (own := [("row", 2)]) (g := (gName 2)) (tt := tYes) rfl sc_same_dimension.nd (pi_list (pv 0)) (blkOk_by (N := ["rows", "places", "row", "place"]) (sc := C8.fnScope s_same_dimension) (by decide +kernel)) (fun _ _ _ _ _ => (pg_name (i := 2) sc_same_dimension.nd rfl (Or.inl rfl))) (fun _ _ _ _ _ => pts_nil) (fun _ _ _ _ _ => (C8.pe_c c_places_length hr (by decide) (by rfl) (pa_cons (pv 2) pa_nil)))) (pe_lc (own := [("place", 3)]) (g := (gName 3)) (tt := tYes) rfl sc_same_dimension.nd (pi_tup (pv 1)) (blkOk_by (N := ["rows", "places", "row", "place"]) (sc := C8.fnScope s_same_dimension) (by decide +kernel)) (fun _ _ _ _ _ => (pg_name (i := 3) sc_same_dimension.nd rfl (Or.inl rfl))) (fun _ _ _ _ _ => pts_nil) (fun _ _ _ _ _ => (pe_callB (show CallR _ _ (Evl.rLenS K) from call_len_seq) (by rfl) T.n_len OT.b_len (pa_cons (pv 3) pa_nil))))) pa_nil)))), ?_⟩
    have l1 := hR.len
    refine ⟨_, rfl, a, rfl, ⟨_, ha⟩, fun p np => ?_⟩
    refine lc_list (K := K) (xs := us) (fun i H2 => Same H H2 ∧ H2 p = some (.lst ((dims (ess.take i)).map V.int))) ?_ ?_ ?_ ?_
    · exact ⟨same_upd np, upd_same⟩
    · rintro i H2 _ ⟨sm, _⟩
      exact sm.seq ha
    · rintro i x H2 hx ⟨sm, hp⟩
      obtain ⟨a1, xs, es, rfl, he, h1, h2⟩ := (hR.mono sm).get hx
      have hi := (List.getElem?_eq_some_iff.mp he).1
      refine ⟨rfl, tYes_of ?_⟩
      refine ⟨_, rfl, a1, xs, es, rfl, .inl (.inl h1), h2, _, hp, ?_, same_mut sm np, ?_⟩
      · unfold dims
        rw [List.length_map, List.length_map, List.length_take]
        exact small1000 (by omega)
      · rw [upd_same, dims_snoc he]
    · rintro H2 ⟨sm2, hp⟩
      rw [l1, List.take_length] at hp
      refine ⟨_, rfl, b, rfl, ⟨_, same_t sm2 hb⟩, fun p3 np3 => ?_⟩
      refine lc_tup (K := K) (xs := []) (fun i H3 => Same H2 H3 ∧ H3 p3 = some (.lst [])) ?_ ?_ ?_ ?_
      · exact ⟨same_upd np3, upd_same⟩
      · rintro i H3 _ ⟨sm, _⟩
        exact same_t (sm2.trans sm) hb
      · rintro i x H3 hx ⟨sm, hp3⟩
        cases hx
      · rintro H3 ⟨sm3, hp3⟩
        have sA := sm2.trans sm3
        have d1 : (dims ess).length = ess.length := List.length_map _
        refine ⟨p, p3, _, _, rfl, rfl, sm3 _ _ hp, hp3, ?_, fun p4 np4 => ?_⟩
        · rw [List.length_map, d1]
          exact Nat.le_of_lt (small100k (by show ess.length + 0 ≤ 100000; omega))
        have s4 : Same H3 (upd H3 p4 (.lst ((dims ess).map V.int ++ []))) := same_upd np4
        have sB := sA.trans s4
        refine ⟨p4, dims ess, rfl, .inl (.inl ?_), ?_, fun hm d H5 sm5 hd => qE hm d H5 (sB.trans sm5) hd, fun hm H5 sm5 => qN hm H5 (sB.trans sm5)⟩
        · rw [upd_same, List.append_nil]
        · rw [d1]
          omega
end
end OT

set_option Elab.async false
set_option linter.all false
set_option maxRecDepth 100000
set_option maxHeartbeats 2000000
namespace OT
open PySem PySem.Spec PyProof.Rows L2
/-- two rows of different dimensions other than 0 -/
def mixB (es fs : List Ent) : Bool := decide (dimE es ≠ 0 ∧ dimE fs ≠ 0 ∧ dimE es ≠ dimE fs)
theorem mixD (es fs : List Ent) : mixL ((dims [es, fs]).filter nz) = mixB es fs := by
  show mixL ([((dimE es : Nat) : Int), ((dimE fs : Nat) : Int)].filter nz) = mixB es fs
  unfold mixB
  generalize dimE es = x
  generalize dimE fs = y
  have nzT : ∀ {z : Nat}, z ≠ 0 → nz (z : Int) = true := fun h => decide_eq_true (by omega)
  have nzF : ∀ {z : Nat}, z = 0 → nz (z : Int) = false := fun h => decide_eq_false (by omega)
  by_cases hx : x = 0
  · rw [List.filter_cons, if_neg (by rw [nzF hx]; decide), decide_eq_false (fun h => h.1 hx)]
    by_cases hy : y = 0
    · rw [List.filter_cons, if_neg (by rw [nzF hy]; decide)]
      rfl
    · rw [List.filter_cons, if_pos (nzT hy)]
      simp [mixL]
  · rw [List.filter_cons, if_pos (nzT hx)]
    by_cases hy : y = 0
    · rw [List.filter_cons, if_neg (by rw [nzF hy]; decide), decide_eq_false (fun h => h.2.1 hy)]
      simp [mixL]
    · rw [List.filter_cons, if_pos (nzT hy)]
      by_cases h : x = y
      · subst h
        rw [decide_eq_false (fun h => h.2.2 rfl)]
        simp [mixL]
      · rw [decide_eq_true ⟨hx, hy, h⟩]
        have : ¬ ((y : Int) = (x : Int)) := fun z => h (by omega)
        simp [mixL, this]
theorem mixB_same {es fs : List Ent} {n m : Nat} (h : es ≠ [] → fs ≠ [] → n = m) (he : ∀ e ∈ es, e.1.length = n) (hf : ∀ e ∈ fs, e.1.length = m) : mixB es fs = false := by
  refine decide_eq_false fun z => ?_
  obtain ⟨z1, z2, z3⟩ := z
  have h1 : es ≠ [] := fun y => z1 (by rw [y]; rfl)
  have h2 : fs ≠ [] := fun y => z2 (by rw [y]; rfl)
  exact z3 (by rw [dimE_eq he h1, dimE_eq hf h2, h h1 h2])
theorem timesL_mem {es fs : List Ent} {x : Ent} (h : x ∈ timesL es fs) : ∃ e ∈ es, ∃ g ∈ fs, x = (plusP e.1 g.1, e.2 * g.2) := by
  unfold timesL rowT at h
  obtain ⟨e, he, h⟩ := List.mem_flatMap.mp h
  obtain ⟨g, hg, rfl⟩ := List.mem_map.mp h
  exact ⟨e, he, g, hg, rfl⟩
theorem timesL_len : ∀ (es fs : List Ent), (timesL es fs).length = es.length * fs.length
  | [], fs => by rw [List.length_nil, Nat.zero_mul]; rfl
  | e :: r, fs => by
    have ih := timesL_len r fs
    show (rowT e fs ++ timesL r fs).length = _
    rw [List.length_append, ih, show (rowT e fs).length = fs.length from List.length_map _, List.length_cons, Nat.succ_mul]
    omega
section
variable {P : Program} {w : World} {K : PySem.W.Frag} {mg : Str → Option Value} {base : Heap}
/-- the same, of the law -/
def spTimes (K : PySem.W.Frag) : Sp := fun vs H Q _ => ∃ (a b : Addr) (xs ys : List V) (es fs : List Ent), vs = [.ref a, .ref b] ∧ SqL K H a xs ∧ SqL K H b ys ∧ Ents H xs es ∧ Ents H ys fs ∧ es.length * fs.length ≤ 10000 ∧ (∀ e ∈ es, ∀ g ∈ fs, e.1.length = g.1.length) ∧ (∀ e ∈ es, e.1 ≠ [] ∧ e.1.length ≤ 1000) ∧ (∀ g ∈ fs, -(2 ^ 64) < g.2 ∧ g.2 < 2 ^ 64) ∧ wantRow H (timesL es fs) Q
theorem c__law_times {f : Addr} {fd : FuncData} (D : C8.Def K mg "_law_times" s__law_times f fd) (b : Binds K fd ["_law_first", "_law_second"] []) (T : Bi mg) (c__law_plus : C8.Cal P w K mg base 1 "_law_plus" (spPlus K) []) (c__law_row : C8.Cal P w K mg base 1 "_law_row" (spGather K) []) : C8.Cal P w K mg base 2 "_law_times" (spTimes K) [] := by
  refine C8.cal0 D b .nil sc__law_times (fun vs H Q E h => ?_) (fun cdv A outer s H vs Q E hr h => ?_)
  · obtain ⟨a, b, xs, ys, es, fs, rfl, _⟩ := h
    rfl
  · obtain ⟨a, b, xs, ys, es, fs, rfl, hS, hT, hE, hF, hz, hl, hne, hnum, q⟩ := h
    refine ⟨_, (pss_cons (ps_set (i := 2) sc__law_times.nd rfl (Or.inl rfl) (pe_lst pa_nil))
  (pss_cons (ps_for PassesOwn.never rfl (pi_list (pv 0)) (pg_tup rfl (pgs_cons (pg_name (i := 3) sc__law_times.nd rfl (Or.inl rfl)) (pgs_cons (pg_name (i := 4) sc__law_times.nd rfl (Or.inl rfl)) pgs_nil))) (pss_one (ps_for PassesOwn.never rfl (pi_list (pv 1)) (pg_tup rfl (pgs_cons (pg_name (i := 5) sc__law_times.nd rfl (Or.inl rfl)) (pgs_cons (pg_name (i := 6) sc__law_times.nd rfl (Or.inl rfl)) pgs_nil))) (pss_one (ps_expr (pe_bm PySem.F.plainAttrs_list PySem.F.slot_list_append PySem.F.type_list_append mt_append (pv 2) (pa_cons (pe_tup (pa_cons (C8.pe_c c__law_plus hr (by decide) (by rfl) (pa_cons (pv 3) (pa_cons (pv 5) pa_nil))) (pa_cons (pe_op op_mul (pv 4) (pv 6)) pa_nil))) pa_nil)))))))
  (pss_one (ps_ret (C8.pe_c c__law_row hr (by decide) (by rfl) (pa_cons (pv 2) pa_nil)))))), ?_⟩
    refine ⟨by decide, fun p np => ?_⟩
    have s1 : Same H (upd H p (.lst [])) := same_upd np
    refine ⟨_, rfl, a, rfl, ⟨_, s1.seq hS⟩, ?_⟩
    refine for_list (K := K) (xs := xs) (fun i σ H2 => ∃ (ws : List V) (y3 y4 y5 y6 : Option V), σ = [some (.ref a), some (.ref b), some (.ref p), y3, y4, y5, y6] ∧ Same H H2 ∧ H2 p = some (.lst ws) ∧ Ents H2 ws (timesL (es.take i) fs)) ⟨[], none, none, none, none, rfl, s1, upd_same, .nil⟩ ?_ ?_ ?_
    · rintro i σ H2 _ ⟨_, _, _, _, _, _, sm, _⟩
      exact sm.seq hS
    · rintro i x σ H2 hx ⟨ws, y3, y4, y5, y6, rfl, sm, hp, hW⟩
      obtain ⟨e, hee, t, pe, rfl, ht, hpe⟩ := hE.get hx
      have hi := (List.getElem?_eq_some_iff.mp hee).1
      have hem : e ∈ es := List.mem_of_getElem? hee
      refine ⟨t, _, rfl, .inl (.inl (sm _ _ ht)), rfl, _, _, rfl, _, _, rfl, rfl, ?_⟩
      refine ⟨_, rfl, b, rfl, ⟨_, sm.seq hT⟩, ?_⟩
      refine for_list (K := K) (xs := ys) (fun j σ H3 => ∃ (ws : List V) (y5 y6 : Option V), σ = [some (.ref a), some (.ref b), some (.ref p), some (.ref pe), some (.int e.2), y5, y6] ∧ Same H H3 ∧ H3 p = some (.lst ws) ∧ Ents H3 ws (timesL (es.take i) fs ++ rowT e (fs.take j))) ?_ ?_ ?_ ?_
      · refine ⟨ws, y5, y6, rfl, sm, hp, ?_⟩
        rw [show rowT e (fs.take 0) = [] from rfl, List.append_nil]
        exact hW
      · rintro j σ H3 _ ⟨_, _, _, _, sm, _⟩
        exact sm.seq hT
      · rintro j x σ H3 hx ⟨ws, y5, y6, rfl, sm, hp, hW⟩
        obtain ⟨z, hzz, t2, pz, rfl, ht2, hpz⟩ := hF.get hx
        have hj := (List.getElem?_eq_some_iff.mp hzz).1
        have hzm : z ∈ fs := List.mem_of_getElem? hzz
        refine ⟨t2, _, rfl, .inl (.inl (sm _ _ ht2)), rfl, _, _, rfl, _, _, rfl, rfl, ?_⟩
        have hle := hl e hem z hzm
        refine ⟨_, rfl, .inl ⟨rfl, _, .inl (.inl hp)⟩, _, rfl, _, rfl, pe, pz, e.1, z.1, rfl, .inl (.inl (sm _ _ hpe)), .inl (.inl (sm _ _ hpz)), Nat.le_of_eq hle, (hne e hem).2, fun p4 H4 s4 hp4 => ?_⟩
        refine ⟨_, rfl, _, rfl, _, _, rfl, rfl, .inr (hnum z hzm), (by show 2 ≤ sizeLine; decide), fun t5 nt5 => ?_⟩
        have s5 : Same H4 (upd H4 t5 (.tup [.ref p4, .int (e.2 * z.2)])) := same_upd nt5
        have s45 := s4.trans s5
        have hD := s45 _ _ hp
        have hwl := hW.len
        refine ⟨p, ws, _, rfl, rfl, hD, ?_, ?_⟩
        · rw [hwl, List.length_append, timesL_len, List.length_take, show (rowT e (fs.take j)).length = (fs.take j).length from List.length_map _, List.length_take, Nat.min_eq_left (Nat.le_of_lt hi), Nat.min_eq_left (Nat.le_of_lt hj)]
          have h1 : i * fs.length + fs.length ≤ es.length * fs.length := by
            rw [← Nat.succ_mul]
            exact Nat.mul_le_mul_right _ hi
          exact small100k (by omega)
        · refine ⟨ws ++ [.ref t5], _, _, rfl, same_mut (sm.trans s45) np, upd_same, ?_⟩
          have e1 : timesL (es.take i) fs ++ rowT e (fs.take (j + 1)) = (timesL (es.take i) fs ++ rowT e (fs.take j)) ++ [(plusP e.1 z.1, e.2 * z.2)] := by
            rw [take_snoc hzz]
            unfold rowT
            rw [List.map_append, List.append_assoc]
            rfl
          rw [e1]
          exact ((hW.mono s45).updL hD).app (.cons (EntAt.updL hD ⟨t5, p4, rfl, upd_same, s5 _ _ hp4⟩) .nil)
      · rintro σ H3 ⟨ws, y5, y6, rfl, sm, hp, hW⟩
        rw [hF.len, List.take_length] at hW
        refine ⟨ws, _, _, y5, y6, rfl, sm, hp, ?_⟩
        rw [take_snoc hee, timesL_snoc]
        exact hW
    · rintro σ H2 ⟨ws, y3, y4, y5, y6, rfl, sm, hp, hW⟩
      rw [hE.len, List.take_length] at hW
      refine ⟨_, rfl, p, ws, timesL es fs, rfl, ⟨.inl (.inl hp), hW, ?_⟩, fun x hx => ?_, wantRow.mono sm q⟩
      · rw [timesL_len]
        exact small100k (by omega)
      · obtain ⟨e, he, g, hg, rfl⟩ := timesL_mem hx
        intro h0
        have h1 := plusP_len (Nat.le_of_eq (hl e he g hg))
        have h2 : (plusP e.1 g.1).length = 0 := by
          show (plusP e.1 g.1).length = 0
          rw [show plusP e.1 g.1 = [] from h0]
          rfl
        exact (hne e he).1 (List.length_eq_zero_iff.mp (by omega))
end
end OT

set_option Elab.async false
set_option linter.all false
set_option maxRecDepth 100000
set_option maxHeartbeats 2000000
/-! zip(*xs) of any number of tuples of one length; the target a name -/
namespace OZ
open PySem
open PySem.Sem (wp)
theorem tc (args : List Value) : checkTypeCall "zip" ⟨args, []⟩ = pure () := by kernel_rfl
theorem nc (a : Value) (args : List Value) : checkBuiltinCall "zip.__new__" ⟨.type "zip" :: a :: args, []⟩ = pure () := by kernel_rfl
theorem oi (args : List Value) : argsOk "object.__init__" ⟨args, []⟩ := by
  unfold argsOk; rw [signature?_of (id := "object.__init__") (n := ['_', '_', 't', 'i', 'n', 'i', '_', '_']) (o := ['t', 'c', 'e', 'j', 'b', 'o']) (by kernel_rfl) F.owner_object]; kernel_rfl
abbrev IsZipF (h : Heap) (z TI TO : Addr) (f0 f1 : Value) : Prop :=
  h.get? z = some { cls := .type "zip", dict := none, data := .fields #[f0, f1, .bool false, .ref TI, .ref TO], slots := #[] }
abbrev IsTup (h : Heap) (T : Addr) (vs : List Value) : Prop := h.get? T = some { cls := .type "tuple", data := .seq vs.toArray }
structure ZAp (z TI TO : Addr) (its as : List Addr) : Prop where
  TIz : TI ≠ z
  TOz : TO ≠ z
  TITO : TI ≠ TO
  zi : z ∉ its
  TIi : TI ∉ its
  TOi : TO ∉ its
  nd : its.Nodup
  za : z ∉ as
  TOa : TO ∉ as
  ia : ∀ t ∈ its, t ∉ as
  len : its.length = as.length
section
variable {prog : Program} {w : World} {A : Around} {E : Value → Shared → Prop} {s : Shared}
theorem wp_forIn {M : Model} {α β : Type} {l : List α} {f : α → β → Sem (ForInStep β)} {Q : β → Shared → Prop} (I : Nat → β → Shared → Prop)
    (step : ∀ i x b s, l[i]? = some x → I i b s → wpAny M A (f x b) (fun r s' => ∃ b', r = .yield b' ∧ I (i + 1) b' s') E s)
    (hend : ∀ b s, I l.length b s → Q b s) {b : β} (h0 : I 0 b s) : wpAny M A (forIn l b f) Q E s := by
  have key : ∀ n i b s, n + i = l.length → I i b s → wpAny M A (forIn (l.drop i) b f) Q E s := by
    intro n
    induction n with
    | zero =>
      intro i b s hn hI
      rw [List.drop_eq_nil_of_le (by omega)]
      have : i = l.length := by omega
      subst this
      rw [List.forIn_nil]
      exact wpAny_pure (hend b s hI)
    | succ n ih =>
      intro i b s hn hI
      have hi : i < l.length := by omega
      rw [List.drop_eq_getElem_cons hi, List.forIn_cons]
      refine wpAny_bind (wpAny_mono (step i _ b s (List.getElem?_eq_getElem hi) hI) (fun r s' h => ?_) fun _ _ x => x)
      obtain ⟨b', rfl, h⟩ := h
      exact ih (i + 1) b' s' (by omega) h
  have := key l.length 0 b s (by omega) h0
  rwa [List.drop_zero] at this
/-- what all objects but the zip's own keep -/
abbrev Kp (z TO : Addr) (its : List Addr) (h h' : Heap) : Prop := ∀ c o, c ≠ z → c ≠ TO → c ∉ its → h.get? c = some o → h'.get? c = some o
structure Lp (h0 : Heap) (z TI TO : Addr) (its as : List Addr) (ys : List Value) (i : Nat) (f1 : Value) (j : Nat) (h : Heap) (us : List Value) : Prop where
  zz : IsZipF h z TI TO .ellipsis f1
  tt : IsTup h TO us
  len : us.length = its.length
  y : ∀ m < j, us[m]? = ys[m]?
  it : ∀ (m : Nat) (t a : Addr), its[m]? = some t → as[m]? = some a → h.IsTupleIter t a (if m < j then i + 1 else i)
  sz : h.objs.size = h0.objs.size
  k : Kp z TO its h0 h
theorem next_free {z TI TO : Addr} {its as : List Addr} {i : Nat} {f1 : Value} {vs ys : List Value} {Q : Value → Shared → Prop} (D : ZAp z TI TO its as) (hk : its ≠ []) (hz8 : its.length ≤ 100000)
    (free : ∀ R : Bool → Shared → Prop, R true s → wpAny (model prog w) A (Builtin.SmallTypes.ownedTupleIsFree (.ref z)) R E s)
    {f0 : Value} (hz : IsZipF s.heap z TI TO f0 f1) (hTI : IsTup s.heap TI (its.map Value.ref)) (hTO : IsTup s.heap TO vs) (hv : vs.length = its.length)
    (hit : ∀ (j : Nat) (t a : Addr), its[j]? = some t → as[j]? = some a → s.heap.IsTupleIter t a i) (hy : ys.length = its.length)
    (hit2 : ∀ (j : Nat) (a : Addr), as[j]? = some a → ∃ items, s.heap.IsTuple a items ∧ items[i]? = ys[j]?)
    (hQ : ∀ h', IsZipF h' z TI TO (rawInt s.heap.objs.size) (.bool false) → IsTup h' TI (its.map Value.ref) → IsTup h' TO ys → (∀ (j : Nat) (t a : Addr), its[j]? = some t → as[j]? = some a → h'.IsTupleIter t a (i + 1)) → IsTup h' s.heap.objs.size ys → h'.objs.size = s.heap.objs.size + 1 →
      Kp z TO its s.heap h' → Q (.ref s.heap.objs.size) { s with heap := h' }) :
    wpAny (model prog w) A (Builtin.«zip.__next__» ⟨[.ref z], []⟩) (fun fin s' => ∃ v, fin = .done (.ret v) ∧ Q v s') E s := by
  show wpAny _ _ (field (.ref z) 2 >>= _) _ _ _
  refine wpAny_bind (wpAny_field hz rfl (x := .bool false) rfl ?_)
  show wpAny _ _ (field (.ref z) 3 >>= _) _ _ _
  refine wpAny_bind (wpAny_field hz rfl (x := .ref TI) rfl ?_)
  refine wpAny_bind (wpAny_seqItems hTI rfl ?_)
  have hne : (its.map Value.ref).toArray.isEmpty = false := by
    cases its with
    | nil => exact absurd rfl hk
    | cons x r => rfl
  simp only [hne, Bool.false_eq_true, if_false]
  refine wpAny_bind (free _ ?_)
  simp only [if_true]
  refine wpAny_bind (wpAny_rule ?_)
  refine wpAny_bind (wpAny_field hz rfl (x := .ref TO) rfl ?_)
  refine wpAny_bind (wpAny_setField_rec hz (by simp) fun h₁ hz₁ hs₁ => ?_)
  replace hz₁ : IsZipF h₁ z TI TO .ellipsis f1 := hz₁
  have hsz1 : h₁.objs.size = s.heap.objs.size := hs₁.1
  refine wpAny_bind (wp_forIn (fun j b s' => b = (none, PUnit.unit) ∧ ∃ h' us, s' = { s with heap := h' } ∧ Lp s.heap z TI TO its as ys i f1 j h' us) ?_ ?_ ?_)
  · rintro j ⟨v, jj⟩ b s' hx ⟨rfl, h', us, rfl, L⟩
    rw [List.getElem?_zipIdx, List.getElem?_map] at hx
    obtain ⟨t, ht, hx⟩ : ∃ t, its[j]? = some t ∧ (Value.ref t, 0 + j) = (v, jj) := by
      cases e : its[j]? with
      | none => rw [e] at hx; cases hx
      | some t => rw [e] at hx; exact ⟨t, rfl, Option.some.inj hx⟩
    cases hx
    have hj : j < its.length := (List.getElem?_eq_some_iff.mp ht).1
    have hja : j < as.length := by rw [← D.len]; exact hj
    have ha : as[j]? = some as[j] := List.getElem?_eq_getElem hja
    have htm : t ∈ its := List.mem_of_getElem? ht
    have ham : as[j] ∈ as := List.getElem_mem hja
    obtain ⟨items, hI, hyj⟩ := hit2 j _ ha
    have hjy : j < ys.length := by rw [hy]; exact hj
    rw [List.getElem?_eq_getElem hjy] at hyj
    have hIt := L.it j t _ ht ha
    rw [if_neg (Nat.lt_irrefl j)] at hIt
    have hI' : h'.IsTuple as[j] items := by
      obtain ⟨o, ho, r⟩ := hI
      exact ⟨o, L.k _ _ (fun z => D.za (z ▸ ham)) (fun z => D.TOa (z ▸ ham)) (fun z => D.ia _ z ham) ho, r⟩
    refine wpAny_bind (wpAny_onRaise ?_)
    show wpAny _ _ (Builtin.SmallTypes.nextOf (.ref t) >>= _) _ _ _
    refine wpAny_bind (RZ.nextOf_tuple_item (s := { s with heap := h' }) hIt hI' hyj fun h₂ h1₂ hs₂ => wpAny_pure ?_)
    have tTO : t ≠ TO := fun z => D.TOi (z ▸ htm)
    have tz : t ≠ z := fun z => D.zi (z ▸ htm)
    have hTO₂ : IsTup h₂ TO us := hs₂.extBut _ _ tTO.symm L.tt
    refine wpAny_bind (wpAny_seqItems hTO₂ rfl ?_)
    refine wpAny_bind (wpAny_updateSeq hTO₂ rfl ?_ (by show us.toArray.size ≤ sizeLine; rw [List.size_toArray, L.len]; exact Nat.le_trans hz8 (by decide)) (by show (us.toArray.setIfInBounds _ _).size ≤ sizeLine + 1; rw [Array.size_setIfInBounds, List.size_toArray, L.len]; exact Nat.le_trans hz8 (by decide)))
    have hs₃ : Heap.SameBut TO h₂ (h₂.update TO (Obj.mapSeq (·.setIfInBounds (0 + j) ys[j]))) := Heap.SameBut.update ..
    have hTO₃ : IsTup (h₂.update TO (Obj.mapSeq (·.setIfInBounds (0 + j) ys[j]))) TO (us.set j ys[j]) := by
      show (h₂.update TO (Obj.mapSeq (·.setIfInBounds (0 + j) ys[j]))).get? TO = _
      rw [Heap.get?_update_self _ hTO₂ rfl]
      simp [Obj.mapSeq]
    generalize h₂.update TO (Obj.mapSeq (·.setIfInBounds (0 + j) ys[j])) = h₃ at hs₃ hTO₃ ⊢
    refine wpAny_bind (wpAny_letGo (wpAny_pure ⟨_, rfl, rfl, h₃, us.set j ys[j], rfl, ?_⟩))
    refine ⟨hs₃.extBut _ _ D.TOz.symm (hs₂.extBut _ _ tz.symm L.zz), hTO₃, by rw [List.length_set]; exact L.len, fun m hm => ?_, fun m t' a' h1 h2 => ?_, by rw [hs₃.1, hs₂.1]; exact L.sz, fun c o c1 c2 c3 e => hs₃.extBut _ _ c2 (hs₂.extBut _ _ (fun z => c3 (z ▸ htm)) (L.k c o c1 c2 c3 e))⟩
    · by_cases e : m = j
      · subst e
        rw [List.getElem?_set_self (by rw [L.len]; exact hj), List.getElem?_eq_getElem hjy]
      · rw [List.getElem?_set_ne (fun z => e z.symm)]
        exact L.y m (by omega)
    · by_cases e : m = j
      · subst e
        rw [ht] at h1
        cases h1
        rw [ha] at h2
        cases h2
        rw [if_pos (Nat.lt_succ_self _)]
        exact h1₂.extBut hs₃.extBut tTO
      · have hne2 : t' ≠ t := fun z => by
          subst z
          have q1 := (List.getElem?_eq_some_iff.mp h1)
          have q2 := (List.getElem?_eq_some_iff.mp ht)
          obtain ⟨b1, e1⟩ := q1
          obtain ⟨b2, e2⟩ := q2
          exact e ((List.getElem_inj D.nd).mp (e1.trans e2.symm))
        have q := L.it m t' a' h1 h2
        have tm' : t' ∈ its := List.mem_of_getElem? h1
        have q2 := (q.extBut hs₂.extBut hne2).extBut hs₃.extBut (fun z => D.TOi (z ▸ tm'))
        by_cases c : m < j
        · rw [if_pos c] at q2
          rw [if_pos (by omega)]
          exact q2
        · rw [if_neg c] at q2
          rw [if_neg (by omega)]
          exact q2
  · rintro b s' ⟨rfl, h₅, us, rfl, L⟩
    have hus : us = ys := by
      have hn : ((List.map Value.ref its).zipIdx).length = its.length := by rw [List.length_zipIdx, List.length_map]
      rw [hn] at L
      refine List.ext_getElem? fun m => ?_
      by_cases hm : m < its.length
      · exact L.y m hm
      · rw [List.getElem?_eq_none (by rw [L.len]; omega), List.getElem?_eq_none (by rw [hy]; omega)]
    subst hus
    refine wpAny_bind (wpAny_seqItems L.tt rfl ?_)
    have hla : us.toArray.toList = us := by simp
    refine wpAny_bind (wpAny_newTuple ?_ (by rw [hla, hy]; exact Nat.le_trans hz8 (by decide)))
    have hz₅ := L.zz
    have hzlt : z < h₅.objs.size := Heap.lt_size hz₅
    have hsz : h₅.objs.size = s.heap.objs.size := L.sz
    show wpAny _ _ (Builtin.SmallTypes.ownedTupleHandOut (.ref z) (.ref h₅.objs.size) >>= _) _ _ _
    refine wpAny_bind ?_
    unfold Builtin.SmallTypes.ownedTupleHandOut
    have hz₆ : IsZipF (h₅.push { cls := .type "tuple", data := .seq us.toArray.toList.toArray }) z TI TO .ellipsis f1 := Heap.get?_push_of_some _ hz₅
    refine wpAny_bind (wpAny_setField_rec hz₆ (by simp) fun h₇ hz₇ hs₇ => ?_)
    replace hz₇ : IsZipF h₇ z TI TO (rawInt h₅.objs.size) f1 := hz₇
    refine wpAny_setField_rec hz₇ (by simp) fun h₈ hz₈ hs₈ => ?_
    replace hz₈ : IsZipF h₈ z TI TO (rawInt h₅.objs.size) (.bool false) := hz₈
    have up : ∀ c o, c ≠ z → h₅.get? c = some o → h₈.get? c = some o := fun c o c1 e => hs₈.extBut _ _ c1 (hs₇.extBut _ _ c1 (Heap.get?_push_of_some _ e))
    have hT₈ : IsTup h₈ h₅.objs.size us := by
      have q : IsTup (h₅.push { cls := .type "tuple", data := .seq us.toArray.toList.toArray }) h₅.objs.size us := by
        have q2 : (h₅.push { cls := .type "tuple", data := .seq us.toArray.toList.toArray }).get? h₅.objs.size = some { cls := .type "tuple", data := .seq us.toArray.toList.toArray } := Heap.get?_push_size _ rfl
        rw [hla] at q2 ⊢
        exact q2
      exact hs₈.extBut _ _ (Nat.ne_of_gt hzlt) (hs₇.extBut _ _ (Nat.ne_of_gt hzlt) q)
    have hz8' : h₈.objs.size = h₅.objs.size + 1 := by rw [hs₈.1, hs₇.1, Heap.size_push]
    rw [hsz] at hz₈ hT₈ hz8'
    refine wpAny_pure ⟨_, rfl, ?_⟩
    show Q (.ref h₅.objs.size) _
    rw [hsz]
    have hn : ((List.map Value.ref its).zipIdx).length = its.length := by rw [List.length_zipIdx, List.length_map]
    rw [hn] at L
    refine hQ h₈ hz₈ (up _ _ D.TIz (L.k _ _ D.TIz D.TITO D.TIi hTI)) (up _ _ D.TOz L.tt) (fun j t a h1 h2 => ?_) hT₈ hz8' fun c o c1 c2 c3 e => up c o c1 (L.k c o c1 c2 c3 e)
    have q := L.it j t a h1 h2
    rw [if_pos (List.getElem?_eq_some_iff.mp h1).1] at q
    exact q.at fun o e => up _ o (fun z => D.zi (z ▸ List.mem_of_getElem? h1)) e
  · refine ⟨rfl, h₁, vs, rfl, hz₁, hs₁.extBut _ _ D.TOz hTO, hv, fun m hm => absurd hm (Nat.not_lt_zero _), fun m t a h1 h2 => ?_, hsz1, fun c o c1 _ _ e => hs₁.extBut _ _ c1 e⟩
    rw [if_neg (Nat.not_lt_zero _)]
    exact (hit m t a h1 h2).extBut hs₁.extBut (fun z => D.zi (z ▸ List.mem_of_getElem? h1))
structure Lh (h0 : Heap) (z TI TO : Addr) (its as : List Addr) (i : Nat) (f0 f1 : Value) (j : Nat) (h : Heap) : Prop where
  zz : IsZipF h z TI TO f0 f1
  it : ∀ (m : Nat) (t a : Addr), its[m]? = some t → as[m]? = some a → h.IsTupleIter t a (if m < j then i + 1 else i)
  sz : h.objs.size = h0.objs.size
  k : ∀ c o, c ≠ z → c ∉ its → h0.get? c = some o → h.get? c = some o
theorem next_held {z TI TO : Addr} {its as : List Addr} {i : Nat} {f0 f1 : Value} {ys : List Value} {Q : Value → Shared → Prop} (D : ZAp z TI TO its as) (hk : its ≠ []) (hz8 : its.length ≤ 100000)
    (hz : IsZipF s.heap z TI TO f0 f1)
    (held : ∀ R : Bool → Shared → Prop, (∀ h', IsZipF h' z TI TO f0 (.bool true) → Heap.SameBut z s.heap h' → R false { s with heap := h' }) → wpAny (model prog w) A (Builtin.SmallTypes.ownedTupleIsFree (.ref z)) R E s)
    (hTI : IsTup s.heap TI (its.map Value.ref))
    (hit : ∀ (j : Nat) (t a : Addr), its[j]? = some t → as[j]? = some a → s.heap.IsTupleIter t a i) (hy : ys.length = its.length)
    (hit2 : ∀ (j : Nat) (a : Addr), as[j]? = some a → ∃ items, s.heap.IsTuple a items ∧ items[i]? = ys[j]?)
    (hQ : ∀ h', IsZipF h' z TI TO f0 (.bool true) → (∀ (j : Nat) (t a : Addr), its[j]? = some t → as[j]? = some a → h'.IsTupleIter t a (i + 1)) → IsTup h' s.heap.objs.size ys → h'.objs.size = s.heap.objs.size + 1 →
      (∀ c o, c ≠ z → c ∉ its → s.heap.get? c = some o → h'.get? c = some o) → Q (.ref s.heap.objs.size) { s with heap := h' }) :
    wpAny (model prog w) A (Builtin.«zip.__next__» ⟨[.ref z], []⟩) (fun fin s' => ∃ v, fin = .done (.ret v) ∧ Q v s') E s := by
  show wpAny _ _ (field (.ref z) 2 >>= _) _ _ _
  refine wpAny_bind (wpAny_field hz rfl (x := .bool false) rfl ?_)
  show wpAny _ _ (field (.ref z) 3 >>= _) _ _ _
  refine wpAny_bind (wpAny_field hz rfl (x := .ref TI) rfl ?_)
  refine wpAny_bind (wpAny_seqItems hTI rfl ?_)
  have hne : (its.map Value.ref).toArray.isEmpty = false := by
    cases its with
    | nil => exact absurd rfl hk
    | cons x r => rfl
  simp only [hne, Bool.false_eq_true, if_false]
  refine wpAny_bind (held _ fun h₁ hz₁ hs₁ => ?_)
  simp only [Bool.false_eq_true, if_false]
  refine wpAny_bind ?_
  rw [← Array.forIn_toList]
  refine wp_forIn (fun j b s' => b = (none, (ys.take j).toArray) ∧ ∃ h', s' = { s with heap := h' } ∧ Lh s.heap z TI TO its as i f0 (.bool true) j h') ?_ ?_ ?_
  · rintro j v b s' hx ⟨rfl, h', rfl, L⟩
    have hx : (its.map Value.ref)[j]? = some v := hx
    rw [List.getElem?_map] at hx
    obtain ⟨t, ht, rfl⟩ : ∃ t, its[j]? = some t ∧ Value.ref t = v := by
      cases e : its[j]? with
      | none => rw [e] at hx; cases hx
      | some t => rw [e] at hx; exact ⟨t, rfl, Option.some.inj hx⟩
    have hj : j < its.length := (List.getElem?_eq_some_iff.mp ht).1
    have hja : j < as.length := by rw [← D.len]; exact hj
    have ha : as[j]? = some as[j] := List.getElem?_eq_getElem hja
    have htm : t ∈ its := List.mem_of_getElem? ht
    have ham : as[j] ∈ as := List.getElem_mem hja
    obtain ⟨items, hI, hyj⟩ := hit2 j _ ha
    have hjy : j < ys.length := by rw [hy]; exact hj
    rw [List.getElem?_eq_getElem hjy] at hyj
    have hIt := L.it j t _ ht ha
    rw [if_neg (Nat.lt_irrefl j)] at hIt
    have hI' : h'.IsTuple as[j] items := by
      obtain ⟨o, ho, r⟩ := hI
      exact ⟨o, L.k _ _ (fun z => D.za (z ▸ ham)) (fun z => D.ia _ z ham) ho, r⟩
    refine wpAny_bind (wpAny_holding ?_)
    show wpAny _ _ (Builtin.SmallTypes.nextOf (.ref t) >>= _) _ _ _
    refine wpAny_bind (RZ.nextOf_tuple_item (s := { s with heap := h' }) hIt hI' hyj fun h₂ h1₂ hs₂ => wpAny_pure ?_)
    have tz : t ≠ z := fun z => D.zi (z ▸ htm)
    refine wpAny_pure ⟨_, rfl, ?_, h₂, rfl, ?_⟩
    · show (none, (ys.take j).toArray.push ys[j]) = _
      rw [List.take_add_one, List.getElem?_eq_getElem hjy]
      simp
    refine ⟨hs₂.extBut _ _ tz.symm L.zz, fun m t' a' h1 h2 => ?_, by rw [hs₂.1]; exact L.sz, fun c o c1 c3 e => hs₂.extBut _ _ (fun z => c3 (z ▸ htm)) (L.k c o c1 c3 e)⟩
    by_cases e : m = j
    · subst e
      rw [ht] at h1
      cases h1
      rw [ha] at h2
      cases h2
      rw [if_pos (Nat.lt_succ_self _)]
      exact h1₂
    · have hne2 : t' ≠ t := fun z => by
        subst z
        have q1 := (List.getElem?_eq_some_iff.mp h1)
        have q2 := (List.getElem?_eq_some_iff.mp ht)
        obtain ⟨b1, e1⟩ := q1
        obtain ⟨b2, e2⟩ := q2
        exact e ((List.getElem_inj D.nd).mp (e1.trans e2.symm))
      have q2 := (L.it m t' a' h1 h2).extBut hs₂.extBut hne2
      by_cases c : m < j
      · rw [if_pos c] at q2
        rw [if_pos (by omega)]
        exact q2
      · rw [if_neg c] at q2
        rw [if_neg (by omega)]
        exact q2
  · rintro b s' ⟨rfl, h₅, rfl, L⟩
    have hn : (List.map Value.ref its).toArray.toList.length = ys.length := by
      show (List.map Value.ref its).length = _
      rw [List.length_map, hy]
    rw [hn, List.take_length]
    have hla : ys.toArray.toList = ys := by simp
    show wpAny _ _ (newTuple ys.toArray.toList >>= _) _ _ _
    refine wpAny_bind (wpAny_newTuple ?_ (by rw [hla, hy]; exact Nat.le_trans hz8 (by decide)))
    have hsz : h₅.objs.size = s.heap.objs.size := L.sz
    have hT : IsTup (h₅.push { cls := .type "tuple", data := .seq ys.toArray.toList.toArray }) h₅.objs.size ys := by
      have q2 : (h₅.push { cls := .type "tuple", data := .seq ys.toArray.toList.toArray }).get? h₅.objs.size = some { cls := .type "tuple", data := .seq ys.toArray.toList.toArray } := Heap.get?_push_size _ rfl
      rw [hla] at q2 ⊢
      exact q2
    have hz8' : (h₅.push { cls := .type "tuple", data := .seq ys.toArray.toList.toArray }).objs.size = h₅.objs.size + 1 := Heap.size_push ..
    refine wpAny_pure ⟨_, rfl, ?_⟩
    show Q (.ref h₅.objs.size) _
    rw [hn] at L
    rw [hsz] at hT hz8' ⊢
    refine hQ _ (Heap.get?_push_of_some _ L.zz) (fun j t a h1 h2 => ?_) hT hz8' fun c o c1 c3 e => Heap.get?_push_of_some _ (L.k c o c1 c3 e)
    have q := L.it j t a h1 h2
    rw [if_pos (by rw [hy]; exact (List.getElem?_eq_some_iff.mp h1).1)] at q
    exact q.at fun o e => Heap.get?_push_of_some _ e
  · refine ⟨rfl, h₁, rfl, hz₁, fun m t a h1 h2 => ?_, hs₁.1, fun c o c1 _ e => hs₁.extBut _ _ c1 e⟩
    rw [if_neg (Nat.not_lt_zero _)]
    exact (hit m t a h1 h2).extBut hs₁.extBut (fun z => D.zi (z ▸ List.mem_of_getElem? h1))
theorem end_free {z TI TO t a0 : Addr} {its as : List Addr} {i : Nat} {f0 f1 : Value} {items : Array Value} {Q : Fin → Shared → Prop} (hh : A.handled = none) (D : ZAp z TI TO (t :: its) (a0 :: as))
    (free : ∀ R : Bool → Shared → Prop, R true s → wpAny (model prog w) A (Builtin.SmallTypes.ownedTupleIsFree (.ref z)) R E s)
    (hz : IsZipF s.heap z TI TO f0 f1) (hTI : IsTup s.heap TI ((t :: its).map Value.ref))
    (hit : s.heap.IsTupleIter t a0 i) (hI : s.heap.IsTuple a0 items) (hx : items[i]? = none)
    (hE : ∀ h' e, (∀ c o, c ≠ z → c ≠ t → s.heap.get? c = some o → h'.get? c = some o) → (∃ o, h'.get? e = some o ∧ o.cls = .type "StopIteration") → E (.ref e) { s with heap := h' })
    (hTO : ∃ us, IsTup s.heap TO us) :
    wpAny (model prog w) A (Builtin.«zip.__next__» ⟨[.ref z], []⟩) Q E s := by
  obtain ⟨us, hTO⟩ := hTO
  show wpAny _ _ (field (.ref z) 2 >>= _) _ _ _
  refine wpAny_bind (wpAny_field hz rfl (x := .bool false) rfl ?_)
  show wpAny _ _ (field (.ref z) 3 >>= _) _ _ _
  refine wpAny_bind (wpAny_field hz rfl (x := .ref TI) rfl ?_)
  refine wpAny_bind (wpAny_seqItems hTI rfl ?_)
  have hne : ((t :: its).map Value.ref).toArray.isEmpty = false := rfl
  simp only [hne, Bool.false_eq_true, if_false]
  refine wpAny_bind (free _ ?_)
  simp only [if_true]
  refine wpAny_bind (wpAny_rule ?_)
  refine wpAny_bind (wpAny_field hz rfl (x := .ref TO) rfl ?_)
  refine wpAny_bind (wpAny_setField_rec hz (by simp) fun h₁ hz₁ hs₁ => ?_)
  replace hz₁ : IsZipF h₁ z TI TO .ellipsis f1 := hz₁
  refine wpAny_bind ?_
  simp only [List.map_cons, List.zipIdx_cons, List.forIn_cons]
  refine wpAny_bind (wpAny_bind (wpAny_onRaise ?_))
  show wpAny _ _ (Builtin.SmallTypes.nextOf (.ref t) >>= _) _ _ _
  have tz : t ≠ z := fun q => D.zi (q ▸ List.mem_cons_self)
  have az : a0 ≠ z := fun q => D.za (q ▸ List.mem_cons_self)
  have hI1 : h₁.IsTuple a0 items := hI.extBut hs₁.extBut az
  refine wpAny_bind (RZ.nextOf_tuple_end (s := { s with heap := h₁ }) hh (hit.extBut hs₁.extBut tz) hI1 hx fun h₂ e hs₂ he => ?_)
  obtain ⟨oe, hoe, hce⟩ := he
  have hz₂ : IsZipF h₂ z TI TO .ellipsis f1 := hs₂ _ _ tz.symm hz₁
  have hez : e ≠ z := fun x => by subst x; rw [hz₂] at hoe; cases hoe; simp at hce
  refine wpAny_setField_rec hz₂ (by simp) fun h₃ _ hs₃ => hE h₃ e (fun c o c1 c3 x => hs₃.extBut _ _ c1 (hs₂ _ _ c3 (hs₁.extBut _ _ c1 x))) ⟨oe, hs₃.extBut _ _ hez hoe, hce⟩
theorem end_held {z TI TO t a0 : Addr} {its as : List Addr} {i : Nat} {f0 f1 : Value} {items : Array Value} {Q : Fin → Shared → Prop} (hh : A.handled = none) (D : ZAp z TI TO (t :: its) (a0 :: as))
    (hz : IsZipF s.heap z TI TO f0 f1)
    (held : ∀ R : Bool → Shared → Prop, (∀ h', IsZipF h' z TI TO f0 (.bool true) → Heap.SameBut z s.heap h' → R false { s with heap := h' }) → wpAny (model prog w) A (Builtin.SmallTypes.ownedTupleIsFree (.ref z)) R E s)
    (hTI : IsTup s.heap TI ((t :: its).map Value.ref))
    (hit : s.heap.IsTupleIter t a0 i) (hI : s.heap.IsTuple a0 items) (hx : items[i]? = none)
    (hE : ∀ h' e, (∀ c o, c ≠ z → c ≠ t → s.heap.get? c = some o → h'.get? c = some o) → (∃ o, h'.get? e = some o ∧ o.cls = .type "StopIteration") → E (.ref e) { s with heap := h' }) :
    wpAny (model prog w) A (Builtin.«zip.__next__» ⟨[.ref z], []⟩) Q E s := by
  show wpAny _ _ (field (.ref z) 2 >>= _) _ _ _
  refine wpAny_bind (wpAny_field hz rfl (x := .bool false) rfl ?_)
  show wpAny _ _ (field (.ref z) 3 >>= _) _ _ _
  refine wpAny_bind (wpAny_field hz rfl (x := .ref TI) rfl ?_)
  refine wpAny_bind (wpAny_seqItems hTI rfl ?_)
  have hne : ((t :: its).map Value.ref).toArray.isEmpty = false := rfl
  simp only [hne, Bool.false_eq_true, if_false]
  refine wpAny_bind (held _ fun h₁ hz₁ hs₁ => ?_)
  simp only [Bool.false_eq_true, if_false]
  refine wpAny_bind ?_
  rw [← Array.forIn_toList]
  simp only [List.map_cons, List.forIn_cons]
  refine wpAny_bind (wpAny_bind (wpAny_holding ?_))
  show wpAny _ _ (Builtin.SmallTypes.nextOf (.ref t) >>= _) _ _ _
  have tz : t ≠ z := fun q => D.zi (q ▸ List.mem_cons_self)
  have az : a0 ≠ z := fun q => D.za (q ▸ List.mem_cons_self)
  have hI1 : h₁.IsTuple a0 items := hI.extBut hs₁.extBut az
  refine wpAny_bind (RZ.nextOf_tuple_end (s := { s with heap := h₁ }) hh (hit.extBut hs₁.extBut tz) hI1 hx fun h₂ e hs₂ he => ?_)
  exact hE h₂ e (fun c o c1 c3 x => hs₂ _ _ c3 (hs₁.extBut _ _ c1 x)) he
/-- the zip at turn i -/
structure ZSt (h : Heap) (z TI TO : Addr) (its as : List Addr) (i : Nat) : Prop where
  zz : ∃ f0 f1, IsZipF h z TI TO f0 f1 ∧ (f0 = .none ∨ ∃ T : Addr, f0 = rawInt T) ∧ ∃ b, f1 = .bool b
  ti : IsTup h TI (its.map Value.ref)
  tt : ∃ us, us.length = its.length ∧ IsTup h TO us
  it : ∀ (j : Nat) (t a : Addr), its[j]? = some t → as[j]? = some a → h.IsTupleIter t a i
theorem alive_is {a : Addr} {Q : Option Obj → Shared → Prop} (h : Q (s.heap.get? a) s) : wpAny (model prog w) A (loadIfAlive a) Q E s := fun _ _ _ => h
/-- free or held -/
theorem asked {z TI TO : Addr} {f0 f1 : Value} (hz : IsZipF s.heap z TI TO f0 f1) (h0 : f0 = .none ∨ ∃ T : Addr, f0 = rawInt T) (h1 : ∃ b, f1 = .bool b) :
    (∀ R : Bool → Shared → Prop, R true s → wpAny (model prog w) A (Builtin.SmallTypes.ownedTupleIsFree (.ref z)) R E s) ∨
    (∀ R : Bool → Shared → Prop, (∀ h', IsZipF h' z TI TO f0 (.bool true) → Heap.SameBut z s.heap h' → R false { s with heap := h' }) → wpAny (model prog w) A (Builtin.SmallTypes.ownedTupleIsFree (.ref z)) R E s) := by
  obtain ⟨b, rfl⟩ := h1
  rcases h0 with rfl | ⟨T, rfl⟩
  · left
    intro R h
    unfold Builtin.SmallTypes.ownedTupleIsFree
    exact wpAny_bind (wpAny_field hz rfl (x := .none) rfl (wpAny_pure h))
  · cases hT : s.heap.get? T with
    | none =>
      left
      intro R h
      unfold Builtin.SmallTypes.ownedTupleIsFree
      refine wpAny_bind (wpAny_field hz rfl (x := rawInt T) rfl ?_)
      show wpAny _ _ (loadIfAlive ((T : Int).toNat) >>= _) _ _ _
      rw [Int.toNat_natCast]
      refine wpAny_bind (alive_is ?_)
      rw [hT]
      simp only [Option.isNone_none, if_true]
      exact wpAny_pure h
    | some o =>
      right
      intro R h
      unfold Builtin.SmallTypes.ownedTupleIsFree
      refine wpAny_bind (wpAny_field hz rfl (x := rawInt T) rfl ?_)
      show wpAny _ _ (loadIfAlive ((T : Int).toNat) >>= _) _ _ _
      rw [Int.toNat_natCast]
      refine wpAny_bind (alive_is ?_)
      rw [hT]
      simp only [Option.isNone_some, Bool.false_eq_true, if_false]
      refine wpAny_bind (wpAny_field hz rfl (x := .bool b) rfl ?_)
      cases b with
      | true =>
        rw [if_neg (show ¬ ((Value.bool true != Value.bool true) = true) from Bool.false_ne_true)]
        exact wpAny_pure (h s.heap hz (Heap.SameBut.refl _ _))
      | false =>
        rw [if_pos (show (Value.bool false != Value.bool true) = true from rfl)]
        exact wpAny_bind (wpAny_setField_rec hz (by simp) fun h₁ hz₁ hs₁ => wpAny_pure (h h₁ hz₁ hs₁))
end
end OZ

set_option Elab.async false
set_option linter.all false
set_option maxRecDepth 100000
set_option maxHeartbeats 2000000
namespace OZ
open PySem
open PySem.Sem (wp)
section
variable {prog : Program} {w : World} {A : Around} {E : Value → Shared → Prop} {s : Shared}
theorem pyNext_item {z TI TO : Addr} {its as : List Addr} {i : Nat} {ys : List Value} {Q : Option Value → Shared → Prop} (D : ZAp z TI TO its as) (hk : its ≠ []) (hz8 : its.length ≤ 100000) (st : ZSt s.heap z TI TO its as i) (hy : ys.length = its.length)
    (hit2 : ∀ (j : Nat) (a : Addr), as[j]? = some a → ∃ items, s.heap.IsTuple a items ∧ items[i]? = ys[j]?)
    (hQ : ∀ h', ZSt h' z TI TO its as (i + 1) → IsTup h' s.heap.objs.size ys → h'.objs.size = s.heap.objs.size + 1 → Kp z TO its s.heap h' → Q (some (.ref s.heap.objs.size)) { s with heap := h' }) :
    wpAny (model prog w) A (pyNext (.ref z)) Q E s := by
  obtain ⟨⟨f0, f1, hz, h0, h1⟩, hTI, ⟨us, hus, hTO⟩, hit⟩ := st
  have hT : s.TypeIs (.ref z) "zip" := ⟨_, hz, rfl⟩
  unfold pyNext
  refine wpAny_bind (wpAny_attempt (wpAny_callSpecial?_slot (name := Str.ofString "__next__") hT F.slot_zip_next
    (wpAny_call_entry F.slot_zip_next hT F.entry_zip_next ?_ (F.args_zip_next_1 _))))
  rcases asked hz h0 h1 with free | held
  · exact next_free D hk hz8 free hz hTI hTO hus hit hy hit2 fun h' z1 t1 t2 i1 T1 s1 k1 => wpAny_pure (hQ h' ⟨⟨_, _, z1, .inr ⟨_, rfl⟩, _, rfl⟩, t1, ⟨ys, hy, t2⟩, i1⟩ T1 s1 k1)
  · exact next_held D hk hz8 hz held hTI hit hy hit2 fun h' z1 i1 T1 s1 k1 => wpAny_pure (hQ h' ⟨⟨_, _, z1, h0, _, rfl⟩, k1 _ _ D.TIz D.TIi hTI, ⟨us, hus, k1 _ _ D.TOz D.TOi hTO⟩, i1⟩ T1 s1 fun c o c1 _ c3 e => k1 c o c1 c3 e)
theorem pyNext_end {z TI TO : Addr} {its as : List Addr} {i : Nat} {Q : Option Value → Shared → Prop} (hh : A.handled = none) (D : ZAp z TI TO its as) (hk : its ≠ []) (st : ZSt s.heap z TI TO its as i)
    (hit2 : ∀ a ∈ as, ∃ items : Array Value, s.heap.IsTuple a items ∧ items[i]? = none)
    (hQ : ∀ h', Kp z TO its s.heap h' → Q none { s with heap := h' }) :
    wpAny (model prog w) A (pyNext (.ref z)) Q E s := by
  obtain ⟨⟨f0, f1, hz, h0, h1⟩, hTI, ⟨us, hus, hTO⟩, hit⟩ := st
  have hT : s.TypeIs (.ref z) "zip" := ⟨_, hz, rfl⟩
  cases its with
  | nil => exact absurd rfl hk
  | cons t its =>
  cases as with
  | nil => exact absurd D.len (by simp)
  | cons a0 as =>
  obtain ⟨items, hI, hx⟩ := hit2 a0 List.mem_cons_self
  have fin : ∀ h' e, (∀ c o, c ≠ z → c ≠ t → s.heap.get? c = some o → h'.get? c = some o) → (∃ o, h'.get? e = some o ∧ o.cls = .type "StopIteration") → wpAny (model prog w) A (do
        if ← isInstance (.ref e) (.type "StopIteration") then pure none else throw (.ref e)) Q E { s with heap := h' } := fun h' e hkk he => by
    obtain ⟨o, ho, hc⟩ := he
    refine wpAny_bind (wpAny_isInstance (T := "StopIteration") (b := true) ⟨o, ho, hc⟩ isSubtype_stop ?_)
    exact wpAny_pure (hQ _ fun c o c1 _ c3 x => hkk c o c1 (fun q => c3 (q ▸ List.mem_cons_self)) x)
  unfold pyNext
  refine wpAny_bind (wpAny_attempt (wpAny_callSpecial?_slot (name := Str.ofString "__next__") hT F.slot_zip_next
    (wpAny_call_entry F.slot_zip_next hT F.entry_zip_next ?_ (F.args_zip_next_1 _))))
  rcases asked hz h0 h1 with free | held
  · exact end_free hh D free hz hTI (hit 0 t a0 rfl rfl) hI hx (fun h' e a b => fin h' e a b) ⟨us, hTO⟩
  · exact end_held hh D hz held hTI (hit 0 t a0 rfl rfl) hI hx fun h' e a b => fin h' e a b
structure NewOk (h0 h' : Heap) (as : List Addr) : Prop where
  st : ZSt h' (h0.objs.size + as.length + 2) (h0.objs.size + as.length) (h0.objs.size + as.length + 1) (List.range' h0.objs.size as.length) as 0
  sz : h'.objs.size = h0.objs.size + as.length + 3
  k : ∀ c o, h0.get? c = some o → h'.get? c = some o
theorem newClass_zip {rest : List Value} {Q : Value × List Value → Shared → Prop} (h : Q (.type "zip", rest) s) : wpAny (model prog w) A (Builtin.SmallTypes.newClass "zip" ⟨.type "zip" :: rest, []⟩) Q E s := by
  obtain ⟨hp, g, d, tk, os⟩ := s
  have hsub := sub_zip
  unfold Builtin.SmallTypes.newClass
  repeat (any_goals (first | assumption | wp_step))
structure Li (h0 h : Heap) (as : List Addr) (j : Nat) : Prop where
  it : ∀ (m : Nat) (a : Addr), m < j → as[m]? = some a → h.IsTupleIter (h0.objs.size + m) a 0
  sz : h.objs.size = h0.objs.size + j
  k : ∀ c o, h0.get? c = some o → h.get? c = some o
theorem iterAll_ok {as : List Addr} {Q : List Value → Shared → Prop} (hI : ∀ a ∈ as, ∃ items, s.heap.IsTuple a items) (hQ : ∀ h', Li s.heap h' as as.length → Q ((List.range' s.heap.objs.size as.length).map Value.ref) { s with heap := h' }) :
    wpAny (model prog w) A (Builtin.SmallTypes.iterAll (as.map Value.ref)) Q E s := by
  unfold Builtin.SmallTypes.iterAll
  refine wpAny_bind ?_
  refine wp_forIn (fun j b s' => b = ((List.range' s.heap.objs.size j).map Value.ref).toArray ∧ ∃ h', s' = { s with heap := h' } ∧ Li s.heap h' as j) ?_ ?_ ?_
  · rintro j v b s' hx ⟨rfl, h', rfl, L⟩
    rw [List.getElem?_map] at hx
    obtain ⟨a, ha, rfl⟩ : ∃ a, as[j]? = some a ∧ Value.ref a = v := by
      cases e : as[j]? with
      | none => rw [e] at hx; cases hx
      | some t => rw [e] at hx; exact ⟨t, rfl, Option.some.inj hx⟩
    obtain ⟨items, o, ho, r⟩ := hI a (List.mem_of_getElem? ha)
    have hT : h'.IsTuple a items := ⟨o, L.k _ _ ho, r⟩
    refine wpAny_bind (wpAny_holding (wpAny_pyIter_tuple (s := { s with heap := h' }) hT ?_))
    refine wpAny_pure ⟨_, rfl, ?_, _, rfl, ?_⟩
    · show ((List.range' s.heap.objs.size j).map Value.ref).toArray.push (.ref h'.objs.size) = _
      rw [L.sz, List.range'_concat]
      simp
    · refine ⟨fun m a' hm h1 => ?_, ?_, fun c o e => Heap.get?_push_of_some _ (L.k _ _ e)⟩
      · by_cases e : m = j
        · subst e
          rw [ha] at h1
          cases h1
          refine ⟨{ cls := .type "tuple_iterator", data := .fields #[.ref a, .int 0 0] }, ?_, rfl, rfl⟩
          have q2 : (h'.push { cls := .type "tuple_iterator", data := .fields #[.ref a, .int 0 0] }).get? h'.objs.size = some { cls := .type "tuple_iterator", data := .fields #[.ref a, .int 0 0] } := Heap.get?_push_size _ rfl
          rw [L.sz] at q2
          exact q2
        · exact (L.it m a' (by omega) h1).at fun o e => Heap.get?_push_of_some _ e
      · show (h'.push _).objs.size = _
        rw [Heap.size_push, L.sz]
        rfl
  · rintro b s' ⟨rfl, h', rfl, L⟩
    rw [List.length_map] at L ⊢
    refine wpAny_pure ?_
    have e : ((List.range' s.heap.objs.size as.length).map Value.ref).toArray.toList = (List.range' s.heap.objs.size as.length).map Value.ref := by simp
    show Q (((List.range' s.heap.objs.size as.length).map Value.ref).toArray.toList) _
    rw [e]
    exact hQ h' L
  · exact ⟨rfl, s.heap, rfl, fun m a hm => absurd hm (Nat.not_lt_zero _), rfl, fun c o e => e⟩
theorem meets_new (as : List Addr) :
    Meets (Builtin.«zip.__new__» ⟨.type "zip" :: as.map Value.ref, []⟩) (fun _ R s => (∀ a ∈ as, ∃ items, s.heap.IsTuple a items) ∧ as.length ≤ 100000 ∧ ∀ h', NewOk s.heap h' as → R (.ok (.ret (.ref (s.heap.objs.size + as.length + 2)))) { s with heap := h' }) :=
  .of_wp fun prog w A R s h => by
    obtain ⟨hI, hl, h⟩ := h
    unfold Builtin.«zip.__new__»
    refine wpAny_bind (newClass_zip ?_)
    show wpAny _ _ (Builtin.SmallTypes.iterAll (as.map Value.ref) >>= _) _ _ _
    refine wpAny_bind (iterAll_ok hI fun h1 L => ?_)
    have n1 : ((List.range' s.heap.objs.size as.length).map Value.ref).length = as.length := by rw [List.length_map, List.length_range']
    refine wpAny_bind (wpAny_newTuple (s := { s with heap := h1 }) ?_ (by rw [n1]; exact Nat.le_trans hl (by decide)))
    refine wpAny_bind (wpAny_newTuple ?_ (by rw [List.length_map, n1]; exact Nat.le_trans hl (by decide)))
    refine wpAny_bind ?_
    have hs1 : h1.objs.size = s.heap.objs.size + as.length := L.sz
    have hs2 : (h1.push { cls := .type "tuple", data := .seq (List.map Value.ref (List.range' s.heap.objs.size as.length)).toArray }).objs.size = s.heap.objs.size + as.length + 1 := by rw [Heap.size_push, hs1]
    have q2 : (h1.push { cls := .type "tuple", data := .seq (List.map Value.ref (List.range' s.heap.objs.size as.length)).toArray }).get? h1.objs.size = some { cls := .type "tuple", data := .seq (List.map Value.ref (List.range' s.heap.objs.size as.length)).toArray } := Heap.get?_push_size _ rfl
    have k2 : ∀ c o, h1.get? c = some o → (h1.push { cls := .type "tuple", data := .seq (List.map Value.ref (List.range' s.heap.objs.size as.length)).toArray }).get? c = some o := fun c o e => Heap.get?_push_of_some _ e
    show wpAny _ _ (newObj (.type "zip") (.fields #[.none, .bool false, .bool false, .ref h1.objs.size, .ref (h1.push { cls := .type "tuple", data := .seq (List.map Value.ref (List.range' s.heap.objs.size as.length)).toArray }).objs.size])) _ _ _
    generalize h1.push { cls := .type "tuple", data := .seq (List.map Value.ref (List.range' s.heap.objs.size as.length)).toArray } = h2 at hs2 q2 k2 ⊢
    have hs3 : (h2.push { cls := .type "tuple", data := .seq (List.map (fun x => Value.none) (List.map Value.ref (List.range' s.heap.objs.size as.length))).toArray }).objs.size = s.heap.objs.size + as.length + 2 := by rw [Heap.size_push, hs2]
    have q3 : (h2.push { cls := .type "tuple", data := .seq (List.map (fun x => Value.none) (List.map Value.ref (List.range' s.heap.objs.size as.length))).toArray }).get? h2.objs.size = some { cls := .type "tuple", data := .seq (List.map (fun x => Value.none) (List.map Value.ref (List.range' s.heap.objs.size as.length))).toArray } := Heap.get?_push_size _ rfl
    have k3 : ∀ c o, h2.get? c = some o → (h2.push { cls := .type "tuple", data := .seq (List.map (fun x => Value.none) (List.map Value.ref (List.range' s.heap.objs.size as.length))).toArray }).get? c = some o := fun c o e => Heap.get?_push_of_some _ e
    refine wpAny_newObj_type ?_
    show wpAny _ _ (ret (.ref (h2.push { cls := .type "tuple", data := .seq (List.map (fun x => Value.none) (List.map Value.ref (List.range' s.heap.objs.size as.length))).toArray }).objs.size)) _ _ { s with heap := (h2.push { cls := .type "tuple", data := .seq (List.map (fun x => Value.none) (List.map Value.ref (List.range' s.heap.objs.size as.length))).toArray }).push { cls := .type "zip", data := .fields #[.none, .bool false, .bool false, .ref h1.objs.size, .ref h2.objs.size] } }
    generalize h2.push { cls := .type "tuple", data := .seq (List.map (fun x => Value.none) (List.map Value.ref (List.range' s.heap.objs.size as.length))).toArray } = h3 at hs3 q3 k3 ⊢
    have q4 : (h3.push { cls := .type "zip", data := .fields #[.none, .bool false, .bool false, .ref h1.objs.size, .ref h2.objs.size] }).get? h3.objs.size = some { cls := .type "zip", data := .fields #[.none, .bool false, .bool false, .ref h1.objs.size, .ref h2.objs.size] } := Heap.get?_push_size _ rfl
    have k4 : ∀ c o, h3.get? c = some o → (h3.push { cls := .type "zip", data := .fields #[.none, .bool false, .bool false, .ref h1.objs.size, .ref h2.objs.size] }).get? c = some o := fun c o e => Heap.get?_push_of_some _ e
    have hs4 : (h3.push { cls := .type "zip", data := .fields #[.none, .bool false, .bool false, .ref h1.objs.size, .ref h2.objs.size] }).objs.size = s.heap.objs.size + as.length + 3 := by rw [Heap.size_push, hs3]
    generalize h3.push { cls := .type "zip", data := .fields #[.none, .bool false, .bool false, .ref h1.objs.size, .ref h2.objs.size] } = h4 at q4 k4 hs4 ⊢
    rw [hs3] at q4 ⊢
    rw [hs1] at q4 q2
    rw [hs2] at q4 q3
    refine wpAny_pure ⟨_, rfl, h h4 ⟨⟨⟨_, _, q4, .inl rfl, _, rfl⟩, k4 _ _ (k3 _ _ q2), ⟨_, ?_, k4 _ _ q3⟩, fun j t a h1' h2' => ?_⟩, hs4, fun c o e => k4 _ _ (k3 _ _ (k2 _ _ (L.k _ _ e)))⟩⟩
    · rw [List.length_map, List.length_map]
    · have hj : j < as.length := (List.getElem?_eq_some_iff.mp h2').1
      have et : t = s.heap.objs.size + j := by
        rw [List.getElem?_range' hj] at h1'
        have q := Option.some.inj h1'
        rw [Nat.one_mul] at q
        exact q.symm
      subst et
      exact (L.it j a hj h2').at fun o e => k4 _ _ (k3 _ _ (k2 _ _ e))
theorem call_zipN {a : Addr} {as : List Addr} {Q : Value → Shared → Prop} (hI : ∀ b ∈ a :: as, ∃ items, s.heap.IsTuple b items) (hl : (a :: as).length ≤ 100000)
    (h : ∀ h', NewOk s.heap h' (a :: as) → Q (.ref (s.heap.objs.size + (a :: as).length + 2)) { s with heap := h' }) :
    wpAny (model prog w) A (call (.type "zip") ((a :: as).map Value.ref)) Q E s := by
  refine callType_new F.called_zip (by decide) (tc _) (nc _ _) (fun obj => oi _) F.entry_zip_new (meets_new (a :: as)) ⟨hI, hl, fun h' n => ?_⟩
  refine ⟨?_, h h' n⟩
  obtain ⟨⟨f0, f1, hz, _⟩, _⟩ := n.st
  exact ⟨_, hz, rfl⟩
end
end OZ

set_option Elab.async false
set_option linter.all false
set_option maxRecDepth 100000
set_option maxHeartbeats 2000000
namespace OZ
open PySem PySem.Spec PyProof.Rows L2
/-- all of them tuples of n items -/
def Cols (K : PySem.W.Frag) (H : Hp) (as : List Addr) (n : Nat) : Prop := ∀ a ∈ as, ∃ xs : List V, SqT K H a xs ∧ xs.length = n
/-- the tuples in turn: at turn i a new tuple of their i-th items -/
def ItzN (K : PySem.W.Frag) (as : List Addr) (n : Nat) : It :=
  ⟨fun i H => i < n ∧ Cols K H as n,
    fun i H v H' => ∃ T ys, v = .ref T ∧ H T = none ∧ H' = upd H T (.tup ys) ∧ ys.length = as.length ∧ ∀ (j : Nat) (a : Addr) (xs : List V), as[j]? = some a → SqT K H a xs → xs[i]? = ys[j]?,
    fun i H => n ≤ i ∧ Cols K H as n⟩
theorem cols_at {X : Cx} {pins : List (Addr × Obj)} {σ : L2.St} {H : Hp} {s : Shared} {n i : Nat} (I : Inv X pins σ H s) (hi : i < n) : ∀ {as : List Addr}, Cols X.K H as n →
    ∃ (ys : List V) (us : List Value), Vals ys us ∧ ys.length = as.length ∧ us.length = as.length ∧
      (∀ (j : Nat) (a : Addr), as[j]? = some a → ∃ items, s.heap.IsTuple a items ∧ items[i]? = us[j]?) ∧ (∀ (j : Nat) (a : Addr), as[j]? = some a → ∃ xs : List V, SqT X.K H a xs ∧ xs[i]? = ys[j]?)
  | [], _ => ⟨[], [], .nil, rfl, rfl, fun j a h => by simp at h, fun j a h => by simp at h⟩
  | a :: as, C => by
    obtain ⟨xs, hq, hn⟩ := C a List.mem_cons_self
    obtain ⟨ys, us, v, l1, l2, p1, p2⟩ := cols_at I hi (as := as) fun b hb => C b (List.mem_cons_of_mem _ hb)
    obtain ⟨its, rv, p, _⟩ := I.tuple hq
    have hx : xs[i]? = some xs[i] := List.getElem?_eq_getElem (by omega)
    obtain ⟨u, hu, ru⟩ := rv.get hx
    refine ⟨xs[i] :: ys, u :: us, .cons ru v, by rw [List.length_cons, List.length_cons, l1], by rw [List.length_cons, List.length_cons, l2], fun j b h => ?_, fun j b h => ?_⟩
    · cases j with
      | zero =>
        cases h
        exact ⟨_, p, by simpa using hu⟩
      | succ j => exact p1 j b h
    · cases j with
      | zero =>
        cases h
        exact ⟨xs, hq, hx⟩
      | succ j => exact p2 j b h
theorem turn_zipN {P : Program} {w : World} {K : PySem.W.Frag} {nm : Str} {npos : Pos} {z TI TO : Addr} {its as : List Addr} {n : Nat} (D : ZAp z TI TO its as) (hk : its ≠ []) (hz8 : its.length ≤ 100000) :
    Turn P w K (.Name nm npos) (ItzN K as n) (z :: TI :: TO :: its) z (fun i h => ZSt h z TI TO its as i) where
  mem := List.mem_cons_self
  obj := fun i h st c hc => by
    obtain ⟨⟨f0, f1, hz, _⟩, hTI, ⟨us, _, hTO⟩, hit⟩ := st
    rcases List.mem_cons.mp hc with rfl | hc
    · exact ⟨_, hz, fun v q => nomatch q⟩
    rcases List.mem_cons.mp hc with rfl | hc
    · exact ⟨_, hTI, fun v q => nomatch q⟩
    rcases List.mem_cons.mp hc with rfl | hc
    · exact ⟨_, hTO, fun v q => nomatch q⟩
    obtain ⟨j, hj, rfl⟩ := List.mem_iff_getElem.mp hc
    have hja : j < as.length := by rw [← D.len]; exact hj
    obtain ⟨o, e, _, d⟩ := hit j _ _ (List.getElem?_eq_getElem hj) (List.getElem?_eq_getElem hja)
    exact ⟨o, e, fun v q => by rw [d] at q; cases q⟩
  keep := fun i h h' st k => by
    obtain ⟨⟨f0, f1, hz, a, b⟩, hTI, ⟨us, hu, hTO⟩, hit⟩ := st
    refine ⟨⟨f0, f1, k z (by simp) _ hz, a, b⟩, k TI (by simp) _ hTI, ⟨us, hu, k TO (by simp) _ hTO⟩, fun j t a h1 h2 => ?_⟩
    exact (hit j t a h1 h2).at fun o q => k t (by simp [List.mem_of_getElem? h1]) o q
  item := by
    intro X hP hw hK hc i pins s σ H E I hf st hg
    subst hP hw hK
    obtain ⟨hi, C⟩ := hg
    obtain ⟨ys, us, rv, l1, l2, p1, p2⟩ := cols_at I hi C
    have hzl : z < s.heap.objs.size := by
      obtain ⟨⟨f0, f1, hz, _⟩, _⟩ := st
      exact Heap.lt_size hz
    refine pyNext_item D hk hz8 st (by rw [l2, D.len]) p1 fun h' st' hT hsz hkp => ?_
    refine ⟨_, rfl, ?_⟩
    show wpAny _ _ (pure ()) _ _ _
    refine wpAny_pure ?_
    have new : ObjOk X.prog X.w (upd H s.heap.objs.size (.tup ys)) h' s.heap.objs.size (.tup ys) :=
      ⟨by show ys.length ≤ sizeLine; rw [l1, ← D.len]; exact Nat.le_trans hz8 (by decide), us, rv, ⟨_, hT, rfl, _, rfl⟩⟩
    have I1 : Inv X pins σ (upd H s.heap.objs.size (.tup ys)) { s with heap := h' } :=
      I.turnedNew (t' := s.toks) (ch := z :: TI :: TO :: its) (fun c o hb q => by
        simp only [List.mem_cons, not_or] at hb
        exact hkp c o hb.1 hb.2.2.1 hb.2.2.2 q) hf (Nat.le_refl _) new
    refine ⟨.ref s.heap.objs.size, _, I1, rfl, ⟨_, ys, rfl, I.hok.fresh (Nat.le_refl _), rfl, l1, fun j a xs ha hq => ?_⟩, st', fun c hcm => ?_⟩
    · obtain ⟨xs', hq', e⟩ := p2 j a ha
      rw [I.tuple_inj hq hq']
      exact e
    · have hlt : c < s.heap.objs.size := by
        obtain ⟨⟨f0, f1, hz, _⟩, hTI, ⟨us, _, hTO⟩, hit⟩ := st
        rcases List.mem_cons.mp hcm with rfl | hc
        · exact Heap.lt_size hz
        rcases List.mem_cons.mp hc with rfl | hc
        · exact Heap.lt_size hTI
        rcases List.mem_cons.mp hc with rfl | hc
        · exact Heap.lt_size hTO
        obtain ⟨j, hj, rfl⟩ := List.mem_iff_getElem.mp hc
        have hja : j < as.length := by rw [← D.len]; exact hj
        obtain ⟨o, e, _, d⟩ := hit j _ _ (List.getElem?_eq_getElem hj) (List.getElem?_eq_getElem hja)
        exact Heap.lt_size e
      rw [upd_ne (Nat.ne_of_lt hlt)]
      exact (hf c hcm).1
  done := by
    intro X hP hw hK hc i pins s σ H E I hf st hg
    subst hP hw hK
    obtain ⟨hi, C⟩ := hg
    refine pyNext_end (I.ok.hd hc) D hk st (fun a ha => ?_) fun h' hkp => ⟨rfl, I.turnedL (t' := s.toks) (ch := z :: TI :: TO :: its) (fun c o hb q => ?_) hf⟩
    · obtain ⟨xs, hq, hn⟩ := C a ha
      obtain ⟨its, rv, p, _⟩ := I.tuple hq
      have := rv.length
      exact ⟨_, p, by simp; omega⟩
    · simp only [List.mem_cons, not_or] at hb
      exact hkp c o hb.1 hb.2.2.1 hb.2.2.2 q
  self := fun A i s Q E st h => by
    obtain ⟨⟨f0, f1, hz, _⟩, _⟩ := st
    have hT : s.TypeIs (.ref z) "zip" := ⟨_, hz, rfl⟩
    refine wpAny_pyIter_slot hT F.slot_zip_iter (wpAny_call_entry F.slot_zip_iter hT F.entry_zip_iter ?_ (F.args_zip_iter_1 _))
    show wpAny _ _ (ret (.ref z)) _ _ s
    exact wpAny_pure ⟨_, rfl, "zip", _, hT, F.slot_zip_next.lookup, h⟩
def iZipN (K : PySem.W.Frag) (te : TE) : TI := fun σ H R => te σ H fun x H1 => ∃ (l : Addr) (as : List Addr) (n : Nat), x = .ref l ∧ SqL K H1 l (as.map V.ref) ∧ as ≠ [] ∧ as.length ≤ 100000 ∧ Cols K H1 as n ∧ R (ItzN K as n) H1
theorem vals_refs : ∀ {as : List Addr} {us : List Value}, Vals (as.map V.ref) us → us = as.map Value.ref
  | [], us, h => by
    cases h
    rfl
  | a :: as, us, h => by
    cases h with
    | cons r rr =>
      have := vals_refs rr
      subst this
      cases r
      rfl
theorem pi_zipS {X : Cx} {e : Expr} {te : TE} {p sp pos npos : Pos} {nm : Str} (hg : Gl X "zip") (hm : X.mg "zip" = none) (he : PE X e te)
    (hst : starEach [.Starred e sp] X.env = [(true, eval e X.env)] := by rfl) :
    PI X (.Name nm npos) (.Call (.Name "zip" p) [.Starred e sp] [] pos) (iZipN X.K te) := by
  refine ⟨fun pins s σ H R I h => ?_⟩
  refine Call_ (ld_blt I hg hm PyProof.Rows.boot_zip ?_)
  rw [hst]
  refine PySem.W.ks_call (P := fun _ => True) rfl (fun h _ => ⟨.machine, .inr (.inl rfl), PySem.W.Looks.of_pure rfl⟩) (PySem.W.ks_lone (thn (he.run pins s σ H _ I h) fun v s1 ⟨y, H1, I1, ry, l, as, n, ey, hq, hne, hl, C, q⟩ => ?_))
  subst ey
  obtain rfl : v = Value.ref l := ry
  refine StX.star_lst I1 hq fun us s2 I2 rv => ⟨trivial, ?_⟩
  have hus := vals_refs rv
  subst hus
  cases as with
  | nil => exact absurd rfl hne
  | cons a as =>
  have hI : ∀ b ∈ a :: as, ∃ items, s2.heap.IsTuple b items := fun b hb => by
    obtain ⟨xs, hq, _⟩ := C b hb
    obtain ⟨its, rv, p, _⟩ := I2.tuple hq
    exact ⟨_, p⟩
  have hlt : ∀ b ∈ a :: as, b < s2.heap.objs.size := fun b hb => by
    obtain ⟨items, o, ho, _⟩ := hI b hb
    exact Heap.lt_size ho
  show wpAny _ _ (call (.type "zip") ((a :: as).map Value.ref)) _ _ _
  refine call_zipN hI hl fun h' N => ?_
  have D : ZAp (s2.heap.objs.size + (a :: as).length + 2) (s2.heap.objs.size + (a :: as).length) (s2.heap.objs.size + (a :: as).length + 1) (List.range' s2.heap.objs.size (a :: as).length) (a :: as) := by
    have mr : ∀ t : Nat, t ∈ List.range' (s2.heap.objs.size : Nat) (a :: as).length → (s2.heap.objs.size : Nat) ≤ t ∧ t < (s2.heap.objs.size : Nat) + (a :: as).length := fun t ht => List.mem_range'_1.mp ht
    have hlt' : ∀ b : Nat, b ∈ (show List Nat from a :: as) → b < (s2.heap.objs.size : Nat) := hlt
    have n1 : ∀ x k : Nat, x + k ≠ x + k + 2 := fun x k => by omega
    have n2 : ∀ x k : Nat, x + k + 1 ≠ x + k + 2 := fun x k => by omega
    have n3 : ∀ x k : Nat, x + k ≠ x + k + 1 := fun x k => by omega
    refine ⟨n1 _ _, n2 _ _, n3 _ _, fun q => ?_, fun q => ?_, fun q => ?_, List.nodup_range', fun q => ?_, fun q => ?_, fun t ht q => ?_, by rw [List.length_range']⟩
    · have := mr _ q; omega
    · have := mr _ q; omega
    · have := mr _ q; omega
    · have := hlt' _ q; omega
    · have := hlt' _ q; omega
    · have := hlt' _ q; have := mr _ ht; omega
  have I3 : Inv X pins σ H1 { s2 with heap := h' } := I2.kept (t' := s2.toks) N.k
  obtain ⟨⟨f0, f1, hz, hf⟩, r⟩ := id N.st
  have hT : Shared.TypeIs { s2 with heap := h' } (.ref (s2.heap.objs.size + (a :: as).length + 2)) "zip" := ⟨_, hz, rfl⟩
  have T : Turn X.prog X.w X.K (.Name nm npos) (ItzN X.K (a :: as) n) _ _ _ := turn_zipN (n := n) D (by rw [← List.length_pos_iff, List.length_range']; exact Nat.succ_pos _) (by rw [List.length_range']; exact hl)
  refine T.self _ 0 { s2 with heap := h' } _ _ N.st ?_
  refine ⟨_, _, _, _, H1, rfl, I3, T, N.st, fun c hcm => ?_, q⟩
  have hle : s2.heap.objs.size ≤ c := by
    rcases List.mem_cons.mp hcm with rfl | hc
    · omega
    rcases List.mem_cons.mp hc with rfl | hc
    · omega
    rcases List.mem_cons.mp hc with rfl | hc
    · omega
    exact (List.mem_range'_1.mp hc).1
  exact I2.fpOk hle (I2.hok.fresh hle)
end OZ

set_option Elab.async false
set_option linter.all false
set_option maxRecDepth 100000
set_option maxHeartbeats 2000000
/-! min, max of a tuple of ints -/
namespace OZ
open PySem PySem.Spec PyProof.Rows L2
section
variable {prog : Program} {w : World} {A : Around} {E : Value → Shared → Prop} {s : Shared} {l : Addr}
theorem iter_intTup {xs : Array (Int × Tok)} {Q : Value → Shared → Prop} (hl : s.heap.IsTuple l (intItems xs))
    (h : ∀ s₂ : Shared, s₂ = { s with heap := s.heap.push { cls := .type "tuple_iterator", data := .fields #[.ref l, .int 0 0] } } →
      (s₂.heap.IsTupleIter s.heap.objs.size l 0 ∧ s₂.heap.IsTuple l (intItems xs)) → (∀ b ∈ [s.heap.objs.size, l], b < s₂.heap.objs.size) → l ≠ s.heap.objs.size → Q (.ref s.heap.objs.size) s₂) :
    wpAny (model prog w) A (pyIter (.ref l)) Q E s := by
  have hlt : l < s.heap.objs.size := by obtain ⟨_, e, _⟩ := hl; exact Heap.lt_size e
  refine wpAny_pyIter_tuple hl (h _ rfl ⟨⟨_, Heap.get?_push_size _ rfl, rfl, rfl⟩, hl.push _⟩ (fun b hb => ?_) (Nat.ne_of_lt hlt))
  show b < (s.heap.push _).objs.size
  rw [Heap.size_push]
  rcases List.mem_cons.mp hb with rfl | hb
  · exact Nat.lt_succ_self _
  · rcases List.mem_cons.mp hb with rfl | hb
    · exact Nat.lt_succ_of_lt hlt
    · cases hb
theorem old_keptT {h' : Heap} {o0 : Obj} (hk : ∀ c o, c ∉ [s.heap.objs.size] → (s.heap.push o0).get? c = some o → h'.get? c = some o) : ∀ c o, s.heap.get? c = some o → h'.get? c = some o := fun c o e => by
  refine hk c o (fun hm => ?_) (Heap.get?_push_of_some _ e)
  rcases List.mem_cons.mp hm with e1 | hm
  · have := Heap.lt_size e
    rw [e1] at this
    exact Nat.lt_irrefl _ this
  · cases hm
theorem max_intTup {xs : Array (Int × Tok)} {Q : Value → Shared → Prop} (hh : A.handled = none) (hl : s.heap.IsTuple l (intItems xs)) (hne : 0 < xs.size)
    (h : ∀ v h' tk, (intItems xs)[argBest (fun i j => decide (numAt xs i > numAt xs j)) (xs.size - 1)]? = some v → (∀ b o, s.heap.get? b = some o → h'.get? b = some o) → Q v { s with heap := h', toks := tk }) :
    wpAny (model prog w) A (call (.builtin "max") [.ref l]) Q E s := by
  refine call_max_walk (iter_intTup hl fun s₂ e st hfp hlI => ?_)
  subst e
  refine ⟨_, _, _, _, _, _, _, rfl, Walks.tuple (A := A.in1) hh _ l hlI (intItems xs), st, hfp, by simpa [intItems] using hne, CmpOf.ints_gt (numAt xs) (fun _ _ => intItems_at), fun v h' tk hP hk => ?_⟩
  exact h v h' tk (by simpa [intItems] using hP) (old_keptT hk)
theorem min_intTup {xs : Array (Int × Tok)} {Q : Value → Shared → Prop} (hh : A.handled = none) (hl : s.heap.IsTuple l (intItems xs)) (hne : 0 < xs.size)
    (h : ∀ v h' tk, (intItems xs)[argBest (fun i j => decide (numAt xs i < numAt xs j)) (xs.size - 1)]? = some v → (∀ b o, s.heap.get? b = some o → h'.get? b = some o) → Q v { s with heap := h', toks := tk }) :
    wpAny (model prog w) A (call (.builtin "min") [.ref l]) Q E s := by
  refine call_min_walk (iter_intTup hl fun s₂ e st hfp hlI => ?_)
  subst e
  refine ⟨_, _, _, _, _, _, _, rfl, Walks.tuple (A := A.in1) hh _ l hlI (intItems xs), st, hfp, by simpa [intItems] using hne, CmpOf.ints_lt (numAt xs) (fun _ _ => intItems_at), fun v h' tk hP hk => ?_⟩
  exact h v h' tk (by simpa [intItems] using hP) (old_keptT hk)
variable {its : List Value} {ns : List Int} {Q : Value → Shared → Prop}
theorem maxT_raw (hh : A.handled = none) (hl : s.heap.IsTuple l its.toArray) (hi : IntsAre its ns) (hne : 0 < ns.length)
    (h : ∀ h' tk M t', (∀ b o, s.heap.get? b = some o → h'.get? b = some o) → M ∈ ns → (∀ a, a ∈ ns → a ≤ M) → Q (.int M t') { s with heap := h', toks := tk }) : wpAny (model prog w) A (call (.builtin "max") [.ref l]) Q E s := by
  obtain ⟨xs, e⟩ := hi.allInts.items
  have hn : numsOf (intItems xs).toList = ns := by rw [← e]; exact hi.numsOf
  rw [nums_intItems] at hn
  subst hn
  rw [e] at hl
  have hsz : 0 < xs.size := by simpa using hne
  refine max_intTup hh hl hsz fun v h' tk hv hk => ?_
  obtain ⟨t, rfl⟩ := intItems_at hv
  obtain ⟨h1, h2⟩ := argBest_gt (numAt xs) (xs.size - 1)
  refine h h' tk _ t hk ?_ fun a ha => ?_
  · rw [numAt_eq]; exact PySem.getD_mem (by rw [List.length_map, Array.length_toList]; omega)
  · obtain ⟨j, hj, rfl⟩ := mem_getD ha
    rw [List.length_map, Array.length_toList] at hj
    rw [← numAt_eq]; exact h2 j (by omega)
theorem minT_raw (hh : A.handled = none) (hl : s.heap.IsTuple l its.toArray) (hi : IntsAre its ns) (hne : 0 < ns.length)
    (h : ∀ h' tk M t', (∀ b o, s.heap.get? b = some o → h'.get? b = some o) → M ∈ ns → (∀ a, a ∈ ns → M ≤ a) → Q (.int M t') { s with heap := h', toks := tk }) : wpAny (model prog w) A (call (.builtin "min") [.ref l]) Q E s := by
  obtain ⟨xs, e⟩ := hi.allInts.items
  have hn : numsOf (intItems xs).toList = ns := by rw [← e]; exact hi.numsOf
  rw [nums_intItems] at hn
  subst hn
  rw [e] at hl
  have hsz : 0 < xs.size := by simpa using hne
  refine min_intTup hh hl hsz fun v h' tk hv hk => ?_
  obtain ⟨t, rfl⟩ := intItems_at hv
  obtain ⟨h1, h2⟩ := argBest_lt (numAt xs) (xs.size - 1)
  refine h h' tk _ t hk ?_ fun a ha => ?_
  · rw [numAt_eq]; exact PySem.getD_mem (by rw [List.length_map, Array.length_toList]; omega)
  · obtain ⟨j, hj, rfl⟩ := mem_getD ha
    rw [List.length_map, Array.length_toList] at hj
    rw [← numAt_eq]; exact h2 j (by omega)
end
section
variable {X : Cx}
/-- max(t), min(t) of a tuple of ints -/
def rMaxT (K : PySem.W.Frag) : List V → Hp → VK → Prop := fun vs H Q => ∃ (a : Addr) (ns : List Int), vs = [V.ref a] ∧ SqT K H a (ns.map V.int) ∧ 0 < ns.length ∧ ∀ m, m ∈ ns → (∀ y, y ∈ ns → y ≤ m) → Q (.int m) H
def rMinT (K : PySem.W.Frag) : List V → Hp → VK → Prop := fun vs H Q => ∃ (a : Addr) (ns : List Int), vs = [V.ref a] ∧ SqT K H a (ns.map V.int) ∧ 0 < ns.length ∧ ∀ m, m ∈ ns → (∀ y, y ∈ ns → m ≤ y) → Q (.int m) H
theorem cr_maxT (hc : X.calm = true) : CallR X (.builtin "max") (rMaxT X.K) := by
  intro pins s σ H vs us Q I r h
  obtain ⟨a, ns, rfl, hs, hne, q⟩ := h
  obtain ⟨its, rv, hl, _⟩ := I.tuple hs
  rw [Vals.ref1 r]
  exact maxT_raw (I.ok.hd hc) hl rv.ints hne fun h' tk m t' hk h1 h2 => ⟨.int _, H, I.kept hk, ⟨_, rfl⟩, q m h1 h2⟩
theorem cr_minT (hc : X.calm = true) : CallR X (.builtin "min") (rMinT X.K) := by
  intro pins s σ H vs us Q I r h
  obtain ⟨a, ns, rfl, hs, hne, q⟩ := h
  obtain ⟨its, rv, hl, _⟩ := I.tuple hs
  rw [Vals.ref1 r]
  exact minT_raw (I.ok.hd hc) hl rv.ints hne fun h' tk m t' hk h1 h2 => ⟨.int _, H, I.kept hk, ⟨_, rfl⟩, q m h1 h2⟩
end
end OZ

set_option Elab.async false
set_option linter.all false
set_option maxRecDepth 100000
set_option maxHeartbeats 2000000
namespace OT
open PySem PySem.Spec PyProof.Rows L2
/-- the least numbers of the places, direction by direction -/
def IsLow (es : List Ent) (l : Pl) : Prop := ∀ (k : Nat) (y : Int), l[k]? = some y → (∃ e ∈ es, e.1[k]? = some y) ∧ ∀ e ∈ es, ∀ x, e.1[k]? = some x → y ≤ x
def IsTop (es : List Ent) (l : Pl) : Prop := ∀ (k : Nat) (y : Int), l[k]? = some y → (∃ e ∈ es, e.1[k]? = some y) ∧ ∀ e ∈ es, ∀ x, e.1[k]? = some x → x ≤ y
theorem IsLow.one {es : List Ent} {l m : Pl} (hl : l.length = m.length) (h1 : IsLow es l) (h2 : IsLow es m) : l = m := by
  refine List.ext_getElem? fun k => ?_
  by_cases c : k < l.length
  · have d : k < m.length := by omega
    rw [List.getElem?_eq_getElem c, List.getElem?_eq_getElem d]
    obtain ⟨⟨e, he, hk⟩, a1⟩ := h1 k _ (List.getElem?_eq_getElem c)
    obtain ⟨⟨f, hf, hk2⟩, a2⟩ := h2 k _ (List.getElem?_eq_getElem d)
    have := a1 f hf _ hk2
    have := a2 e he _ hk
    exact congrArg some (by omega)
  · rw [List.getElem?_eq_none (by omega), List.getElem?_eq_none (by omega)]
theorem IsTop.one {es : List Ent} {l m : Pl} (hl : l.length = m.length) (h1 : IsTop es l) (h2 : IsTop es m) : l = m := by
  refine List.ext_getElem? fun k => ?_
  by_cases c : k < l.length
  · have d : k < m.length := by omega
    rw [List.getElem?_eq_getElem c, List.getElem?_eq_getElem d]
    obtain ⟨⟨e, he, hk⟩, a1⟩ := h1 k _ (List.getElem?_eq_getElem c)
    obtain ⟨⟨f, hf, hk2⟩, a2⟩ := h2 k _ (List.getElem?_eq_getElem d)
    have := a1 f hf _ hk2
    have := a2 e he _ hk
    exact congrArg some (by omega)
  · rw [List.getElem?_eq_none (by omega), List.getElem?_eq_none (by omega)]
section
variable {P : Program} {w : World} {K : PySem.W.Frag} {mg : Str → Option Value} {base : Heap}
def spExt (K : PySem.W.Frag) (IS : List Ent → Pl → Prop) : Sp := fun vs H Q _ => ∃ (a : Addr) (xs : List V) (es : List Ent) (n : Nat), vs = [.ref a] ∧ SqL K H a xs ∧ Ents H xs es ∧ 0 < es.length ∧ es.length ≤ 1000 ∧ (∀ e ∈ es, e.1.length = n) ∧ n ≤ 3 ∧ ∀ p H' (l : Pl), l.length = n → IS es l → Same H H' → H' p = some (.tup (l.map V.int)) → Q (.ref p) H'
theorem c__law_corner {f : Addr} {fd : FuncData} (D : C8.Def K mg "_law_corner" s__law_corner f fd) (b : Binds K fd ["_law_row_here"] []) (T : Bi mg) : C8.Cal P w K mg base 1 "_law_corner" (spExt K IsLow) [] := by
  refine C8.cal0 D b .nil sc__law_corner (fun vs H Q E h => ?_) (fun cdv A outer s H vs Q E hr h => ?_)
  · obtain ⟨a, xs, es, n, rfl, _⟩ := h
    rfl
  · obtain ⟨a, xs, es, n, rfl, hSL, hE, hpos, hz, hn, hn3, q⟩ := h
    refine ⟨_, (pss_one (ps_ret (pe_callTy call_tuple_of (by rfl) T.n_tuple OT.b_tuple (pa_cons (pe_lc (own := [("_law_k", 1)]) (g := (gName 1)) (tt := tYes) rfl sc__law_corner.nd (pi_range1 rfl T.n_range (pa_cons (pe_callB call_len_seq (by rfl) T.n_len OT.b_len (pa_cons (pe_ix ix_tup (pe_ix ix_list (pv 0) pe_int (fun _ _ => rfl)) pe_int (fun _ _ => rfl)) pa_nil)) pa_nil)) (blkOk_by (N := ["_law_row_here", "_law_k", "_law_entry"]) (sc := C8.fnScope s__law_corner) (by decide +kernel)) (fun _ _ _ _ _ => (pg_name (i := 1) sc__law_corner.nd rfl (Or.inr rfl))) (fun _ _ _ _ _ => pts_nil) (fun _ _ _ _ _ => (pe_callB (show CallR _ _ (rMin K) from cr_min rfl) (by rfl) T.n_min OT.b_min (pa_cons (pe_lc (own := [("_law_entry", 2)]) (g := (gName 2)) (tt := tYes) rfl sc__law_corner.nd (show PI _ _ _ (iList K (tVar 0)) from pi_list (pe_var (i := 0) rfl (.inr (.inl rfl)))) (blkOk_by (N := ["_law_row_here", "_law_k", "_law_entry"]) (sc := { kind := .function, names := [(".0", .local), ("_law_k", .cell), ("min", .globalImplicit), ("_law_row_here", .cell)], isGenerator := false, isCoroutine := false }) (by decide +kernel)) (fun _ _ _ _ _ => (pg_name (i := 2) sc__law_corner.nd rfl (Or.inl rfl))) (fun _ _ _ _ _ => pts_nil) (fun _ _ _ _ _ => (pe_ix (show IxR _ (rIxT K) from ix_tup) (pe_ix (show IxR _ (rIxT K) from ix_tup) (pv 2) pe_int (fun _ _ => rfl)) (pv 1) (fun _ _ => rfl)))) pa_nil)))) pa_nil)))), ?_⟩
    have hx := hE.len
    obtain ⟨v0, hv0, t0, p0, rfl, ht0, hp0⟩ := hE.at (i := 0) hpos
    have hn0 : (es[0]'hpos).1.length = n := hn _ (List.getElem_mem hpos)
    refine ⟨_, rfl, a, _, 0, _, rfl, rfl, hSL, atI_nat (j := 0) hv0, t0, _, 0, _, rfl, rfl, .inl (.inl ht0), atI_nat (j := 0) rfl, p0, _, rfl, .inr (.inl (.inl hp0)), _, rfl, by omega, b62 (by rw [List.length_map]; omega), fun p np => ?_⟩
    rw [List.length_map, hn0, Int.toNat_natCast]
    refine lc_range (lo := 0) (n := n) (fun i H2 => Same H H2 ∧ ∃ ls : Pl, ls.length = i ∧ IsLow es ls ∧ H2 p = some (.lst (ls.map V.int))) ⟨same_upd np, [], rfl, fun k y h => by simp at h, upd_same⟩ ?_ ?_
    · rintro i H2 hi ⟨sm, ls, hll, hls, hp⟩
      refine ⟨rfl, tYes_of ?_⟩
      refine ⟨_, rfl, a, rfl, ⟨_, sm.seq hSL⟩, fun p3 np3 => ?_⟩
      have e0 : (0 : Int) + (i : Int) = (i : Int) := Int.zero_add _
      refine lc_list (K := K) (xs := xs) (fun j H3 => Same H2 H3 ∧ H3 p3 = some (.lst ((es.take j).map fun e => V.int (e.1.getD i 0)))) ?_ ?_ ?_ ?_
      · exact ⟨same_upd np3, upd_same⟩
      · rintro j H3 _ ⟨sm3, _⟩
        exact sm3.seq (sm.seq hSL)
      · rintro j x H3 hxj ⟨sm3, hp3⟩
        obtain ⟨e, he, t, pe, rfl, ht, hpe⟩ := (hE.mono (sm.trans sm3)).get hxj
        have hel : e.1.length = n := hn e (List.mem_of_getElem? he)
        refine ⟨rfl, tYes_of ?_⟩
        have hat : atI (e.1.map V.int) ((0 : Int) + (i : Int)) = some (.int (e.1.getD i 0)) := by
          rw [e0]
          refine atI_nat ?_
          have hil : i < e.1.length := by omega
          rw [List.getElem?_map, List.getElem?_eq_getElem hil, List.getD_eq_getElem?_getD, List.getElem?_eq_getElem hil]
          rfl
        refine ⟨_, rfl, t, _, 0, _, rfl, rfl, .inl (.inl ht), atI_nat (j := 0) rfl, _, rfl, pe, _, _, _, rfl, rfl, .inl (.inl hpe), hat, _, hp3, ?_, same_mut sm3 np3, ?_⟩
        · rw [List.length_map, List.length_take]
          exact small1000 (by omega)
        · rw [upd_same, take_snoc he, List.map_append]
          rfl
      · rintro H3 ⟨sm3, hp3⟩
        rw [hx, List.take_length] at hp3
        refine ⟨p3, es.map fun e => e.1.getD i 0, rfl, .inl (.inl (by rw [hp3, List.map_map]; rfl)), by rw [List.length_map]; exact hpos, fun m hm1 hm2 => ?_⟩
        have hD := sm3 _ _ hp
        refine ⟨_, hD, ?_, same_mut (sm.trans sm3) np, ls ++ [m], by rw [List.length_append, hll]; rfl, ?_, ?_⟩
        · rw [List.length_map, hll]
          exact small100k (by omega)
        · intro k y hk
          have getD_some : ∀ e ∈ es, ∀ z, e.1[i]? = some z ↔ e.1.getD i 0 = z := fun e he z => by
            have hil : i < e.1.length := by rw [hn e he]; exact hi
            rw [List.getD_eq_getElem?_getD, List.getElem?_eq_getElem hil]
            exact ⟨fun h => Option.some.inj h, fun h => congrArg some h⟩
          by_cases hki : k < i
          · rw [List.getElem?_append_left (by omega)] at hk
            exact hls k y hk
          · by_cases e : k = i
            · subst e
              rw [List.getElem?_append_right (by omega), hll, Nat.sub_self] at hk
              have hk : m = y := Option.some.inj hk
              subst hk
              obtain ⟨e, he, hem⟩ := List.mem_map.mp hm1
              refine ⟨⟨e, he, (getD_some e he m).mpr hem⟩, fun e' he' x hx' => ?_⟩
              have := hm2 _ (List.mem_map_of_mem (f := fun e : Ent => e.1.getD k 0) he')
              rw [← (getD_some e' he' x).mp hx']
              exact this
            · rw [List.getElem?_eq_none (by rw [List.length_append, hll]; show i + 1 ≤ k; omega)] at hk
              cases hk
        · rw [upd_same, List.map_append]
          rfl
    · rintro H2 ⟨sm, ls, hll, hls, hp⟩
      refine ⟨p, _, rfl, .inl ⟨.inl (.inl hp), fun l4 nl4 => ?_⟩⟩
      exact q l4 _ ls hll hls (sm.trans (same_upd nl4)) upd_same
end
end OT

set_option Elab.async false
set_option linter.all false
set_option maxRecDepth 100000
set_option maxHeartbeats 2000000
namespace OT
open PySem PySem.Spec PyProof.Rows L2
def YN (K : PySem.W.Frag) (as : List Addr) (i : Nat) (H : Hp) (v : V) (H' : Hp) : Prop := ∃ T ys, v = .ref T ∧ H T = none ∧ H' = upd H T (.tup ys) ∧ ys.length = as.length ∧ ∀ (j : Nat) (a : Addr) (xs : List V), as[j]? = some a → SqT K H a xs → xs[i]? = ys[j]?
theorem walk_zipN {K : PySem.W.Frag} {as : List Addr} {n : Nat} : Walk (OZ.ItzN K as n) n (fun H => OZ.Cols K H as n) (YN K as) := by
  refine ⟨fun i _ hi q => ⟨hi, q⟩, fun _ q => ⟨Nat.le_refl _, q⟩, fun i H v H' _ q y => y⟩
/-- a list of pairs -/
structure Prs (H : Hp) (ws : List V) (lo hi : Pl) : Prop where
  l1 : ws.length = lo.length
  l2 : lo.length = hi.length
  at_ : ∀ (k : Nat) (v : V), ws[k]? = some v → ∃ t x y, v = .ref t ∧ lo[k]? = some x ∧ hi[k]? = some y ∧ H t = some (.tup [.int x, .int y])
theorem Prs.mono {H H' : Hp} {ws : List V} {lo hi : Pl} (s : ∀ b o, H b = some o → H' b = some o) (h : Prs H ws lo hi) : Prs H' ws lo hi :=
  ⟨h.l1, h.l2, fun k v e => by
    obtain ⟨t, x, y, a, b, c, d⟩ := h.at_ k v e
    exact ⟨t, x, y, a, b, c, s _ _ d⟩⟩
theorem Prs.updL {H : Hp} {D : Addr} {l l' : List V} {ws : List V} {lo hi : Pl} (hD : H D = some (.lst l)) (h : Prs H ws lo hi) : Prs (upd H D (.lst l')) ws lo hi :=
  ⟨h.l1, h.l2, fun k v e => by
    obtain ⟨t, x, y, a, b, c, d⟩ := h.at_ k v e
    exact ⟨t, x, y, a, b, c, by rw [upd_ne (ne_lst d hD)]; exact d⟩⟩
theorem Prs.snoc {H : Hp} {ws : List V} {lo hi : Pl} {t : Addr} {x y : Int} (h : Prs H ws lo hi) (ht : H t = some (.tup [.int x, .int y])) : Prs H (ws ++ [.ref t]) (lo ++ [x]) (hi ++ [y]) := by
  have l1 := h.l1
  have l2 := h.l2
  refine ⟨by rw [List.length_append, List.length_append, l1]; rfl, by rw [List.length_append, List.length_append, l2]; rfl, fun k v e => ?_⟩
  by_cases c : k < ws.length
  · rw [List.getElem?_append_left c] at e
    obtain ⟨t, x, y, a, b, c', d⟩ := h.at_ k v e
    exact ⟨t, x, y, a, by rw [List.getElem?_append_left (by omega)]; exact b, by rw [List.getElem?_append_left (by omega)]; exact c', d⟩
  · by_cases q : k = ws.length
    · subst q
      rw [List.getElem?_append_right (by omega), Nat.sub_self] at e
      cases e
      refine ⟨t, x, y, rfl, ?_, ?_, ht⟩
      · rw [List.getElem?_append_right (by omega), ← l1, Nat.sub_self]
        rfl
      · rw [List.getElem?_append_right (by omega), ← l2, ← l1, Nat.sub_self]
        rfl
    · rw [List.getElem?_eq_none (by rw [List.length_append]; show ws.length + 1 ≤ k; omega)] at e
      cases e
theorem ext_snoc {es : List Ent} {ls : Pl} {n i : Nat} {m : Int} (hll : ls.length = i) (hi : i < n) (hn : ∀ e ∈ es, e.1.length = n) (R : Int → Int → Prop) (h : ∀ (k : Nat) (y : Int), ls[k]? = some y → (∃ e ∈ es, e.1[k]? = some y) ∧ ∀ e ∈ es, ∀ x, e.1[k]? = some x → R y x)
    (h1 : m ∈ es.map fun e => e.1.getD i 0) (h2 : ∀ y ∈ es.map (fun e => e.1.getD i 0), R m y) : ∀ (k : Nat) (y : Int), (ls ++ [m])[k]? = some y → (∃ e ∈ es, e.1[k]? = some y) ∧ ∀ e ∈ es, ∀ x, e.1[k]? = some x → R y x := by
  intro k y hk
  have getD_some : ∀ e ∈ es, ∀ z, e.1[i]? = some z ↔ e.1.getD i 0 = z := fun e he z => by
    have hil : i < e.1.length := by rw [hn e he]; exact hi
    rw [List.getD_eq_getElem?_getD, List.getElem?_eq_getElem hil]
    exact ⟨fun h => Option.some.inj h, fun h => congrArg some h⟩
  by_cases hki : k < i
  · rw [List.getElem?_append_left (by omega)] at hk
    exact h k y hk
  · by_cases e : k = i
    · subst e
      rw [List.getElem?_append_right (by omega), hll, Nat.sub_self] at hk
      have hk : m = y := Option.some.inj hk
      subst hk
      obtain ⟨e, he, hem⟩ := List.mem_map.mp h1
      refine ⟨⟨e, he, (getD_some e he m).mpr hem⟩, fun e' he' x hx' => ?_⟩
      have := h2 _ (List.mem_map_of_mem (f := fun e : Ent => e.1.getD k 0) he')
      rw [← (getD_some e' he' x).mp hx']
      exact this
    · rw [List.getElem?_eq_none (by rw [List.length_append, hll]; show i + 1 ≤ k; omega)] at hk
      cases hk
section
variable {P : Program} {w : World} {K : PySem.W.Frag} {mg : Str → Option Value} {base : Heap}
def spBounds (K : PySem.W.Frag) : Sp := fun vs H Q _ => ∃ (a : Addr) (xs : List V) (es : List Ent) (n : Nat), vs = [.ref a] ∧ SqL K H a xs ∧ Ents H xs es ∧ 0 < es.length ∧ es.length ≤ 1000 ∧ (∀ e ∈ es, e.1.length = n) ∧ n ≤ 1000 ∧ ∀ p ws H' (lo hi : Pl), lo.length = n → IsLow es lo → IsTop es hi → Same H H' → H' p = some (.lst ws) → Prs H' ws lo hi → Q (.ref p) H'
theorem c_bounds {f : Addr} {fd : FuncData} (D : C8.Def K mg "bounds" s_bounds f fd) (b : Binds K fd ["row"] []) (T : Bi mg) : C8.Cal P w K mg base 1 "bounds" (spBounds K) [] := by
  refine C8.cal0 D b .nil sc_bounds (fun vs H Q E h => ?_) (fun cdv A outer s H vs Q E hr h => ?_)
  · obtain ⟨a, xs, es, n, rfl, _⟩ := h
    rfl
  · obtain ⟨a, xs, es, n, rfl, hSL, hE, hpos, hz, hn, hn3, q⟩ := h
    refine ⟨_, (pss_cons (ps_setLc (i := 1) (own := [("place", 3), ("number", 4)]) (g := (gTup K 2 (gCons (gName 3) (gCons (gName 4) gNil)))) (tt := tYes) rfl sc_bounds.nd rfl rfl (sw_true rfl rfl rfl rfl) (pi_list (pv 0)) (blkOk_by (N := ["row", "places", "column", "place", "number"]) (sc := C8.fnScope s_bounds) (by decide +kernel)) (fun _ _ _ _ _ => (pg_tup rfl (pgs_cons (pg_name (i := 3) sc_bounds.nd rfl (Or.inl rfl)) (pgs_cons (pg_name (i := 4) sc_bounds.nd rfl (Or.inl rfl)) pgs_nil)))) (fun _ _ _ _ _ => pts_nil) (fun _ _ _ _ _ => (pv 3)))
  (pss_one (ps_ret (pe_lc (own := [("column", 2)]) (g := (gName 2)) (tt := tYes) rfl sc_bounds.nd (OZ.pi_zipS (by rfl) T.n_zip (pv 1)) (blkOk_by (N := ["row", "places", "column", "place", "number"]) (sc := C8.fnScope s_bounds) (by decide +kernel)) (fun _ _ _ _ _ => (pg_name (i := 2) sc_bounds.nd rfl (Or.inl rfl))) (fun _ _ _ _ _ => pts_nil) (fun _ _ _ _ _ => (pe_tup (pa_cons (pe_callB (show CallR _ _ (OZ.rMinT K) from OZ.cr_minT rfl) (by rfl) T.n_min OT.b_min (pa_cons (pv 2) pa_nil)) (pa_cons (pe_callB (show CallR _ _ (OZ.rMaxT K) from OZ.cr_maxT rfl) (by rfl) T.n_max OT.b_max (pa_cons (pv 2) pa_nil)) pa_nil)))))))), ?_⟩
    have hx := hE.len
    refine ⟨_, rfl, a, rfl, ⟨_, hSL⟩, fun p np => ?_⟩
    refine lc_list (K := K) (xs := xs) (fun i H2 => Same H H2 ∧ ∃ as : List Addr, as.length = i ∧ H2 p = some (.lst (as.map V.ref)) ∧ ∀ (j : Nat) (a : Addr), as[j]? = some a → ∃ e, es[j]? = some e ∧ H a = some (.tup (e.1.map V.int))) ?_ ?_ ?_ ?_
    · exact ⟨same_upd np, [], rfl, upd_same, fun j a h => by simp at h⟩
    · rintro i H2 _ ⟨sm, _⟩
      exact sm.seq hSL
    · rintro i x H2 hxi ⟨sm, as, hal, hp, hA⟩
      obtain ⟨e, he, t, pe, rfl, ht, hpe⟩ := hE.get hxi
      obtain ⟨hi, hee⟩ := List.getElem?_eq_some_iff.mp he
      refine ⟨t, _, rfl, .inl (.inl (sm _ _ ht)), rfl, _, _, rfl, _, _, rfl, rfl, rfl, tYes_of ?_⟩
      refine ⟨_, rfl, _, hp, ?_, same_mut sm np, as ++ [pe], by rw [List.length_append, hal]; rfl, ?_, fun j a' h => ?_⟩
      · rw [List.length_map]
        exact small1000 (by omega)
      · rw [upd_same, List.map_append]
        rfl
      · by_cases c : j < as.length
        · rw [List.getElem?_append_left c] at h
          exact hA j a' h
        · by_cases d : j = as.length
          · subst d
            rw [List.getElem?_append_right (by omega), Nat.sub_self] at h
            cases h
            rw [hal]
            exact ⟨e, he, hpe⟩
          · rw [List.getElem?_eq_none (by rw [List.length_append]; show as.length + 1 ≤ j; omega)] at h
            cases h
    · rintro H2 ⟨sm, as, hal, hp, hA⟩
      rw [hx] at hal
      have hcol : ∀ H3, Same H H3 → OZ.Cols K H3 as n := fun H3 s3 a' ha' => by
        obtain ⟨j, hj, rfl⟩ := List.mem_iff_getElem.mp ha'
        obtain ⟨e, he, q⟩ := hA j _ (List.getElem?_eq_getElem hj)
        exact ⟨e.1.map V.int, .inl (.inl (s3 _ _ q)), by rw [List.length_map]; exact hn e (List.mem_of_getElem? he)⟩
      refine ⟨_, rfl, p, as, n, rfl, .inl (.inl hp), ?_, by omega, hcol H2 sm, fun p2 np2 => ?_⟩
      · intro z
        rw [z] at hal
        exact absurd hal (by simp; omega)
      refine lc_it (walk_zipN (K := K) (as := as) (n := n)) (fun i H3 => Same H2 H3 ∧ ∃ (ws : List V) (lo hi : Pl), lo.length = i ∧ IsLow es lo ∧ IsTop es hi ∧ H3 p2 = some (.lst ws) ∧ Prs H3 ws lo hi) ?_ ?_ ?_ ?_
      · exact ⟨same_upd np2, [], [], [], rfl, fun k y h => by simp at h, fun k y h => by simp at h, upd_same, rfl, rfl, fun k v h => by simp at h⟩
      · rintro i H3 _ ⟨sm3, _⟩
        exact hcol H3 (sm.trans sm3)
      · rintro i x H3 H4 hi ⟨sm3, ws, lo, hi2, hl, hlo, hhi, hp2, hW⟩ ⟨T1, ys, rfl, nT, rfl, hyl, hy⟩
        have hys : ys = (es.map fun e => e.1.getD i 0).map V.int := by
          refine List.ext_getElem? fun j => ?_
          by_cases c : j < as.length
          · obtain ⟨e, he, q⟩ := hA j _ (List.getElem?_eq_getElem c)
            have q2 := hy j _ (e.1.map V.int) (List.getElem?_eq_getElem c) (.inl (.inl (sm3 _ _ (sm _ _ q))))
            have hil : i < e.1.length := by rw [hn e (List.mem_of_getElem? he)]; exact hi
            rw [← q2, List.getElem?_map, List.getElem?_map, List.getElem?_map, he, List.getElem?_eq_getElem hil]
            show _ = some (V.int (e.1.getD i 0))
            rw [List.getD_eq_getElem?_getD, List.getElem?_eq_getElem hil]
            rfl
          · rw [List.getElem?_eq_none (by omega), List.getElem?_eq_none (by rw [List.length_map, List.length_map]; omega)]
        subst hys
        have sT : Same H3 (upd H3 T1 (.tup ((es.map fun e => e.1.getD i 0).map V.int))) := same_upd nT
        have hT : (upd H3 T1 (.tup ((es.map fun e => e.1.getD i 0).map V.int))) T1 = some (.tup ((es.map fun e => e.1.getD i 0).map V.int)) := upd_same
        generalize upd H3 T1 (.tup ((es.map fun e => e.1.getD i 0).map V.int)) = H4 at sT hT ⊢
        have hpos2 : 0 < (es.map fun e => e.1.getD i 0).length := by rw [List.length_map]; exact hpos
        refine ⟨rfl, tYes_of ?_⟩
        refine ⟨_, rfl, T1, _, rfl, .inl (.inl hT), hpos2, fun m hm1 hm2 => ⟨_, rfl, T1, _, rfl, .inl (.inl hT), hpos2, fun M hM1 hM2 => ⟨(by show 2 ≤ sizeLine; decide), fun t5 nt5 => ?_⟩⟩⟩
        have s5 : Same H4 (upd H4 t5 (.tup [.int m, .int M])) := same_upd nt5
        have ht5 : (upd H4 t5 (.tup [.int m, .int M])) t5 = some (.tup [.int m, .int M]) := upd_same
        generalize upd H4 t5 (.tup [.int m, .int M]) = H5 at s5 ht5 ⊢
        have sX := sT.trans s5
        have hD := sX _ _ hp2
        have hwl := hW.l1
        have hl2 := hW.l2
        refine ⟨ws, hD, small100k (by omega), same_mut (sm3.trans sX) np2, ws ++ [.ref t5], lo ++ [m], hi2 ++ [M], by rw [List.length_append, hl]; rfl, ?_, ?_, upd_same, ?_⟩
        · exact ext_snoc hl hi hn (fun y x => y ≤ x) hlo hm1 hm2
        · exact ext_snoc (hl2.symm.trans hl) hi hn (fun y x => x ≤ y) hhi hM1 hM2
        · exact ((hW.mono sX).snoc ht5).updL hD
      · rintro H3 ⟨sm3, ws, lo, hi2, hl, hlo, hhi, hp2, hW⟩
        exact q p2 ws H3 lo hi2 hl hlo hhi (sm.trans sm3) hp2 hW
end
end OT

set_option Elab.async false
set_option linter.all false
set_option maxRecDepth 100000
set_option maxHeartbeats 2000000
/-! max(xs, default=d) of a list of ints. -/
namespace OW
open PySem PySem.Spec PyProof.Rows L2
theorem maxOf_ints : ∀ (ns : List Int) (x : Int), (PySem.W.maxOf x ns = x ∨ PySem.W.maxOf x ns ∈ ns) ∧ x ≤ PySem.W.maxOf x ns ∧ ∀ y ∈ ns, y ≤ PySem.W.maxOf x ns
  | [], x => ⟨.inl rfl, Int.le_refl _, fun y h => by cases h⟩
  | n :: ns, x => by
    have e : PySem.W.maxOf x (n :: ns) = PySem.W.maxOf (if decide (x < n) = true then n else x) ns := rfl
    rw [e]
    by_cases h : x < n
    · rw [if_pos (decide_eq_true h)]
      obtain ⟨h1, h2, h3⟩ := maxOf_ints ns n
      refine ⟨.inr (h1.elim (fun z => by rw [z]; exact List.mem_cons_self) (List.mem_cons_of_mem _)), by omega, fun y hy => ?_⟩
      rcases List.mem_cons.mp hy with rfl | hy
      · exact h2
      · exact h3 y hy
    · rw [if_neg (by rw [decide_eq_false h]; decide)]
      obtain ⟨h1, h2, h3⟩ := maxOf_ints ns x
      refine ⟨h1.imp_right (List.mem_cons_of_mem _), h2, fun y hy => ?_⟩
      rcases List.mem_cons.mp hy with rfl | hy
      · omega
      · exact h3 y hy
variable {X : Cx}
/-- max(xs, default=d), d an int -/
def rMaxDf (K : PySem.W.Frag) : List V → List V → Hp → VK → Prop := fun vs zs H Q => ∃ (a : Addr) (ns : List Int) (d : Int), vs = [V.ref a] ∧ zs = [V.int d] ∧ SqL K H a (ns.map V.int) ∧ (ns = [] → Q (.int d) H) ∧ ∀ m, m ∈ ns → (∀ y, y ∈ ns → y ≤ m) → Q (.int m) H
theorem cr_maxDf (hc : X.calm = true) (hu : X.A.units + 64 < cLine) : CallRK X (.builtin "max") [Str.ofString "default"] (rMaxDf X.K) := by
  intro pins s σ H vs zs us ws Q I r rz h
  obtain ⟨a, ns, d, rfl, rfl, hs, q0, q⟩ := h
  obtain ⟨its, rv, hl, _⟩ := I.list hs
  obtain rfl := Vals.ref1 r
  obtain ⟨w1, rfl, e1⟩ := vals1 rz
  obtain ⟨tk1, rfl⟩ := (show ∃ tk, w1 = Value.int d tk from e1)
  have hi := rv.ints
  refine PySem.W.max_list_datum_default (α := Int) (xs := ns) (I.ok.hd hc) hl.isList ?_ ?_ (fun e h' tk hk => ?_) fun y ys i v h' tk e hi' hv hk => ?_
  · exact PySem.W.HoldAll.of_ints hi
  · show X.A.units + 1 + 0 < cLine
    omega
  · exact ⟨.int d, H, I.kept hk, ⟨_, rfl⟩, q0 e⟩
  · subst e
    obtain ⟨h1, h2, h3⟩ := maxOf_ints ys y
    obtain ⟨t2, rfl⟩ : ∃ t, v = .int (PySem.W.maxOf y ys) t := PySem.W.int_of_holds hv
    refine ⟨.int _, H, I.kept hk, ⟨_, rfl⟩, q _ (h1.elim (fun z => by rw [z]; exact List.mem_cons_self) (List.mem_cons_of_mem _)) fun z hz => ?_⟩
    rcases List.mem_cons.mp hz with rfl | hz
    · exact h2
    · exact h3 z hz
end OW

set_option Elab.async false
set_option linter.all false
set_option maxRecDepth 100000
set_option maxHeartbeats 2000000
/-! sorted(d), the keys of d ints, any number of them. -/
namespace OW
open PySem PySem.Spec PyProof.Rows L2
variable {X : Cx}
theorem cr_sortedDI (hcalm : X.calm = true) : CallR X (.builtin "sorted") (fun xs H Q => ∃ (a : Addr) (kvs : List (Key × V)) (ks : List Int), xs = [.ref a] ∧ Rd H a (.dK kvs) ∧ kvs.map (·.1) = ks.map Sum.inl ∧
    ∀ (ys : List Int) (p : Addr), ys.Perm ks → ys.Pairwise (· ≤ ·) → H p = none → Q (.ref p) (upd H p (.lst (ys.map V.int)))) := by
  intro pins s σ H xs us Q I r q
  obtain ⟨a, kvs, ks, ex, hd, hks, q⟩ := q
  subst ex
  obtain ⟨u, eu, rx⟩ := vals1 r
  subst eu
  cases rx
  obtain ⟨z, lo, vs, rel, dd⟩ := dk_rd I.hok hd
  obtain ⟨ep, hat⟩ := dd.dictAt
  have hkeys : vs.map (·.1) = ks.map Sum.inl := rel.keys.symm.trans hks
  have hl : vs.length = ks.length := by
    have e := congrArg List.length hkeys
    rw [List.length_map, List.length_map] at e
    exact e
  have hkl : kvs.length = ks.length := by
    have e := congrArg List.length hks
    rw [List.length_map, List.length_map] at e
    exact e
  have h16 : vs.length ≤ sizeLine := by omega
  refine Calls.call_function_entry PyProof.Rows.kind_sorted PyProof.Rows.plain_sorted PyProof.Rows.entry_sorted (PyProof.Rows.args_sorted1 _) ?_
  unfold Builtin.«sorted»
  refine wpAny_bind (m := checkCount "sorted" 1 1 _) (wpAny_pure ?_)
  refine wpAny_bind (PySem.W.kdu_collect (A := X.A.in1) (PySem.W.kdl_dict (knd := mixKind X.prog X.w) (kvs := vs) (ep := ep) lo) (I.ok.hd hcalm) hat h16 fun h' tk acc hk hacc => ?_)
  have hal : acc.toList.length = ks.length := by rw [Array.length_toList, hacc.1, hl]
  have hS : IntsAre acc.toList ks := ints_each hal fun j v e => by
    obtain ⟨k, x, e1, e2⟩ := hacc.2 j v (by rw [← Array.getElem?_toList]; exact e)
    have e3 : (vs.map (·.1))[j]? = some k := by rw [List.getElem?_map, e1]; rfl
    rw [hkeys, List.getElem?_map] at e3
    cases e4 : ks[j]? with
    | none => rw [e4] at e3; cases e3
    | some y =>
      rw [e4] at e3
      have e5 : Sum.inl y = k := Option.some.inj e3
      subst e5
      rcases keyIs_shape (show keyIs (Sum.inl y) v = true from e2) with ⟨i, t, ek, ev⟩ | ⟨z, t, ek, ev⟩
      · cases ek
        exact ⟨y, t, rfl, ev⟩
      · cases ek
  have I1 : Inv X pins σ H { s with heap := h', toks := tk } := I.kept hk
  refine wpAny_bind (wpAny_newList ?_ (by omega))
  have hoL : (h'.push (seqObj "list" acc.toList.toArray 0)).get? h'.objs.size = some (seqObj "list" acc.toList.toArray 0) := Heap.get?_push_size _ rfl
  show wpAny _ _ _ _ _ { s with heap := h'.push (seqObj "list" acc.toList.toArray 0), toks := tk }
  refine wpAny_bind (wpAny_holding (wpAny_call_entry PyProof.Rows.slot_list_sort ⟨_, hoL, rfl⟩ PyProof.Rows.entry_list_sort
    (SrtO.list_sort_ord (s := { s with heap := h'.push (seqObj "list" acc.toList.toArray 0), toks := tk }) SrtO.swo_int hoL (by omega) (fun h2 => SrtO.ints_sortable hS h2) fun out h1 h2 => ⟨_, rfl, ?_⟩) (PyProof.Rows.args_list_sort _)))
  obtain ⟨g1, g2, g3⟩ := SrtO.ints_out hS h1 h2
  obtain ⟨e', he'⟩ := PyProof.Rows.sortedHeap_at (vs := acc.toList) (out := out.toArray) hoL
  have hlen : ((out.map SrtO.iv).map V.int).length ≤ sizeLine := by
    rw [List.length_map, g2.length_eq]
    omega
  refine wpAny_pure ⟨_, rfl, .ref h'.objs.size, upd H h'.objs.size (.lst ((out.map SrtO.iv).map V.int)), I1.laid (t' := tk) (fun b u e => ?_) (Nat.le_refl _)
    (show ObjOk X.prog X.w _ _ _ (.lst ((out.map SrtO.iv).map V.int)) from ⟨hlen, out, e', vals_of_ints g1, he'⟩), rfl, q _ _ g2 g3 (I1.hok.fresh (Nat.le_refl _))⟩
  have hb : b < h'.objs.size := Heap.lt_size e
  rw [PyProof.Rows.sortedHeap_old (Nat.ne_of_lt hb) (by rw [size_push']; exact Nat.lt_succ_of_lt hb)]
  exact Heap.get?_push_of_some _ e
end OW

set_option Elab.async false
set_option linter.all false
set_option maxRecDepth 100000
set_option maxHeartbeats 2000000
namespace OT
open PySem PySem.Spec PyProof.Rows L2
/-! places as one number -/
def keyP (b : Int) : Pl → Int
  | [] => 0
  | x :: r => x * b ^ r.length + keyP b r
theorem keyP_snoc (b x : Int) : ∀ p : Pl, keyP b (p ++ [x]) = keyP b p * b + x
  | [] => by
    show x * b ^ 0 + 0 = 0 * b + x
    rw [Int.pow_zero]
    omega
  | y :: r => by
    show y * b ^ (r ++ [x]).length + keyP b (r ++ [x]) = (y * b ^ r.length + keyP b r) * b + x
    rw [keyP_snoc b x r, List.length_append, List.length_singleton, Int.pow_succ, Int.add_mul, ← Int.mul_assoc, Int.add_assoc]
theorem keyP_plus (b : Int) : ∀ {p q : Pl}, p.length = q.length → keyP b (plusP p q) = keyP b p + keyP b q
  | [], [], _ => rfl
  | [], _ :: _, h => by cases h
  | _ :: _, [], h => by cases h
  | x :: r, y :: t, h => by
    have hl : r.length = t.length := Nat.succ.inj h
    have ih := keyP_plus b hl
    have lp : (plusP r t).length = r.length := plusP_len (Nat.le_of_eq hl)
    show (x + y) * b ^ (plusP r t).length + keyP b (plusP r t) = (x * b ^ r.length + keyP b r) + (y * b ^ t.length + keyP b t)
    rw [ih, lp, hl, Int.add_mul]
    omega
/-- the numbers of a place stay within h -/
def Within (h : Nat) (p : Pl) : Prop := ∀ x ∈ p, x.natAbs ≤ h
theorem Within.tail {h : Nat} {x : Int} {r : Pl} (w : Within h (x :: r)) : Within h r := fun y hy => w y (List.mem_cons_of_mem _ hy)
theorem pow_pos' {b : Int} (hb : 0 < b) (n : Nat) : 0 < b ^ n := Int.pow_pos hb
theorem keyP_bound {h : Nat} {b : Int} (hb : b = 2 * (h : Int) + 1) : ∀ {p : Pl}, Within h p → 2 * keyP b p < b ^ p.length ∧ -(b ^ p.length) < 2 * keyP b p
  | [], _ => by
    show 2 * (0 : Int) < b ^ 0 ∧ -(b ^ 0) < 2 * (0 : Int)
    rw [Int.pow_zero]
    decide
  | x :: r, w => by
    obtain ⟨h1, h2⟩ := keyP_bound hb w.tail
    have hx := w x List.mem_cons_self
    have hp := pow_pos' (show 0 < b by omega) r.length
    show 2 * (x * b ^ r.length + keyP b r) < b ^ (r.length + 1) ∧ -(b ^ (r.length + 1)) < 2 * (x * b ^ r.length + keyP b r)
    rw [Int.pow_succ]
    generalize b ^ r.length = B at h1 h2 hp ⊢
    generalize keyP b r = k at h1 h2 ⊢
    subst hb
    have e1 : x * B ≤ (h : Int) * B := Int.mul_le_mul_of_nonneg_right (by omega) (by omega)
    have e2 : -(h : Int) * B ≤ x * B := Int.mul_le_mul_of_nonneg_right (by omega) (by omega)
    have e3 : B * (2 * (h : Int) + 1) = 2 * ((h : Int) * B) + B := by
      rw [Int.mul_add, Int.mul_one, Int.mul_comm B (2 * (h : Int)), Int.mul_assoc]
    have e4 : -(h : Int) * B = -((h : Int) * B) := Int.neg_mul _ _
    omega
theorem keyP_lt {h : Nat} {b : Int} (hb : b = 2 * (h : Int) + 1) : ∀ {p q : Pl}, p.length = q.length → Within h p → Within h q → HT.lexLt p q = true → keyP b p < keyP b q
  | [], [], _, _, _, e => by cases e
  | [], _ :: _, h, _, _, _ => by cases h
  | _ :: _, [], h, _, _, _ => by cases h
  | x :: r, y :: t, hl, w1, w2, e => by
    have hl' : r.length = t.length := Nat.succ.inj hl
    rw [HT.lexLt_cons] at e
    show x * b ^ r.length + keyP b r < y * b ^ t.length + keyP b t
    rw [hl']
    by_cases z : x = y
    · rw [if_pos z] at e
      have := keyP_lt hb hl' w1.tail w2.tail e
      rw [z]
      omega
    · rw [if_neg z] at e
      have z2 : x < y := of_decide_eq_true e
      obtain ⟨a1, a2⟩ := keyP_bound hb w1.tail
      obtain ⟨b1, b2⟩ := keyP_bound hb w2.tail
      rw [hl'] at a1 a2
      have hp := pow_pos' (show 0 < b by omega) t.length
      generalize b ^ t.length = B at a1 a2 b1 b2 hp ⊢
      have e1 : (x + 1) * B ≤ y * B := Int.mul_le_mul_of_nonneg_right (by omega) (by omega)
      rw [Int.add_mul, Int.one_mul] at e1
      omega
theorem lex_tri : ∀ {p q : Pl}, p.length = q.length → HT.lexLt p q = true ∨ p = q ∨ HT.lexLt q p = true
  | [], [], _ => .inr (.inl rfl)
  | [], _ :: _, h => by cases h
  | _ :: _, [], h => by cases h
  | x :: r, y :: t, hl => by
    rw [HT.lexLt_cons, HT.lexLt_cons]
    by_cases z : x = y
    · subst z
      rw [if_pos rfl, if_pos rfl]
      rcases lex_tri (Nat.succ.inj hl : r.length = t.length) with h | h | h
      · exact .inl h
      · exact .inr (.inl (by rw [h]))
      · exact .inr (.inr h)
    · rw [if_neg z, if_neg (fun e => z e.symm)]
      by_cases c : x < y
      · exact .inl (decide_eq_true c)
      · exact .inr (.inr (decide_eq_true (by omega)))
theorem keyP_inj {h : Nat} {b : Int} (hb : b = 2 * (h : Int) + 1) {p q : Pl} (hl : p.length = q.length) (w1 : Within h p) (w2 : Within h q) (e : keyP b p = keyP b q) : p = q := by
  rcases lex_tri hl with z | z | z
  · have := keyP_lt hb hl w1 w2 z
    omega
  · exact z
  · have := keyP_lt hb hl.symm w2 w1 z
    omega
theorem keyP_le {h : Nat} {b : Int} (hb : b = 2 * (h : Int) + 1) {p q : Pl} (hl : p.length = q.length) (w1 : Within h p) (w2 : Within h q) (e : keyP b p ≤ keyP b q) : HT.lexLt q p = false := by
  cases z : HT.lexLt q p with
  | false => rfl
  | true =>
    have := keyP_lt hb hl.symm w2 w1 z
    omega
/-- the last number of a place, from its key -/
theorem digit {h : Nat} {b k x : Int} (hb : b = 2 * (h : Int) + 1) (hx : x.natAbs ≤ h) : (k * b + x + h) % b - h = x ∧ (k * b + x - x) / b = k := by
  have hpos : 0 < b := by omega
  have e1 : (k * b + x + h) % b = x + h := by
    rw [show k * b + x + (h : Int) = x + h + k * b by omega, Int.add_mul_emod_self_right]
    exact Int.emod_eq_of_lt (by omega) (by omega)
  refine ⟨by omega, ?_⟩
  rw [show k * b + x - x = k * b by omega, Int.mul_ediv_cancel _ (by omega)]
end OT

set_option Elab.async false
set_option linter.all false
set_option maxRecDepth 100000
set_option maxHeartbeats 2000000
namespace OT
open PySem PySem.Spec PyProof.Rows L2
/-- two fors: the outer one over a list -/
theorem lc2_out {K : PySem.W.Frag} {a : Addr} {xs : List V} {g : TG} {tt : TT} {wi1 : TI} {g1 : TG} {tt1 : TT} {te : TE} {vs vs1 : List Nat} {σ : L2.St} {H1 : Hp} {D : Addr} {Qd : Hp → Prop} (Pv : Nat → Hp → Prop) (h0 : Pv 0 (upd H1 D (.lst []))) (hl : ∀ i H, i ≤ xs.length → Pv i H → SqL K H a xs)
    (hs : ∀ i x H, xs[i]? = some x → Pv i H → g x (wipe σ vs) H fun σ2 H2 => wipe σ2 vs = wipe σ vs ∧ tt σ2 H2 fun b H3 =>
      if b = true then wi1 σ2 H3 fun J1 H4 => ∃ W1 : Nat → Nat → Hp → Prop, (∃ m, W1 0 m H4) ∧ ∀ j k H, W1 j k H →
        (J1.stop j H ∧ Pv (i + 1) H) ∨ (J1.go j H ∧ ∃ Nx1 : Hp → Prop, (∀ H', Nx1 H' → ∃ k', k' < k ∧ W1 (j + 1) k' H') ∧ ∀ x H', J1.yld j H x H' → g1 x (wipe σ2 vs1) H' fun σ3 H5 => wipe σ3 vs1 = wipe σ2 vs1 ∧ tt1 σ3 H5 fun b H6 =>
          if b = true then te σ3 H6 fun y H7 => ∃ acc, H7 D = some (.lst acc) ∧ acc.length < sizeLine ∧ Nx1 (upd H7 D (.lst (acc ++ [y]))) else Nx1 H6)
      else Pv (i + 1) H3) (hd : ∀ H, Pv xs.length H → Qd H) :
    ∃ W : Nat → Nat → Hp → Prop, (∃ m, W 0 m (upd H1 D (.lst []))) ∧ ∀ i m H, W i m H →
      ((Itl K a).stop i H ∧ Qd H) ∨ ((Itl K a).go i H ∧ ∃ Nx : Hp → Prop, (∀ H', Nx H' → ∃ m', m' < m ∧ W (i + 1) m' H') ∧ ∀ x H', (Itl K a).yld i H x H' → g x (wipe σ vs) H' fun σ2 H2 => wipe σ2 vs = wipe σ vs ∧ tt σ2 H2 fun b H3 =>
        if b = true then wi1 σ2 H3 fun J1 H4 => ∃ W1 : Nat → Nat → Hp → Prop, (∃ m, W1 0 m H4) ∧ ∀ j k H, W1 j k H →
          (J1.stop j H ∧ Nx H) ∨ (J1.go j H ∧ ∃ Nx1 : Hp → Prop, (∀ H', Nx1 H' → ∃ k', k' < k ∧ W1 (j + 1) k' H') ∧ ∀ x H', J1.yld j H x H' → g1 x (wipe σ2 vs1) H' fun σ3 H5 => wipe σ3 vs1 = wipe σ2 vs1 ∧ tt1 σ3 H5 fun b H6 =>
            if b = true then te σ3 H6 fun y H7 => ∃ acc, H7 D = some (.lst acc) ∧ acc.length < sizeLine ∧ Nx1 (upd H7 D (.lst (acc ++ [y]))) else Nx1 H6)
        else Nx H3) := by
  refine ⟨fun i m H => m = xs.length - i ∧ i ≤ xs.length ∧ Pv i H, ⟨xs.length, by simp, Nat.zero_le _, h0⟩, ?_⟩
  rintro i m H ⟨rfl, hi, p⟩
  have q := hl i H hi p
  by_cases hlt : i < xs.length
  · refine .inr ⟨⟨xs, xs[i], q, by simp [hlt]⟩, Pv (i + 1), fun H' p' => ⟨xs.length - (i + 1), by omega, rfl, hlt, p'⟩, fun x H' y => ?_⟩
    obtain ⟨e, y⟩ := y
    subst e
    exact hs i x _ (y xs q) p
  · have e : i = xs.length := by omega
    subst e
    exact .inl ⟨⟨xs, q, Nat.le_refl _⟩, hd H p⟩
/-- the inner one over a tuple -/
theorem lc2_tup {K : PySem.W.Frag} {a : Addr} {ys : List V} {g1 : TG} {tt1 : TT} {te : TE} {vs1 : List Nat} {σ2 : L2.St} {H4 : Hp} {D : Addr} {Nx : Hp → Prop} (Pw : Nat → Hp → Prop) (h0 : Pw 0 H4) (hl : ∀ j H, j ≤ ys.length → Pw j H → SqT K H a ys)
    (hs : ∀ j y H, ys[j]? = some y → Pw j H → g1 y (wipe σ2 vs1) H fun σ3 H5 => wipe σ3 vs1 = wipe σ2 vs1 ∧ tt1 σ3 H5 fun b H6 =>
      if b = true then te σ3 H6 fun y H7 => ∃ acc, H7 D = some (.lst acc) ∧ acc.length < sizeLine ∧ Pw (j + 1) (upd H7 D (.lst (acc ++ [y]))) else Pw (j + 1) H6) (hd : ∀ H, Pw ys.length H → Nx H) :
    ∃ W1 : Nat → Nat → Hp → Prop, (∃ m, W1 0 m H4) ∧ ∀ j k H, W1 j k H →
      ((Itt K a).stop j H ∧ Nx H) ∨ ((Itt K a).go j H ∧ ∃ Nx1 : Hp → Prop, (∀ H', Nx1 H' → ∃ k', k' < k ∧ W1 (j + 1) k' H') ∧ ∀ x H', (Itt K a).yld j H x H' → g1 x (wipe σ2 vs1) H' fun σ3 H5 => wipe σ3 vs1 = wipe σ2 vs1 ∧ tt1 σ3 H5 fun b H6 =>
        if b = true then te σ3 H6 fun y H7 => ∃ acc, H7 D = some (.lst acc) ∧ acc.length < sizeLine ∧ Nx1 (upd H7 D (.lst (acc ++ [y]))) else Nx1 H6) := by
  refine ⟨fun j k H => k = ys.length - j ∧ j ≤ ys.length ∧ Pw j H, ⟨ys.length, by simp, Nat.zero_le _, h0⟩, ?_⟩
  rintro j k H ⟨rfl, hj, p⟩
  have q := hl j H hj p
  by_cases hlt : j < ys.length
  · refine .inr ⟨⟨ys, ys[j], q, by simp [hlt]⟩, Pw (j + 1), fun H' p' => ⟨ys.length - (j + 1), by omega, rfl, hlt, p'⟩, fun x H' y => ?_⟩
    obtain ⟨e, y⟩ := y
    subst e
    exact hs j x _ (y ys q) p
  · have e : j = ys.length := by omega
    subst e
    exact .inl ⟨⟨ys, q, Nat.le_refl _⟩, hd H p⟩
section
variable {P : Program} {w : World} {K : PySem.W.Frag} {mg : Str → Option Value} {base : Heap}
/-- the greatest absolute coordinate -/
def ReachIs (es : List Ent) (h : Nat) : Prop := (∀ e ∈ es, Within h e.1) ∧ ∀ C : Nat, (∀ e ∈ es, Within C e.1) → h ≤ C
def absP (p : Pl) : List Int := p.map fun x => if x < 0 then -x else x
def coords (es : List Ent) : List Int := es.flatMap fun e => absP e.1
theorem coords_len : ∀ {es : List Ent}, (∀ e ∈ es, e.1.length ≤ 3) → (coords es).length ≤ 3 * es.length
  | [], _ => Nat.le_refl _
  | e :: r, h => by
    have ih := coords_len (es := r) fun x hx => h x (List.mem_cons_of_mem _ hx)
    have h1 := h e List.mem_cons_self
    show (absP e.1 ++ coords r).length ≤ 3 * (r.length + 1)
    rw [List.length_append, show (absP e.1).length = e.1.length from List.length_map _]
    omega
theorem coords_mem {es : List Ent} {n : Int} : n ∈ coords es ↔ ∃ e ∈ es, ∃ x ∈ e.1, n = (x.natAbs : Int) := by
  unfold coords absP
  rw [List.mem_flatMap]
  constructor
  · rintro ⟨e, he, h⟩
    obtain ⟨x, hx, rfl⟩ := List.mem_map.mp h
    refine ⟨e, he, x, hx, ?_⟩
    by_cases z : x < 0
    · rw [if_pos z]
      omega
    · rw [if_neg z]
      omega
  · rintro ⟨e, he, x, hx, rfl⟩
    refine ⟨e, he, List.mem_map.mpr ⟨x, hx, ?_⟩⟩
    by_cases z : x < 0
    · rw [if_pos z]
      omega
    · rw [if_neg z]
      omega
theorem reach_nil {es : List Ent} (h : coords es = []) : ReachIs es 0 := by
  refine ⟨fun e he x hx => ?_, fun C _ => Nat.zero_le _⟩
  have : (x.natAbs : Int) ∈ coords es := coords_mem.mpr ⟨e, he, x, hx, rfl⟩
  rw [h] at this
  cases this
theorem reach_max {es : List Ent} {m : Int} (hm : m ∈ coords es) (hb : ∀ y ∈ coords es, y ≤ m) : ∃ h : Nat, m = (h : Int) ∧ ReachIs es h := by
  obtain ⟨e, he, x, hx, rfl⟩ := coords_mem.mp hm
  refine ⟨x.natAbs, rfl, fun e' he' x' hx' => ?_, fun C h => h e he x hx⟩
  have := hb _ (coords_mem.mpr ⟨e', he', x', hx', rfl⟩)
  omega
def spReach (K : PySem.W.Frag) : Sp := fun vs H Q _ => ∃ (a : Addr) (xs : List V) (es : List Ent), vs = [.ref a] ∧ SqL K H a xs ∧ Ents H xs es ∧ es.length ≤ 1000 ∧ (∀ e ∈ es, e.1.length ≤ 3) ∧ ∀ h H', ReachIs es h → Same H H' → Q (.int (h : Nat)) H'
theorem c_reach {f : Addr} {fd : FuncData} (D : C8.Def K mg "reach" s_reach f fd) (b : Binds K fd ["row"] []) (T : Bi mg) : C8.Cal P w K mg base 1 "reach" (spReach K) [] := by
  refine C8.cal0 D b .nil sc_reach (fun vs H Q E h => ?_) (fun cdv A outer s H vs Q E hr h => ?_)
  · obtain ⟨a, xs, es, rfl, _⟩ := h
    rfl
  · obtain ⟨a, xs, es, rfl, hS, hE, hz, hd, q⟩ := h
    refine ⟨_, (pss_one (ps_ret (pe_callBK (show CallRK _ _ _ (OW.rMaxDf K) from OW.cr_maxDf rfl hr.units) (by rfl) T.n_max OT.b_max (pa_cons (pe_lc2 (own := [("place", 2), ("number", 3), ("x", 1)]) (vs1 := [1]) (g := (gTup K 2 (gCons (gName 2) (gCons (gName 3) gNil)))) (g1 := (gName 1)) (tt := tYes) (tt1 := tYes) rfl sc_reach.nd (pi_list (pv 0)) (blkOk_by (N := ["row", "x", "place", "number"]) (sc := C8.fnScope s_reach) (by decide +kernel)) (by decide) (fun _ _ _ _ _ => (pg_tup rfl (pgs_cons (pg_name (i := 2) sc_reach.nd rfl (Or.inl rfl)) (pgs_cons (pg_name (i := 3) sc_reach.nd rfl (Or.inl rfl)) pgs_nil)))) (fun _ _ _ _ _ => pts_nil) (fun _ _ _ _ _ => (show PI _ _ _ (iTup K (tVar 2)) from pi_tup (pe_var (i := 2) rfl (.inl rfl)))) (fun _ _ _ _ _ => (pg_name (i := 1) sc_reach.nd rfl (Or.inl rfl))) (fun _ _ _ _ _ => pts_nil) (fun _ _ _ _ _ => (pe_callB call_abs (by rfl) T.n_abs OT.b_abs (pa_cons (pv 1) pa_nil)))) pa_nil) (pk_cons pe_int pk_nil)))), ?_⟩
    refine ⟨_, rfl, a, rfl, ⟨_, hS⟩, fun D nD => ?_⟩
    refine lc2_out (K := K) (xs := xs) (fun i H2 => Same H H2 ∧ H2 D = some (.lst ((coords (es.take i)).map V.int))) ⟨same_upd nD, upd_same⟩ ?_ ?_ ?_
    · rintro i H2 _ ⟨sm, _⟩
      exact sm.seq hS
    · rintro i v H2 hv ⟨sm, hp⟩
      obtain ⟨e, he, t, p, rfl, ht, hpe⟩ := hE.get hv
      have hie := (List.getElem?_eq_some_iff.mp he).1
      have hem : e ∈ es := List.mem_of_getElem? he
      have h3 := hd e hem
      have hc1 := coords_len (es := es.take i) fun x hx => hd x (List.mem_of_mem_take hx)
      rw [List.length_take] at hc1
      refine ⟨t, _, rfl, .inl (.inl (sm _ _ ht)), rfl, _, _, rfl, _, _, rfl, rfl, rfl, tYes_of ?_⟩
      have hT : SqT K H2 p (e.1.map V.int) := .inl (.inl (sm _ _ hpe))
      refine ⟨_, rfl, p, rfl, ⟨_, hT⟩, ?_⟩
      refine lc2_tup (K := K) (ys := e.1.map V.int) (fun j H3 => Same H H3 ∧ H3 D = some (.lst ((coords (es.take i) ++ absP (e.1.take j)).map V.int))) ⟨sm, ?_⟩ ?_ ?_ ?_
      · rw [hp, show absP (e.1.take 0) = [] from rfl, List.append_nil]
      · rintro j H3 _ ⟨sm3, _⟩
        exact .inl (.inl (sm3 _ _ hpe))
      · rintro j y H3 hy ⟨sm3, hp3⟩
        obtain ⟨hj, rfl⟩ := getm hy
        refine ⟨rfl, tYes_of ?_⟩
        refine ⟨_, rfl, e.1[j], rfl, _, hp3, ?_, same_mut sm3 nD, ?_⟩
        · have hj3 := h3
          rw [List.length_map, List.length_append, show (absP (e.1.take j)).length = (e.1.take j).length from List.length_map _, List.length_take]
          exact small100k (by omega)
        · rw [upd_same, List.take_add_one, List.getElem?_eq_getElem hj]
          show some (HO.lst _) = some (HO.lst (List.map V.int (coords (es.take i) ++ List.map _ (e.1.take j ++ [e.1[j]]))))
          rw [List.map_append (l₂ := [e.1[j]]), ← List.append_assoc, List.map_append (l₂ := List.map _ [e.1[j]])]
          rfl
      · rintro H3 ⟨sm3, hp3⟩
        refine ⟨sm3, ?_⟩
        rw [List.length_map, List.take_length] at hp3
        rw [hp3, take_snoc he]
        show _ = some (HO.lst (List.map V.int (List.flatMap _ (es.take i ++ [e]))))
        rw [List.flatMap_append]
        simp [coords]
    · rintro H2 ⟨sm, hp⟩
      rw [hE.len, List.take_length] at hp
      refine ⟨D, coords es, 0, rfl, rfl, .inl (.inl hp), fun h0 => q 0 H2 (reach_nil h0) sm, fun m hm hb => ?_⟩
      obtain ⟨h, rfl, hR⟩ := reach_max hm hb
      exact q h H2 hR sm
end
end OT

set_option Elab.async false
set_option linter.all false
set_option maxRecDepth 100000
set_option maxHeartbeats 2000000
namespace OT
open PySem PySem.Spec PyProof.Rows L2
section
variable {P : Program} {w : World} {K : PySem.W.Frag} {mg : Str → Option Value} {base : Heap}
structure RowL (K : PySem.W.Frag) (H : Hp) (a : Addr) (xs : List V) (es : List Ent) : Prop where
  l : SqL K H a xs
  e : Ents H xs es
  z : es.length ≤ 1000
  d : ∀ e ∈ es, e.1.length ≤ 3
theorem RowL.mono {H H' : Hp} {a : Addr} {xs : List V} {es : List Ent} (s : Same H H') (h : RowL K H a xs es) : RowL K H' a xs es := ⟨s.seq h.l, h.e.mono s, h.z, h.d⟩
def spKB (K : PySem.W.Frag) : Sp := fun vs H Q _ => ∃ (a b : Addr) (xs ys : List V) (es fs : List Ent), vs = [.ref a, .ref b] ∧ RowL K H a xs es ∧ RowL K H b ys fs ∧ ∀ h g H', ReachIs es h → ReachIs fs g → Same H H' → Q (.int (2 * ((h + g : Nat) : Int) + 1)) H'
theorem c_key_base {f : Addr} {fd : FuncData} (D : C8.Def K mg "key_base" s_key_base f fd) (b : Binds K fd ["first", "second"] []) (T : Bi mg) (c_reach : C8.Cal P w K mg base 1 "reach" (spReach K) []) : C8.Cal P w K mg base 2 "key_base" (spKB K) [] := by
  refine C8.cal0 D b .nil sc_key_base (fun vs H Q E h => ?_) (fun cdv A outer s H vs Q E hr h => ?_)
  · obtain ⟨a, b, xs, ys, es, fs, rfl, _⟩ := h
    rfl
  · obtain ⟨a, b, xs, ys, es, fs, rfl, hR, hS, q⟩ := h
    refine ⟨_, (pss_one (ps_ret (pe_op op_add (pe_op op_mul pe_int (pe_op op_add (C8.pe_c c_reach hr (by decide) (by rfl) (pa_cons (pv 0) pa_nil)) (C8.pe_c c_reach hr (by decide) (by rfl) (pa_cons (pv 1) pa_nil)))) pe_int))), ?_⟩
    refine ⟨_, rfl, a, xs, es, rfl, hR.l, hR.e, hR.z, hR.d, fun h H2 hh s2 => ?_⟩
    have hS2 := hS.mono s2
    refine ⟨_, rfl, b, ys, fs, rfl, hS2.l, hS2.e, hS2.z, hS2.d, fun g H3 hg s3 => ?_⟩
    refine ⟨_, _, rfl, rfl, _, _, rfl, rfl, .inl ⟨by decide, by decide⟩, _, _, rfl, rfl, ?_⟩
    have e : (2 : Int) * ((h : Int) + (g : Int)) + 1 = 2 * ((h + g : Nat) : Int) + 1 := by omega
    show Q (.int ((2 : Int) * ((h : Int) + (g : Int)) + 1)) H3
    rw [e]
    exact q h g H3 hh hg (s2.trans s3)
def spKO (K : PySem.W.Frag) : Sp := fun vs H Q _ => ∃ (a : Addr) (p : Pl) (b : Int), vs = [.ref a, .int b] ∧ SqT K H a (p.map V.int) ∧ (-(2 ^ 64) < b ∧ b < 2 ^ 64) ∧ Q (.int (keyP b p)) H
theorem c_key_of {f : Addr} {fd : FuncData} (D : C8.Def K mg "key_of" s_key_of f fd) (b : Binds K fd ["place", "base"] []) (T : Bi mg) : C8.Cal P w K mg base 1 "key_of" (spKO K) [] := by
  refine C8.cal0 D b .nil sc_key_of (fun vs H Q E h => ?_) (fun cdv A outer s H vs Q E hr h => ?_)
  · obtain ⟨a, p, b, rfl, _⟩ := h
    rfl
  · obtain ⟨a, p, b, rfl, hS, hb, q⟩ := h
    refine ⟨_, (pss_cons (ps_set (i := 2) sc_key_of.nd rfl (Or.inl rfl) pe_int)
  (pss_cons (ps_for PassesOwn.never rfl (pi_tup (pv 0)) (pg_name (i := 3) sc_key_of.nd rfl (Or.inl rfl)) (pss_one (ps_set (i := 2) sc_key_of.nd rfl (Or.inl rfl) (pe_op op_add (pe_op op_mul (pv 2) (pv 1)) (pv 3)))))
  (pss_one (ps_ret (pv 2))))), ?_⟩
    refine ⟨_, rfl, a, rfl, ⟨_, hS⟩, ?_⟩
    refine for_tup (K := K) (xs := p.map V.int) (fun i σ H2 => ∃ y, σ = [some (.ref a), some (.int b), some (.int (keyP b (p.take i))), y] ∧ H2 = H) ⟨none, rfl, rfl⟩ ?_ ?_ ?_
    · rintro i σ H2 _ ⟨_, _, rfl⟩
      exact hS
    · rintro i x σ H2 hx ⟨y, rfl, rfl⟩
      obtain ⟨hi, rfl⟩ := getm hx
      refine ⟨_, rfl, _, rfl, _, _, rfl, rfl, .inr hb, _, rfl, _, _, rfl, rfl, ?_⟩
      refine ⟨some (V.int p[i]), ?_, rfl⟩
      rw [List.take_add_one, List.getElem?_eq_getElem hi]
      show _ = [some (V.ref a), some (V.int b), some (V.int (keyP b (p.take i ++ [p[i]]))), _]
      rw [keyP_snoc]
      rfl
    · rintro σ H2 ⟨y, rfl, rfl⟩
      rw [List.length_map, List.take_length]
      exact ⟨_, rfl, q⟩
def spPO : Sp := fun vs H Q _ => ∃ (p : Pl) (h : Nat), vs = [.int (keyP (2 * (h : Int) + 1) p), .int (2 * (h : Int) + 1), .int (p.length : Int)] ∧ Within h p ∧ p.length ≤ 1000 ∧ h ≤ 100000000 ∧ ∀ q H', Same H H' → H' q = some (.tup (p.map V.int)) → Q (.ref q) H'
theorem c_place_of {f : Addr} {fd : FuncData} (D : C8.Def K mg "place_of" s_place_of f fd) (b : Binds K fd ["key", "base", "length"] []) (T : Bi mg) : C8.Cal P w K mg base 1 "place_of" spPO [] := by
  refine C8.cal0 D b .nil sc_place_of (fun vs H Q E h => ?_) (fun cdv A outer s H vs Q E hr h => ?_)
  · obtain ⟨p, h, rfl, _⟩ := h
    rfl
  · obtain ⟨p, h, rfl, hw, hl, hh, q⟩ := h
    refine ⟨_, (pss_cons (ps_set (i := 3) sc_place_of.nd rfl (Or.inl rfl) (pe_op op_fdiv (pv 1) pe_int))
  (pss_cons (ps_set (i := 4) sc_place_of.nd rfl (Or.inl rfl) (pe_lst pa_nil))
  (pss_cons (ps_for PassesOwn.never rfl (pi_range1 rfl T.n_range (pa_cons (pv 2) pa_nil)) (pg_name (i := 5) sc_place_of.nd rfl (Or.inl rfl)) (pss_cons (ps_set (i := 6) sc_place_of.nd rfl (Or.inl rfl) (pe_op op_sub (pe_op op_mod (pe_op op_add (pv 0) (pv 3)) (pv 1)) (pv 3)))
  (pss_cons (ps_expr (pe_bm PySem.F.plainAttrs_list PySem.F.slot_list_append PySem.F.type_list_append mt_append (pv 4) (pa_cons (pv 6) pa_nil)))
  (pss_one (ps_set (i := 0) sc_place_of.nd rfl (Or.inl rfl) (pe_op op_fdiv (pe_op op_sub (pv 0) (pv 6)) (pv 1)))))))
  (pss_one (ps_ret (pe_callTy call_tuple_of (by rfl) T.n_tuple OT.b_tuple (pa_cons (pe_revL (pv 4)) pa_nil))))))), ?_⟩
    refine ⟨_, rfl, _, _, rfl, rfl, ⟨by decide, by decide⟩, ?_⟩
    have e1 : (2 * (h : Int) + 1) / 2 = (h : Int) := by omega
    refine ⟨by decide, fun c nc => ?_⟩
    refine ⟨_, rfl, (p.length : Int), rfl, by omega, by omega, ?_⟩
    rw [Int.toNat_natCast]
    refine for_range (lo := 0) (n := p.length) (fun i σ H2 => ∃ y5 y6 : Option V, σ = [some (.int (keyP (2 * (h : Int) + 1) (p.take (p.length - i)))), some (.int (2 * (h : Int) + 1)), some (.int (p.length : Int)), some (.int (h : Int)), some (.ref c), y5, y6] ∧ Same H H2 ∧ H2 c = some (.lst ((p.reverse.take i).map V.int))) ?_ ?_ ?_
    · refine ⟨none, none, ?_, same_upd nc, upd_same⟩
      rw [Nat.sub_zero, List.take_length]
      show [_, _, _, some (V.int ((2 * (h : Int) + 1) / 2)), _, _, _] = _
      rw [e1]
    · rintro i σ H2 hi ⟨y5, y6, rfl, sm, hc⟩
      have hn : p.length - (i + 1) < p.length := by omega
      have hs : p.take (p.length - i) = p.take (p.length - (i + 1)) ++ [p[p.length - (i + 1)]] := by
        rw [show p.length - i = p.length - (i + 1) + 1 by omega, List.take_add_one, List.getElem?_eq_getElem hn]
        rfl
      have hr : p.reverse[i]? = some (p[p.length - (i + 1)]) := by
        rw [List.getElem?_reverse hi, List.getElem?_eq_getElem (by omega)]
        congr 2
        omega
      have hx := hw _ (List.getElem_mem hn)
      rw [hs, keyP_snoc]
      generalize p[p.length - (i + 1)] = x at hr hx ⊢
      generalize hk : keyP (2 * (h : Int) + 1) (p.take (p.length - (i + 1))) = k
      obtain ⟨d1, d2⟩ := digit (b := 2 * (h : Int) + 1) (k := k) rfl hx
      refine ⟨_, rfl, _, rfl, _, _, rfl, rfl, _, rfl, _, _, rfl, rfl, (by show (0 : Int) < 2 * (h : Int) + 1; omega), _, rfl, _, _, rfl, rfl, ?_⟩
      refine ⟨_, rfl, .inl ⟨rfl, _, .inl (.inl hc)⟩, _, rfl, c, _, _, rfl, rfl, hc, ?_, ?_⟩
      · rw [List.length_map, List.length_take]
        exact small1000 (by omega)
      · refine ⟨_, rfl, _, rfl, _, _, rfl, rfl, _, rfl, _, _, rfl, rfl, ⟨by omega, by omega⟩, ?_⟩
        refine ⟨some (V.int (0 + (i : Int))), some (V.int x), ?_, same_mut sm nc, ?_⟩
        · show [some (V.int ((k * (2 * (h : Int) + 1) + x - ((k * (2 * (h : Int) + 1) + x + (h : Int)) % (2 * (h : Int) + 1) - (h : Int))) / (2 * (h : Int) + 1))), _, _, _, _, _, some (V.int ((k * (2 * (h : Int) + 1) + x + (h : Int)) % (2 * (h : Int) + 1) - (h : Int)))] = _
          rw [d1, d2]
        · rw [upd_same, List.take_add_one, hr]
          show some (HO.lst (_ ++ [V.int ((k * (2 * (h : Int) + 1) + x + (h : Int)) % (2 * (h : Int) + 1) - (h : Int))])) = _
          rw [d1, List.map_append]
          rfl
    · rintro σ H2 ⟨y5, y6, rfl, sm, hc⟩
      rw [← List.length_reverse, List.take_length] at hc
      refine ⟨_, rfl, c, _, rfl, .inl (.inl hc), fun r nr => ?_⟩
      refine ⟨r, _, rfl, .inl ⟨.inl (.inl upd_same), fun l nl => ?_⟩⟩
      refine q l _ ((sm.trans (same_upd nr)).trans (same_upd nl)) ?_
      rw [upd_same, ← List.map_reverse, List.reverse_reverse]
end
end OT

set_option Elab.async false
set_option linter.all false
set_option maxRecDepth 100000
set_option maxHeartbeats 2000000
namespace OT
open PySem PySem.Spec PyProof.Rows L2
/-- pairs of a key and a number in the heap -/
def KpAt (H : Hp) (v : V) (e : Int × Int) : Prop := ∃ t, v = .ref t ∧ H t = some (.tup [.int e.1, .int e.2])
inductive Kps (H : Hp) : List V → List (Int × Int) → Prop
  | nil : Kps H [] []
  | cons {v : V} {e : Int × Int} {vs : List V} {es : List (Int × Int)} : KpAt H v e → Kps H vs es → Kps H (v :: vs) (e :: es)
theorem Kps.len {H : Hp} {vs : List V} {es : List (Int × Int)} (h : Kps H vs es) : vs.length = es.length := by
  induction h with
  | nil => rfl
  | cons _ _ ih => rw [List.length_cons, List.length_cons, ih]
theorem KpAt.mono {H H' : Hp} {v : V} {e : Int × Int} (s : Same H H') (h : KpAt H v e) : KpAt H' v e := by
  obtain ⟨t, rfl, h1⟩ := h
  exact ⟨t, rfl, s _ _ h1⟩
theorem Kps.mono {H H' : Hp} {vs : List V} {es : List (Int × Int)} (s : Same H H') (h : Kps H vs es) : Kps H' vs es := by
  induction h with
  | nil => exact .nil
  | cons h1 _ ih => exact .cons (h1.mono s) ih
theorem Kps.app {H : Hp} {vs ws : List V} {es fs : List (Int × Int)} (h : Kps H vs es) (g : Kps H ws fs) : Kps H (vs ++ ws) (es ++ fs) := by
  induction h with
  | nil => exact g
  | cons h1 _ ih => exact .cons h1 ih
theorem Kps.get {H : Hp} {vs : List V} {es : List (Int × Int)} (h : Kps H vs es) : ∀ {i : Nat} {v : V}, vs[i]? = some v → ∃ e, es[i]? = some e ∧ KpAt H v e := by
  induction h with
  | nil => intro i v h; simp at h
  | cons h1 _ ih =>
    intro i v hv
    cases i with
    | zero =>
      cases hv
      exact ⟨_, rfl, h1⟩
    | succ i => exact ih (i := i) hv
theorem KpAt.updL {H : Hp} {D : Addr} {l l' : List V} {v : V} {e : Int × Int} (hD : H D = some (.lst l)) (h : KpAt H v e) : KpAt (upd H D (.lst l')) v e := by
  obtain ⟨t, rfl, h1⟩ := h
  exact ⟨t, rfl, by rw [upd_ne (ne_lst h1 hD)]; exact h1⟩
theorem Kps.updL {H : Hp} {D : Addr} {l l' : List V} {vs : List V} {es : List (Int × Int)} (hD : H D = some (.lst l)) (h : Kps H vs es) : Kps (upd H D (.lst l')) vs es := by
  induction h with
  | nil => exact .nil
  | cons h1 _ ih => exact .cons (h1.updL hD) ih
/-- a dict of sums, its keys places as numbers -/
structure KSums (b : Int) (G : Pl → Prop) (kvs : List (Key × V)) (ks : List Pl) (f : Pl → Int) : Prop where
  keys : kvs.map (·.1) = ks.map fun k => (Sum.inl (keyP b k) : Key)
  val : ∀ k : Pl, G k → valV kvs (Sum.inl (keyP b k)) = if k ∈ ks then some (V.int (f k)) else none
  out : ∀ k, k ∉ ks → f k = 0
  gd : ∀ k ∈ ks, G k
  nod : ks.Nodup
theorem KSums.nil {b : Int} {G : Pl → Prop} : KSums b G [] [] (fun _ => 0) := ⟨rfl, fun k _ => rfl, fun _ _ => rfl, fun k h => (by cases h), .nil⟩
theorem KSums.len {b : Int} {G : Pl → Prop} {kvs : List (Key × V)} {ks : List Pl} {f : Pl → Int} (h : KSums b G kvs ks f) : kvs.length = ks.length := by
  have := congrArg List.length h.keys
  rwa [List.length_map, List.length_map] at this
theorem KSums.put {b : Int} {G : Pl → Prop} (inj : ∀ k l, G k → G l → keyP b k = keyP b l → k = l) {kvs : List (Key × V)} {ks : List Pl} {f : Pl → Int} (h : KSums b G kvs ks f) (k : Pl) (hk : G k) (n : Int) :
    KSums b G (putK kvs (Sum.inl (keyP b k)) (.int (f k + n))) (if k ∈ ks then ks else ks ++ [k]) (fun q => f q + if k = q then n else 0) := by
  have hv := h.val k hk
  refine ⟨?_, fun q hg => ?_, fun q hq => ?_, ?_, ?_⟩
  · by_cases m : k ∈ ks
    · rw [if_pos m] at hv ⊢
      rw [putK_keys (by rw [hv]; rfl), h.keys]
    · rw [if_neg m] at hv ⊢
      rw [putK_new _ hv, List.map_append, List.map_append, h.keys]
      rfl
  · rw [valV_put, h.val q hg]
    by_cases e : q = k
    · subst e
      rw [if_pos rfl, if_pos rfl, if_pos]
      by_cases m : q ∈ ks
      · rw [if_pos m]
        exact m
      · rw [if_neg m]
        exact List.mem_append_right _ List.mem_cons_self
    · have ne1 : ¬ ((Sum.inl (keyP b q) : Key) = Sum.inl (keyP b k)) := fun z => e (inj q k hg hk (Sum.inl.inj z))
      have ne2 : ¬ (k = q) := fun z => e z.symm
      rw [if_neg ne1, if_neg ne2]
      have mm : (q ∈ if k ∈ ks then ks else ks ++ [k]) ↔ q ∈ ks := by
        by_cases m : k ∈ ks
        · rw [if_pos m]
        · rw [if_neg m, List.mem_append, List.mem_singleton]
          exact ⟨fun z => z.elim id fun z => absurd z e, .inl⟩
      by_cases m : q ∈ ks
      · rw [if_pos m, if_pos (mm.mpr m), Int.add_zero]
      · rw [if_neg m, if_neg (fun z => m (mm.mp z))]
  · have hq2 : q ∉ ks ∧ k ≠ q := by
      by_cases m : k ∈ ks
      · rw [if_pos m] at hq
        exact ⟨hq, fun z => hq (z ▸ m)⟩
      · rw [if_neg m] at hq
        exact ⟨fun z => hq (List.mem_append_left _ z), fun z => hq (List.mem_append_right _ (z ▸ List.mem_cons_self))⟩
    show f q + (if k = q then n else 0) = 0
    rw [if_neg hq2.2, h.out q hq2.1]
    rfl
  · intro q hq
    by_cases m : k ∈ ks
    · rw [if_pos m] at hq
      exact h.gd q hq
    · rw [if_neg m] at hq
      rcases List.mem_append.mp hq with z | z
      · exact h.gd q z
      · rw [List.mem_singleton.mp z]
        exact hk
  · by_cases m : k ∈ ks
    · rw [if_pos m]
      exact h.nod
    · rw [if_neg m]
      exact List.nodup_append.mpr ⟨h.nod, List.nodup_cons.mpr ⟨fun z => (by cases z), .nil⟩, fun x hx y hy z => m (by rw [← List.mem_singleton.mp hy, ← z]; exact hx)⟩
theorem KSums.getD {b : Int} {G : Pl → Prop} {kvs : List (Key × V)} {ks : List Pl} {f : Pl → Int} (h : KSums b G kvs ks f) (k : Pl) (hk : G k) : (valV kvs (Sum.inl (keyP b k))).getD (.int 0) = .int (f k) := by
  rw [h.val k hk]
  by_cases m : k ∈ ks
  · rw [if_pos m]
    rfl
  · rw [if_neg m, h.out k m]
    rfl
theorem perm_map {f : Pl → Int} {ys zs : List Int} (h : ys.Perm zs) : ∀ ks : List Pl, zs = ks.map f → ∃ out : List Pl, ys = out.map f ∧ out.Perm ks := by
  induction h with
  | nil =>
    intro ks e
    cases ks with
    | nil => exact ⟨[], rfl, .nil⟩
    | cons k r => cases e
  | cons x _ ih =>
    intro ks e
    cases ks with
    | nil => cases e
    | cons k r =>
      obtain ⟨e1, e2⟩ := List.cons.inj e
      obtain ⟨out, o1, o2⟩ := ih r e2
      exact ⟨k :: out, by rw [List.map_cons, ← e1, ← o1], .cons k o2⟩
  | swap x y l =>
    intro ks e
    match ks, e with
    | [], e => cases e
    | [_], e => cases e
    | k :: k2 :: r, e =>
      obtain ⟨e1, e2⟩ := List.cons.inj e
      obtain ⟨e3, e4⟩ := List.cons.inj e2
      exact ⟨k2 :: k :: r, by rw [List.map_cons, List.map_cons, ← e1, ← e3, ← e4], .swap _ _ _⟩
  | trans _ _ ih1 ih2 =>
    intro ks e
    obtain ⟨o2, e2, p2⟩ := ih2 ks e
    obtain ⟨o1, e1, p1⟩ := ih1 o2 e2
    exact ⟨o1, e1, p1.trans p2⟩
section
variable {P : Program} {w : World} {K : PySem.W.Frag} {mg : Str → Option Value} {base : Heap}
def keyL (b : Int) (es : List Ent) : List (Int × Int) := es.map fun e => (keyP b e.1, e.2)
def spKeyed (K : PySem.W.Frag) : Sp := fun vs H Q _ => ∃ (a : Addr) (xs : List V) (es : List Ent) (b : Int), vs = [.ref a, .int b] ∧ SqL K H a xs ∧ Ents H xs es ∧ es.length ≤ 1000 ∧ (-(2 ^ 64) < b ∧ b < 2 ^ 64) ∧ ∀ p ws H', Same H H' → H p = none → H' p = some (.lst ws) → Kps H' ws (keyL b es) → Q (.ref p) H'
theorem c_keyed {f : Addr} {fd : FuncData} (D : C8.Def K mg "keyed" s_keyed f fd) (b : Binds K fd ["row", "base"] []) (T : Bi mg) (c_key_of : C8.Cal P w K mg base 1 "key_of" (spKO K) []) : C8.Cal P w K mg base 2 "keyed" (spKeyed K) [] := by
  refine C8.cal0 D b .nil sc_keyed (fun vs H Q E h => ?_) (fun cdv A outer s H vs Q E hr h => ?_)
  · obtain ⟨a, xs, es, b, rfl, _⟩ := h
    rfl
  · obtain ⟨a, xs, es, b, rfl, hS, hE, hz, hb, q⟩ := h
    refine ⟨_, (pss_one (ps_ret (pe_lc (own := [("place", 2), ("number", 3)]) (g := (gTup K 2 (gCons (gName 2) (gCons (gName 3) gNil)))) (tt := tYes) rfl sc_keyed.nd (pi_list (pv 0)) (blkOk_by (N := ["row", "base", "place", "number"]) (sc := C8.fnScope s_keyed) (by decide +kernel)) (fun _ _ _ _ _ => (pg_tup rfl (pgs_cons (pg_name (i := 2) sc_keyed.nd rfl (Or.inl rfl)) (pgs_cons (pg_name (i := 3) sc_keyed.nd rfl (Or.inl rfl)) pgs_nil)))) (fun _ _ _ _ _ => pts_nil) (fun _ _ _ _ _ => (pe_tup (pa_cons (C8.pe_c c_key_of hr (by decide) (by rfl) (pa_cons (pv 2) (pa_cons (pv 1) pa_nil))) (pa_cons (pv 3) pa_nil))))))), ?_⟩
    have hx := hE.len
    refine ⟨_, rfl, a, rfl, ⟨_, hS⟩, fun p np => ?_⟩
    refine lc_list (K := K) (xs := xs) (fun i H2 => Same H H2 ∧ ∃ ws, H2 p = some (.lst ws) ∧ Kps H2 ws (keyL b (es.take i))) ?_ ?_ ?_ ?_
    · exact ⟨same_upd np, [], upd_same, .nil⟩
    · rintro i H2 _ ⟨sm, _⟩
      exact sm.seq hS
    · rintro i x H2 hxi ⟨sm, ws, hp, hW⟩
      obtain ⟨e, he, t, pe, rfl, ht, hpe⟩ := (hE.mono sm).get hxi
      obtain ⟨hi, hee⟩ := List.getElem?_eq_some_iff.mp he
      refine ⟨t, _, rfl, .inl (.inl ht), rfl, _, _, rfl, _, _, rfl, rfl, rfl, tYes_of ?_⟩
      refine ⟨_, rfl, _, rfl, pe, e.1, b, rfl, .inl (.inl hpe), hb, ?_⟩
      refine ⟨_, rfl, (by show 2 ≤ sizeLine; decide), fun t4 nt4 => ?_⟩
      have sm4 : Same H2 (upd H2 t4 (.tup [.int (keyP b e.1), .int e.2])) := same_upd nt4
      have hv : KpAt (upd H2 t4 (.tup [.int (keyP b e.1), .int e.2])) (.ref t4) (keyP b e.1, e.2) := ⟨t4, rfl, upd_same⟩
      have hD := sm4 _ _ hp
      have hwl := hW.len
      refine ⟨ws, hD, ?_, same_mut (sm.trans sm4) np, ws ++ [.ref t4], upd_same, ?_⟩
      · unfold keyL at hwl
        rw [List.length_map, List.length_take] at hwl
        exact small100k (by omega)
      · unfold keyL
        rw [take_snoc he, List.map_append]
        exact ((hW.mono sm4).app (.cons hv .nil)).updL hD
    · rintro H2 ⟨sm, ws, hp, hW⟩
      rw [hx, List.take_length] at hW
      exact q p ws H2 sm np hp hW
def Gd (h n : Nat) (k : Pl) : Prop := k.length = n ∧ Within h k
def spUnk : Sp := fun vs H Q _ => ∃ (d : Addr) (h n : Nat) (kvs : List (Key × V)) (ks : List Pl) (es : List Ent), vs = [.ref d, .int (2 * (h : Int) + 1), .int (n : Int)] ∧ H d = some (.dK kvs) ∧ KSums (2 * (h : Int) + 1) (Gd h n) kvs ks (numAt es) ∧ ks.length ≤ 10000 ∧ n ≤ 1000 ∧ h ≤ 100000000 ∧ wantRow H es Q
theorem c_unkeyed {f : Addr} {fd : FuncData} (D : C8.Def K mg "unkeyed" s_unkeyed f fd) (b : Binds K fd ["numbers", "base", "length"] []) (T : Bi mg) (c_place_of : C8.Cal P w K mg base 1 "place_of" spPO []) : C8.Cal P w K mg base 2 "unkeyed" spUnk [] := by
  refine C8.cal0 D b .nil sc_unkeyed (fun vs H Q E h => ?_) (fun cdv A outer s H vs Q E hr h => ?_)
  · obtain ⟨d, h, n, kvs, ks, es, rfl, _⟩ := h
    rfl
  · obtain ⟨d, h, n, kvs, ks, es, rfl, hd, hs, hkl, hn, hh, q⟩ := h
    refine ⟨_, (pss_one (ps_ret (pe_lc (own := [("key", 3)]) (g := (gName 3)) rfl sc_unkeyed.nd (pi_list (pe_callB (OW.cr_sortedDI rfl) (by rfl) T.n_sorted OT.b_sorted (pa_cons (pv 0) pa_nil))) (blkOk_by (N := ["numbers", "base", "length", "key"]) (sc := C8.fnScope s_unkeyed) (by decide +kernel)) (fun _ _ _ _ _ => (pg_name (i := 3) sc_unkeyed.nd rfl (Or.inl rfl))) (fun _ _ _ _ _ => (pts_one (pt_cmpR op_ne (pe_dget (hu_of hr) (pv 0) (pv 3) (fun _ _ => rfl)) pe_int (nomark _)))) (fun _ _ _ _ _ => (pe_tup (pa_cons (C8.pe_c c_place_of hr (by decide) (by rfl) (pa_cons (pv 3) (pa_cons (pv 1) (pa_cons (pv 2) pa_nil)))) (pa_cons (pe_dget (hu_of hr) (pv 0) (pv 3) (fun _ _ => rfl)) pa_nil))))))), ?_⟩
    refine ⟨_, rfl, d, kvs, ks.map (keyP (2 * (h : Int) + 1)), rfl, .inl hd, ?_, fun ys p perm pw np => ?_⟩
    · rw [hs.keys, List.map_map]
      rfl
    obtain ⟨out, rfl, perm2⟩ := perm_map perm ks rfl
    have hgd : ∀ k ∈ out, Gd h n k := fun k hk => hs.gd k (perm2.mem_iff.mp hk)
    have pw2 : out.Pairwise fun a b => HT.lexLt b a = false := by
      refine List.Pairwise.imp_of_mem (fun {a b} ha hb hab => ?_) (List.pairwise_map.mp pw)
      exact keyP_le rfl ((hgd a ha).1.trans (hgd b hb).1.symm) (hgd a ha).2 (hgd b hb).2 hab
    refine ⟨p, rfl, ⟨_, .inl (.inl upd_same)⟩, fun D nD => ?_⟩
    have hpD : p ≠ D := ne_of_none upd_same nD
    obtain ⟨hDn, _⟩ := none_of_upd nD
    have hlo : out.length = ks.length := perm2.length_eq
    refine lc_list (K := K) (a := p) (xs := (out.map (keyP (2 * (h : Int) + 1))).map V.int) (fun i H2 => Same H H2 ∧ H2 p = some (.lst ((out.map (keyP (2 * (h : Int) + 1))).map V.int)) ∧ ∃ ws, H2 D = some (.lst ws) ∧ Ents H2 ws (mkR (numAt es) (out.take i))) ?_ ?_ ?_ ?_
    · refine ⟨(same_upd np).trans (same_upd nD), ?_, [], upd_same, .nil⟩
      rw [upd_ne hpD, upd_same]
    · rintro i H2 _ ⟨_, hp, _⟩
      exact .inl (.inl hp)
    · rintro i x H2 hx ⟨sm, hp, ws, hD, hE⟩
      rw [List.map_map] at hx
      obtain ⟨hi, rfl⟩ := getm hx
      have hm := List.getElem_mem hi
      have hg := hgd _ hm
      have hv := hs.val _ hg
      rw [if_pos (perm2.mem_iff.mp hm)] at hv
      have hd2 := sm _ _ hd
      have hget : DGet H2 d (.int (keyP (2 * (h : Int) + 1) out[i])) (some (.int (numAt es out[i]))) := by
        rw [← hv]
        exact DGet.k (k := Sum.inl (keyP (2 * (h : Int) + 1) out[i])) hd2
      refine ⟨rfl, _, rfl, _, rfl, d, _, rfl, hget, ?_⟩
      refine ⟨rfl, _, rfl, ?_⟩
      have htk : out.take (i + 1) = out.take i ++ [out[i]] := by
        rw [List.take_add_one, List.getElem?_eq_getElem hi]
        rfl
      rw [htk, mkR_snoc]
      refine iteND (fun hn' => ?_) (fun h0 => ?_)
      · have hn0 : numAt es out[i] ≠ 0 := fun z => hn' (by rw [z])
        rw [if_neg hn0]
        refine ⟨_, rfl, _, rfl, _, rfl, out[i], h, ?_, hg.2, by rw [hg.1]; exact hn, hh, fun q2 H3 sm3 hq2 => ?_⟩
        · rw [hg.1]
          rfl
        have hd3 := sm3 _ _ hd2
        have hget3 : DGet H3 d (.int (keyP (2 * (h : Int) + 1) out[i])) (some (.int (numAt es out[i]))) := by
          rw [← hv]
          exact DGet.k (k := Sum.inl (keyP (2 * (h : Int) + 1) out[i])) hd3
        refine ⟨_, rfl, _, rfl, d, _, rfl, hget3, (by show 2 ≤ sizeLine; decide), fun t nt => ?_⟩
        have smt : Same H3 (upd H3 t (.tup [.ref q2, .int (numAt es out[i])])) := same_upd nt
        have smA := sm3.trans smt
        have hD3 := smA _ _ hD
        refine ⟨ws, hD3, ?_, same_mut (sm.trans smA) hDn, ?_, ws ++ [.ref t], upd_same, ?_⟩
        · have h1 := hE.len
          have h2 := mkR_len (numAt es) (out.take i)
          rw [List.length_take] at h2
          exact small100k (by omega)
        · rw [upd_ne hpD]
          exact smA _ _ hp
        · refine ((hE.mono smA).updL hD3).app (.cons (EntAt.updL hD3 ⟨t, _, rfl, upd_same, ?_⟩) .nil)
          exact smt _ _ hq2
      · have h0' : numAt es out[i] = 0 := V.int.inj h0
        rw [if_pos h0', List.append_nil]
        exact ⟨sm, hp, ws, hD, hE⟩
    · rintro H2 ⟨sm, hp, ws, hD, hE⟩
      rw [List.length_map, List.length_map, List.take_length] at hE
      exact q _ D ws H2 (row_sorted perm2 pw2 hs.nod hs.out) sm hDn hD hE
end
end OT

set_option Elab.async false
set_option linter.all false
set_option maxRecDepth 100000
set_option maxHeartbeats 2000000
/-! products of lists of entries: order, brackets, maps -/
namespace OT
open PySem PySem.Spec PyProof.Rows L2
theorem sumW_zero_w : ∀ es : List Ent, sumW (fun _ => 0) es = 0
  | [] => rfl
  | e :: r => by
    show e.2 * 0 + sumW _ r = 0
    rw [sumW_zero_w r, Int.mul_zero]
    rfl
theorem sumW_lin (c : Int) (w v : Pl → Int) : ∀ es : List Ent, sumW (fun l => c * w l + v l) es = c * sumW w es + sumW v es
  | [] => by show (0 : Int) = c * 0 + 0; rw [Int.mul_zero]; rfl
  | e :: r => by
    have ih := sumW_lin c w v r
    show e.2 * (c * w e.1 + v e.1) + sumW _ r = c * (e.2 * w e.1 + sumW w r) + (e.2 * v e.1 + sumW v r)
    rw [ih, Int.mul_add, Int.mul_add, Int.mul_left_comm e.2 c]
    omega
theorem sumW_swap (w : Pl → Pl → Int) (b : List Ent) : ∀ a : List Ent, sumW (fun k => sumW (fun l => w k l) b) a = sumW (fun l => sumW (fun k => w k l) a) b
  | [] => by
    show (0 : Int) = sumW (fun _ => 0) b
    rw [sumW_zero_w]
  | e :: r => by
    have ih := sumW_swap w b r
    show e.2 * sumW (fun l => w e.1 l) b + sumW _ r = sumW (fun l => e.2 * w e.1 l + sumW (fun k => w k l) r) b
    rw [ih, sumW_lin]
theorem prodL_comm {op : Pl → Pl → Pl} (h : ∀ k l, op k l = op l k) (a b : List Ent) (q : Pl) : numAt (prodL op a b) q = numAt (prodL op b a) q := by
  rw [numAt_sumW, numAt_sumW, sumW_prodL, sumW_prodL, sumW_swap]
  refine sumW_congr fun e _ => sumW_congr fun g _ => ?_
  rw [h]
theorem prodL_app (op : Pl → Pl → Pl) (a b c : List Ent) : prodL op (a ++ b) c = prodL op a c ++ prodL op b c := List.flatMap_append
theorem prodL_row {op : Pl → Pl → Pl} (h : ∀ k l m, op (op k l) m = op k (op l m)) (e : Ent) (c : List Ent) : ∀ b : List Ent, prodL op (b.map fun g => (op e.1 g.1, e.2 * g.2)) c = (prodL op b c).map fun g => (op e.1 g.1, e.2 * g.2)
  | [] => rfl
  | g :: r => by
    have ih := prodL_row h e c r
    show (c.map fun x => (op (op e.1 g.1) x.1, e.2 * g.2 * x.2)) ++ prodL op (r.map _) c = ((c.map fun x => (op g.1 x.1, g.2 * x.2)) ++ prodL op r c).map _
    rw [ih, List.map_append, List.map_map]
    refine congrArg (· ++ _) (List.map_congr_left fun x _ => ?_)
    show (op (op e.1 g.1) x.1, e.2 * g.2 * x.2) = (op e.1 (op g.1 x.1), e.2 * (g.2 * x.2))
    rw [h, Int.mul_assoc]
theorem prodL_assoc {op : Pl → Pl → Pl} (h : ∀ k l m, op (op k l) m = op k (op l m)) (b c : List Ent) : ∀ a : List Ent, prodL op (prodL op a b) c = prodL op a (prodL op b c)
  | [] => rfl
  | e :: r => by
    have ih := prodL_assoc h b c r
    show prodL op ((b.map fun g => (op e.1 g.1, e.2 * g.2)) ++ prodL op r b) c = ((prodL op b c).map fun g => (op e.1 g.1, e.2 * g.2)) ++ prodL op r (prodL op b c)
    rw [prodL_app, ih, prodL_row h]
theorem prodL_map {op : Pl → Pl → Pl} {f : Pl → Pl} (h : ∀ k l, f (op k l) = op (f k) (f l)) (b : List Ent) : ∀ a : List Ent, mapF f (prodL op a b) = prodL op (mapF f a) (mapF f b)
  | [] => rfl
  | e :: r => by
    have ih := prodL_map h b r
    show ((b.map fun g => (op e.1 g.1, e.2 * g.2)) ++ prodL op r b).map _ = ((mapF f b).map fun g : Ent => (op (f e.1) g.1, e.2 * g.2)) ++ prodL op (mapF f r) (mapF f b)
    rw [List.map_append, show (prodL op r b).map (fun e => (f e.1, e.2)) = mapF f (prodL op r b) from rfl, ih, List.map_map, show mapF f b = b.map (fun e => (f e.1, e.2)) from rfl, List.map_map]
    refine congrArg (· ++ _) (List.map_congr_left fun g _ => ?_)
    show (f (op e.1 g.1), e.2 * g.2) = (op (f e.1) (f g.1), e.2 * g.2)
    rw [h]
/-- (a b)(c d) is (a c)(b d) -/
theorem prodL_four {op : Pl → Pl → Pl} (hc : ∀ k l, op k l = op l k) (ha : ∀ k l m, op (op k l) m = op k (op l m)) (a b c d : List Ent) (q : Pl) : numAt (prodL op (prodL op a b) (prodL op c d)) q = numAt (prodL op (prodL op a c) (prodL op b d)) q := by
  rw [prodL_assoc ha, prodL_assoc ha]
  refine numAt_prodL_eq op (fun _ => rfl) (fun q => ?_) q
  rw [← prodL_assoc ha, ← prodL_assoc ha]
  exact numAt_prodL_eq op (prodL_comm hc b c) (fun _ => rfl) q
end OT

set_option Elab.async false
set_option linter.all false
set_option maxRecDepth 100000
set_option maxHeartbeats 2000000
namespace OT
open PySem PySem.Spec PyProof.Rows L2
/-! products of rows: the first entry, no zero divisors, the box; the one quotient -/
theorem plusP_com : ∀ k l : Pl, plusP k l = plusP l k
  | [], [] => rfl
  | [], _ :: _ => rfl
  | _ :: _, [] => rfl
  | x :: k, y :: l => by
    show (x + y) :: plusP k l = (y + x) :: plusP l k
    rw [plusP_com k l, Int.add_comm]
theorem timesL_app2 (es a b : List Ent) (q : Pl) : numAt (timesL es (a ++ b)) q = numAt (timesL es a) q + numAt (timesL es b) q := by
  induction es with
  | nil => rfl
  | cons e r ih =>
    show numAt (rowT e (a ++ b) ++ timesL r (a ++ b)) q = numAt (rowT e a ++ timesL r a) q + numAt (rowT e b ++ timesL r b) q
    rw [numAt_app, numAt_app, numAt_app, ih]
    unfold rowT
    rw [List.map_append, numAt_app]
    omega
theorem timesL_neg2 (es a : List Ent) (q : Pl) : numAt (timesL es (negs a)) q = -numAt (timesL es a) q := by
  have h : ∀ e : Ent, rowT e (negs a) = negs (rowT e a) := fun e => by
    unfold rowT negs
    rw [List.map_map, List.map_map]
    refine List.map_congr_left fun x _ => ?_
    show (plusP e.1 x.1, e.2 * -x.2) = (plusP e.1 x.1, -(e.2 * x.2))
    rw [Int.mul_neg]
  induction es with
  | nil => rfl
  | cons e r ih =>
    show numAt (rowT e (negs a) ++ timesL r (negs a)) q = -numAt (rowT e a ++ timesL r a) q
    rw [numAt_app, numAt_app, ih, h, numAt_negs]
    omega
theorem timesL_eq2 (es : List Ent) {a b : List Ent} (h : ∀ q, numAt a q = numAt b q) (q : Pl) : numAt (timesL es a) q = numAt (timesL es b) q := numAt_prodL_eq plusP (fun _ => rfl) h q
theorem timesL_eq1 {a b : List Ent} (es : List Ent) (h : ∀ q, numAt a q = numAt b q) (q : Pl) : numAt (timesL a es) q = numAt (timesL b es) q := numAt_prodL_eq plusP h (fun _ => rfl) q
/-- all places have n numbers -/
def DimN (n : Nat) (es : List Ent) : Prop := ∀ e ∈ es, e.1.length = n
theorem DimN.app {n : Nat} {a b : List Ent} (h : DimN n a) (k : DimN n b) : DimN n (a ++ b) := fun e he => (List.mem_append.mp he).elim (h e) (k e)
theorem DimN.negs {n : Nat} {a : List Ent} (h : DimN n a) : DimN n (negs a) := fun e he => by
  obtain ⟨x, hx, rfl⟩ := List.mem_map.mp he
  exact h x hx
theorem DimN.times {n : Nat} {a b : List Ent} (h : DimN n a) (k : DimN n b) : DimN n (timesL a b) := fun e he => by
  obtain ⟨x, hx, g, hg, rfl⟩ := timesL_mem he
  show (plusP x.1 g.1).length = n
  rw [plusP_len (by rw [h x hx, k g hg]; exact Nat.le_refl _), h x hx]
theorem DimN.of {n : Nat} {r es : List Ent} (h : RowIs r es) (k : DimN n es) : DimN n r := fun e he => by
  obtain ⟨x, hx, e1⟩ := h.mem he
  rw [← e1]
  exact k x hx
theorem DimN.num {n : Nat} {es : List Ent} (h : DimN n es) {q : Pl} (hq : q.length ≠ n) : numAt es q = 0 := numAt_out fun e he z => hq (by rw [← z]; exact h e he)
/-- one entry put into a row -/
def addE (e : Ent) : List Ent → List Ent
  | [] => if e.2 = 0 then [] else [e]
  | f :: r => if HT.lexLt e.1 f.1 = true then (if e.2 = 0 then f :: r else e :: f :: r) else if e.1 = f.1 then (if e.2 + f.2 = 0 then r else (f.1, e.2 + f.2) :: r) else f :: addE e r
theorem addE_num (e : Ent) (q : Pl) : ∀ r : List Ent, numAt (addE e r) q = (if e.1 = q then e.2 else 0) + numAt r q
  | [] => by
    unfold addE
    by_cases h : e.2 = 0
    · rw [if_pos h, h]
      show 0 = (if e.1 = q then (0 : Int) else 0) + 0
      rw [ite_self]
      rfl
    · rw [if_neg h]
      rfl
  | f :: r => by
    have ih := addE_num e q r
    unfold addE
    by_cases c : HT.lexLt e.1 f.1 = true
    · rw [if_pos c]
      by_cases h : e.2 = 0
      · rw [if_pos h, h, ite_self]
        omega
      · rw [if_neg h]
        rfl
    · rw [if_neg c]
      by_cases d : e.1 = f.1
      · rw [if_pos d]
        by_cases h : e.2 + f.2 = 0
        · rw [if_pos h]
          show _ = (if e.1 = q then e.2 else 0) + ((if f.1 = q then f.2 else 0) + numAt r q)
          rw [d]
          by_cases k : f.1 = q
          · rw [if_pos k, if_pos k]
            omega
          · rw [if_neg k, if_neg k]
            omega
        · rw [if_neg h]
          show (if f.1 = q then e.2 + f.2 else 0) + numAt r q = (if e.1 = q then e.2 else 0) + ((if f.1 = q then f.2 else 0) + numAt r q)
          rw [d]
          by_cases k : f.1 = q
          · rw [if_pos k, if_pos k, if_pos k]
            omega
          · rw [if_neg k, if_neg k, if_neg k]
            omega
      · rw [if_neg d]
        show (if f.1 = q then f.2 else 0) + numAt (addE e r) q = _ + ((if f.1 = q then f.2 else 0) + numAt r q)
        rw [ih]
        omega
theorem addE_mem {e x : Ent} : ∀ {r : List Ent}, x ∈ addE e r → x.1 = e.1 ∨ ∃ y ∈ r, y.1 = x.1
  | [], h => by
    unfold addE at h
    by_cases c : e.2 = 0
    · rw [if_pos c] at h
      cases h
    · rw [if_neg c] at h
      exact .inl (by rw [List.mem_singleton.mp h])
  | f :: r, h => by
    unfold addE at h
    by_cases c : HT.lexLt e.1 f.1 = true
    · rw [if_pos c] at h
      by_cases k : e.2 = 0
      · rw [if_pos k] at h
        exact .inr ⟨x, h, rfl⟩
      · rw [if_neg k] at h
        rcases List.mem_cons.mp h with rfl | h
        · exact .inl rfl
        · exact .inr ⟨x, h, rfl⟩
    · rw [if_neg c] at h
      by_cases d : e.1 = f.1
      · rw [if_pos d] at h
        by_cases k : e.2 + f.2 = 0
        · rw [if_pos k] at h
          exact .inr ⟨x, List.mem_cons_of_mem _ h, rfl⟩
        · rw [if_neg k] at h
          rcases List.mem_cons.mp h with rfl | h
          · exact .inl d.symm
          · exact .inr ⟨x, List.mem_cons_of_mem _ h, rfl⟩
      · rw [if_neg d] at h
        rcases List.mem_cons.mp h with rfl | h
        · exact .inr ⟨x, List.mem_cons_self, rfl⟩
        · rcases addE_mem h with h | ⟨y, hy, h⟩
          · exact .inl h
          · exact .inr ⟨y, List.mem_cons_of_mem _ hy, h⟩
theorem addE_valid (e : Ent) : ∀ {r : List Ent}, Valid r → Valid (addE e r)
  | [], _ => by
    unfold addE
    by_cases c : e.2 = 0
    · rw [if_pos c]
      exact ⟨.nil, fun x h => by cases h⟩
    · rw [if_neg c]
      exact ⟨List.pairwise_singleton _ _, fun x h => by rw [List.mem_singleton.mp h]; exact c⟩
  | f :: r, v => by
    obtain ⟨p1, p2⟩ := List.pairwise_cons.mp v.asc
    unfold addE
    by_cases c : HT.lexLt e.1 f.1 = true
    · rw [if_pos c]
      by_cases k : e.2 = 0
      · rw [if_pos k]
        exact v
      · rw [if_neg k]
        refine ⟨List.pairwise_cons.mpr ⟨fun x hx => ?_, v.asc⟩, fun x hx => ?_⟩
        · rcases List.mem_cons.mp hx with rfl | hx
          · exact c
          · exact lt_trans c (p1 x hx)
        · rcases List.mem_cons.mp hx with rfl | hx
          · exact k
          · exact v.nz x hx
    · rw [if_neg c]
      by_cases d : e.1 = f.1
      · rw [if_pos d]
        by_cases k : e.2 + f.2 = 0
        · rw [if_pos k]
          exact v.tail
        · rw [if_neg k]
          refine ⟨List.pairwise_cons.mpr ⟨p1, p2⟩, fun x hx => ?_⟩
          rcases List.mem_cons.mp hx with rfl | hx
          · exact k
          · exact v.nz x (List.mem_cons_of_mem _ hx)
      · rw [if_neg d]
        have ih := addE_valid e v.tail
        refine ⟨List.pairwise_cons.mpr ⟨fun x hx => ?_, ih.asc⟩, fun x hx => ?_⟩
        · rcases addE_mem hx with h | ⟨y, hy, h⟩
          · rw [h]
            cases z : HT.lexLt f.1 e.1 with
            | true => rfl
            | false => exact absurd (lt_tot (by cases w : HT.lexLt e.1 f.1 with | true => exact absurd w c | false => rfl) z) d
          · rw [← h]
            exact p1 y hy
        · rcases List.mem_cons.mp hx with rfl | hx
          · exact v.nz x List.mem_cons_self
          · exact ih.nz x hx
/-- the row of any list of entries -/
def rowOf (es : List Ent) : List Ent := es.foldr addE []
theorem rowOf_is : ∀ es : List Ent, RowIs (rowOf es) es
  | [] => ⟨⟨.nil, fun x h => by cases h⟩, fun _ => rfl⟩
  | e :: r => by
    have ih := rowOf_is r
    refine ⟨addE_valid e ih.v, fun q => ?_⟩
    show numAt (addE e (rowOf r)) q = (if e.1 = q then e.2 else 0) + numAt r q
    rw [addE_num, ih.s]
/-- the first entry of a product -/
theorem lead_at {n : Nat} {f g : Ent} {F G : List Ent} (vF : Valid (f :: F)) (vG : Valid (g :: G)) (dF : DimN n (f :: F)) (dG : DimN n (g :: G)) :
    numAt (timesL (f :: F) (g :: G)) (plusP f.1 g.1) = f.2 * g.2 ∧ ∀ q, HT.lexLt q (plusP f.1 g.1) = true → numAt (timesL (f :: F) (g :: G)) q = 0 := by
  have hf := dF f List.mem_cons_self
  have hg := dG g List.mem_cons_self
  have big : ∀ x ∈ rowT f G ++ timesL F (g :: G), HT.lexLt (plusP f.1 g.1) x.1 = true := fun x hx => by
    rcases List.mem_append.mp hx with hx | hx
    · obtain ⟨y, hy, rfl⟩ := List.mem_map.mp hx
      have h1 := (List.pairwise_cons.mp vG.asc).1 y hy
      have h2 := dG y (List.mem_cons_of_mem _ hy)
      show HT.lexLt (plusP f.1 g.1) (plusP f.1 y.1) = true
      rw [plusP_com f.1 g.1, plusP_com f.1 y.1, plusP_lt (by omega) (by omega)]
      exact h1
    · obtain ⟨e, he, y, hy, rfl⟩ := timesL_mem hx
      have h1 := (List.pairwise_cons.mp vF.asc).1 e he
      have h2 := dG y hy
      have h3 := dF e (List.mem_cons_of_mem _ he)
      show HT.lexLt (plusP f.1 g.1) (plusP e.1 y.1) = true
      have a1 : HT.lexLt (plusP f.1 y.1) (plusP e.1 y.1) = true := by
        rw [plusP_lt (by omega) (by omega)]
        exact h1
      rcases List.mem_cons.mp hy with rfl | hy
      · exact a1
      · refine lt_trans ?_ a1
        rw [plusP_com f.1 g.1, plusP_com f.1 y.1, plusP_lt (by omega) (by omega)]
        exact (List.pairwise_cons.mp vG.asc).1 y hy
  have e0 : timesL (f :: F) (g :: G) = (plusP f.1 g.1, f.2 * g.2) :: (rowT f G ++ timesL F (g :: G)) := rfl
  refine ⟨?_, fun q hq => ?_⟩
  · rw [e0]
    show (if plusP f.1 g.1 = plusP f.1 g.1 then f.2 * g.2 else 0) + numAt (rowT f G ++ timesL F (g :: G)) (plusP f.1 g.1) = _
    rw [if_pos rfl, numAt_out fun x hx z => lt_ne (big x hx) z.symm]
    omega
  · rw [e0]
    refine numAt_out fun x hx z => ?_
    rcases List.mem_cons.mp hx with rfl | hx
    · exact lt_ne hq z.symm
    · exact lt_ne (lt_trans hq (big x hx)) z.symm
theorem no_zero {n : Nat} {F G : List Ent} (vF : Valid F) (vG : Valid G) (dF : DimN n F) (dG : DimN n G) (hF : F ≠ []) (hG : G ≠ []) : ∃ q, numAt (timesL F G) q ≠ 0 := by
  cases F with
  | nil => exact absurd rfl hF
  | cons f F =>
  cases G with
  | nil => exact absurd rfl hG
  | cons g G =>
  refine ⟨plusP f.1 g.1, ?_⟩
  rw [(lead_at vF vG dF dG).1]
  exact Int.mul_ne_zero (vF.nz f List.mem_cons_self) (vG.nz g List.mem_cons_self)
/-- the one quotient -/
theorem quot_one {n : Nat} {F G H : List Ent} (vF : Valid F) (vG : Valid G) (vH : Valid H) (dF : DimN n F) (dG : DimN n G) (dH : DimN n H) (hF : F ≠ []) (e : ∀ q, numAt (timesL F G) q = numAt (timesL F H) q) : G = H := by
  refine vG.ext vH fun q => ?_
  have rr := rowOf_is (G ++ negs H)
  have dr : DimN n (rowOf (G ++ negs H)) := DimN.of rr (dG.app dH.negs)
  have z : rowOf (G ++ negs H) = [] := by
    apply Classical.byContradiction
    intro c
    obtain ⟨p, hp⟩ := no_zero vF rr.v dF dr hF c
    apply hp
    rw [timesL_eq2 F rr.s, timesL_app2, timesL_neg2, e]
    omega
  have := rr.s q
  rw [z, numAt_app, numAt_negs] at this
  have h0 : numAt ([] : List Ent) q = 0 := rfl
  omega
theorem exists_min (φ : Pl → Int) : ∀ {G : List Ent}, G ≠ [] → ∃ g ∈ G, ∀ x ∈ G, φ g.1 ≤ φ x.1
  | [], h => absurd rfl h
  | [g], _ => ⟨g, List.mem_cons_self, fun x hx => by rw [List.mem_singleton.mp hx]; exact Int.le_refl _⟩
  | g :: y :: r, _ => by
    obtain ⟨m, hm, h⟩ := exists_min φ (G := y :: r) (by intro z; cases z)
    by_cases c : φ g.1 ≤ φ m.1
    · refine ⟨g, List.mem_cons_self, fun x hx => ?_⟩
      rcases List.mem_cons.mp hx with rfl | hx
      · exact Int.le_refl _
      · exact Int.le_trans c (h x hx)
    · refine ⟨m, List.mem_cons_of_mem _ hm, fun x hx => ?_⟩
      rcases List.mem_cons.mp hx with rfl | hx
      · omega
      · exact h x hx
theorem num_mem {es : List Ent} {q : Pl} (h : numAt es q ≠ 0) : ∃ e ∈ es, e.1 = q := by
  apply Classical.byContradiction
  intro z
  exact h (numAt_out fun e he y => z ⟨e, he, y⟩)
def on (φ : Pl → Int) (A : Int) (es : List Ent) : List Ent := es.filter fun e => decide (φ e.1 = A)
theorem on_valid {φ : Pl → Int} {A : Int} {es : List Ent} (h : Valid es) : Valid (on φ A es) := ⟨h.asc.sublist List.filter_sublist, fun e he => h.nz e (List.mem_filter.mp he).1⟩
theorem on_row {φ : Pl → Int} {n : Nat} (add : ∀ p q : Pl, p.length = n → q.length = n → φ (plusP p q) = φ p + φ q) {B : Int} {e : Ent} (he : e.1.length = n) {q : Pl} (hq : φ q = φ e.1 + B) : ∀ {G : List Ent}, DimN n G → numAt (rowT e G) q = numAt (rowT e (on φ B G)) q
  | [], _ => rfl
  | g :: G, dG => by
    have ih := on_row add he hq (G := G) fun x hx => dG x (List.mem_cons_of_mem _ hx)
    have hg := dG g List.mem_cons_self
    by_cases c : φ g.1 = B
    · have : on φ B (g :: G) = g :: on φ B G := List.filter_cons_of_pos (decide_eq_true c)
      rw [this]
      show _ + numAt (rowT e G) q = _ + numAt (rowT e (on φ B G)) q
      rw [ih]
    · have : on φ B (g :: G) = on φ B G := List.filter_cons_of_neg (fun z => c (of_decide_eq_true z))
      rw [this, ← ih]
      show (if plusP e.1 g.1 = q then e.2 * g.2 else 0) + numAt (rowT e G) q = _
      rw [if_neg (fun z => c (by have := add e.1 g.1 he hg; rw [z] at this; omega))]
      omega
theorem on_times {φ : Pl → Int} {n : Nat} (add : ∀ p q : Pl, p.length = n → q.length = n → φ (plusP p q) = φ p + φ q) {A B : Int} {G : List Ent} (dG : DimN n G) (mG : ∀ g ∈ G, B ≤ φ g.1) {q : Pl} (hq : φ q = A + B) : ∀ {F : List Ent}, DimN n F → (∀ f ∈ F, A ≤ φ f.1) → numAt (timesL F G) q = numAt (timesL (on φ A F) (on φ B G)) q
  | [], _, _ => rfl
  | f :: F, dF, mF => by
    have ih := on_times add dG mG hq (F := F) (fun x hx => dF x (List.mem_cons_of_mem _ hx)) fun x hx => mF x (List.mem_cons_of_mem _ hx)
    have hf := dF f List.mem_cons_self
    show numAt (rowT f G ++ timesL F G) q = _
    rw [numAt_app, ih]
    by_cases c : φ f.1 = A
    · have : on φ A (f :: F) = f :: on φ A F := List.filter_cons_of_pos (decide_eq_true c)
      rw [this]
      show _ = numAt (rowT f (on φ B G) ++ timesL (on φ A F) (on φ B G)) q
      rw [numAt_app, on_row add hf (by rw [hq, c]) dG]
    · have : on φ A (f :: F) = on φ A F := List.filter_cons_of_neg (fun z => c (of_decide_eq_true z))
      rw [this]
      have z : numAt (rowT f G) q = 0 := numAt_out fun x hx y => by
        obtain ⟨g, hg, rfl⟩ := List.mem_map.mp hx
        have h1 := add f.1 g.1 hf (dG g hg)
        have h2 : plusP f.1 g.1 = q := y
        rw [h2] at h1
        have h3 := mF f List.mem_cons_self
        have h4 := mG g hg
        omega
      rw [z]
      omega
/-- the least value of an additive function on a product is the sum of the least values -/
theorem edge {φ : Pl → Int} {n : Nat} (add : ∀ p q : Pl, p.length = n → q.length = n → φ (plusP p q) = φ p + φ q) {F G : List Ent} (vF : Valid F) (vG : Valid G) (dF : DimN n F) (dG : DimN n G) {f g : Ent} (hf : f ∈ F) (mF : ∀ x ∈ F, φ f.1 ≤ φ x.1) (hg : g ∈ G) (mG : ∀ x ∈ G, φ g.1 ≤ φ x.1) :
    ∃ q, φ q = φ f.1 + φ g.1 ∧ numAt (timesL F G) q ≠ 0 := by
  have dF' : DimN n (on φ (φ f.1) F) := fun x hx => dF x (List.mem_filter.mp hx).1
  have dG' : DimN n (on φ (φ g.1) G) := fun x hx => dG x (List.mem_filter.mp hx).1
  obtain ⟨q, hq⟩ := no_zero (on_valid (φ := φ) (A := φ f.1) vF) (on_valid (φ := φ) (A := φ g.1) vG) dF' dG' (List.ne_nil_of_mem (List.mem_filter.mpr ⟨hf, decide_eq_true rfl⟩)) (List.ne_nil_of_mem (List.mem_filter.mpr ⟨hg, decide_eq_true rfl⟩))
  obtain ⟨x, hx, e⟩ := num_mem hq
  obtain ⟨a, ha, b, hb, rfl⟩ := timesL_mem hx
  have h1 : φ q = φ f.1 + φ g.1 := by
    rw [← e]
    show φ (plusP a.1 b.1) = _
    rw [add _ _ (dF' a ha) (dG' b hb), of_decide_eq_true (List.mem_filter.mp ha).2, of_decide_eq_true (List.mem_filter.mp hb).2]
  refine ⟨q, h1, ?_⟩
  rw [on_times add dG mG h1 dF mF]
  exact hq
/-- within a box -/
def InB (lo hi t : Pl) : Prop := ∀ (k : Nat) (x y z : Int), t[k]? = some x → lo[k]? = some y → hi[k]? = some z → y ≤ x ∧ x ≤ z
def subP (k l : Pl) : Pl := List.zipWith (fun x y => x - y) k l
theorem subP_len {k l : Pl} (h : k.length = l.length) : (subP k l).length = k.length := by
  unfold subP
  rw [List.length_zipWith]
  omega
theorem subP_get {k l : Pl} {i : Nat} {z : Int} (h : (subP k l)[i]? = some z) : ∃ x y, k[i]? = some x ∧ l[i]? = some y ∧ z = x - y := by
  unfold subP at h
  rw [List.getElem?_zipWith] at h
  cases hk : k[i]? with
  | none =>
    rw [hk] at h
    cases h
  | some x =>
    cases hl : l[i]? with
    | none =>
      rw [hk, hl] at h
      cases h
    | some y =>
      rw [hk, hl] at h
      exact ⟨x, y, rfl, rfl, (Option.some.inj h).symm⟩
theorem plusP_sub : ∀ {p f : Pl}, p.length = f.length → plusP f (subP p f) = p
  | [], [], _ => rfl
  | [], _ :: _, h => by cases h
  | _ :: _, [], h => by cases h
  | x :: p, y :: f, h => by
    show (y + (x - y)) :: plusP f (subP p f) = x :: p
    rw [plusP_sub (Nat.succ.inj h), show y + (x - y) = x by omega]
theorem sub_plusP : ∀ {t f : Pl}, t.length = f.length → subP (plusP f t) f = t
  | [], [], _ => rfl
  | [], _ :: _, h => by cases h
  | _ :: _, [], h => by cases h
  | x :: t, y :: f, h => by
    show (y + x - y) :: subP (plusP f t) f = x :: t
    rw [sub_plusP (Nat.succ.inj h), show y + x - y = x by omega]
theorem coord_add {n k : Nat} (p q : Pl) (hp : p.length = n) (hq : q.length = n) : (plusP p q).getD k 0 = p.getD k 0 + q.getD k 0 := by
  by_cases h : k < n
  · have e : (plusP p q)[k]? = some (p[k] + q[k]) := by
      unfold plusP
      rw [List.getElem?_zipWith, List.getElem?_eq_getElem (by omega), List.getElem?_eq_getElem (by omega)]
    rw [List.getD_eq_getElem?_getD, List.getD_eq_getElem?_getD, List.getD_eq_getElem?_getD, e, List.getElem?_eq_getElem (by omega), List.getElem?_eq_getElem (by omega)]
    rfl
  · have z : ∀ l : Pl, l.length = n → l.getD k 0 = 0 := fun l hl => by
      rw [List.getD_eq_getElem?_getD, List.getElem?_eq_none (by omega)]
      rfl
    rw [z p hp, z q hq, z _ (by rw [plusP_len (by omega), hp])]
    rfl
theorem getD_some {l : Pl} {k : Nat} {x : Int} (h : l[k]? = some x) : l.getD k 0 = x := by
  rw [List.getD_eq_getElem?_getD, h]
  rfl
/-- a quotient lies in the quotient box -/
theorem quot_box {n : Nat} {F R S : List Ent} {rl rh fl fh : Pl} (vF : Valid F) (vS : Valid S) (dF : DimN n F) (dR : DimN n R) (dS : DimN n S) (hF : F ≠ []) (lR : IsLow R rl) (hR : IsTop R rh) (lF : IsLow F fl) (hF2 : IsTop F fh)
    (nr : rl.length = n) (nh : rh.length = n) (nf : fl.length = n) (ng : fh.length = n) (e : ∀ q, numAt R q = numAt (timesL F S) q) : ∀ s ∈ S, InB (subP rl fl) (subP rh fh) s.1 := by
  intro s hs k x y z hx hy hz
  obtain ⟨r1, f1, hr1, hf1, rfl⟩ := subP_get hy
  obtain ⟨r2, f2, hr2, hf2, rfl⟩ := subP_get hz
  have hS : S ≠ [] := List.ne_nil_of_mem hs
  have hk : k < n := by
    have := (List.getElem?_eq_some_iff.mp hr1).1
    omega
  have at1 : ∀ {es : List Ent}, DimN n es → ∀ a ∈ es, ∃ v, a.1[k]? = some v := fun d a ha => ⟨_, List.getElem?_eq_getElem (by rw [d a ha]; exact hk)⟩
  constructor
  · obtain ⟨g, hg, mG⟩ := exists_min (fun p => p.getD k 0) hS
    obtain ⟨⟨f, hf, ef⟩, mf⟩ := lF k f1 hf1
    obtain ⟨q, hq1, hq2⟩ := edge (φ := fun p => p.getD k 0) (n := n) (fun p q hp hq => coord_add p q hp hq) vF vS dF dS hf (fun a ha => by
      obtain ⟨v, hv⟩ := at1 dF a ha
      show f.1.getD k 0 ≤ a.1.getD k 0
      rw [getD_some ef, getD_some hv]
      exact mf a ha v hv) hg mG
    rw [← e] at hq2
    obtain ⟨r, hr, er⟩ := num_mem hq2
    obtain ⟨v, hv⟩ := at1 dR r hr
    have h1 := (lR k r1 hr1).2 r hr v hv
    have h2 := mG s hs
    have hq1' : q.getD k 0 = f.1.getD k 0 + g.1.getD k 0 := hq1
    have h2' : g.1.getD k 0 ≤ s.1.getD k 0 := h2
    rw [← er, getD_some hv, getD_some ef] at hq1'
    rw [getD_some hx] at h2'
    omega
  · obtain ⟨g, hg, mG⟩ := exists_min (fun p => -(p.getD k 0)) hS
    obtain ⟨⟨f, hf, ef⟩, mf⟩ := hF2 k f2 hf2
    obtain ⟨q, hq1, hq2⟩ := edge (φ := fun p => -(p.getD k 0)) (n := n) (fun p q hp hq => by
      show -((plusP p q).getD k 0) = -(p.getD k 0) + -(q.getD k 0)
      rw [coord_add p q hp hq]
      omega) vF vS dF dS hf (fun a ha => by
      obtain ⟨v, hv⟩ := at1 dF a ha
      show -(f.1.getD k 0) ≤ -(a.1.getD k 0)
      rw [getD_some ef, getD_some hv]
      have := mf a ha v hv
      omega) hg mG
    rw [← e] at hq2
    obtain ⟨r, hr, er⟩ := num_mem hq2
    obtain ⟨v, hv⟩ := at1 dR r hr
    have h1 := (hR k r2 hr2).2 r hr v hv
    have h2 := mG s hs
    have hq1' : -(q.getD k 0) = -(f.1.getD k 0) + -(g.1.getD k 0) := hq1
    have h2' : -(g.1.getD k 0) ≤ -(s.1.getD k 0) := h2
    rw [← er, getD_some hv, getD_some ef] at hq1'
    rw [getD_some hx] at h2'
    omega
/-- where division is stuck there is no quotient -/
theorem stuck {n : Nat} {f : Ent} {F R PL S : List Ent} {rl rh fl fh p : Pl} (vF : Valid (f :: F)) (dF : DimN n (f :: F)) (dR : DimN n R) (dP : DimN n PL) (dS : DimN n S) (lR : IsLow R rl) (hR : IsTop R rh) (lF : IsLow (f :: F) fl) (hF2 : IsTop (f :: F) fh)
    (nr : rl.length = n) (nh : rh.length = n) (nf : fl.length = n) (ng : fh.length = n) (bP : ∀ e ∈ PL, InB (subP rl fl) (subP rh fh) e.1) (hp : p.length = n) (h0 : numAt (R ++ negs (timesL (f :: F) PL)) p ≠ 0) (low : ∀ q, HT.lexLt q p = true → numAt (R ++ negs (timesL (f :: F) PL)) q = 0)
    (bad : ¬ f.2 ∣ numAt (R ++ negs (timesL (f :: F) PL)) p ∨ ¬ InB (subP rl fl) (subP rh fh) (subP p f.1)) (e : ∀ q, numAt R q = numAt (timesL (f :: F) S) q) : False := by
  have rS := rowOf_is S
  have eS : ∀ q, numAt R q = numAt (timesL (f :: F) (rowOf S)) q := fun q => by rw [e, timesL_eq2 _ (fun q => (rS.s q).symm)]
  have bS := quot_box vF rS.v dF dR (DimN.of rS dS) (by intro z; cases z) lR hR lF hF2 nr nh nf ng eS
  have rT := rowOf_is (rowOf S ++ negs PL)
  have dT : DimN n (rowOf (rowOf S ++ negs PL)) := DimN.of rT ((DimN.of rS dS).app dP.negs)
  have eT : ∀ q, numAt (R ++ negs (timesL (f :: F) PL)) q = numAt (timesL (f :: F) (rowOf (rowOf S ++ negs PL))) q := fun q => by
    rw [timesL_eq2 _ rT.s, timesL_app2, timesL_neg2, numAt_app, numAt_negs, eS]
  have bT : ∀ t ∈ rowOf (rowOf S ++ negs PL), InB (subP rl fl) (subP rh fh) t.1 := fun t ht => by
    obtain ⟨x, hx, ex⟩ := rT.mem ht
    rw [← ex]
    rcases List.mem_append.mp hx with hx | hx
    · exact bS x hx
    · obtain ⟨y, hy, rfl⟩ := List.mem_map.mp hx
      exact bP y hy
  cases hT : rowOf (rowOf S ++ negs PL) with
  | nil =>
    rw [eT, hT] at h0
    apply h0
    refine numAt_out fun x hx => ?_
    obtain ⟨_, _, g, hg, _⟩ := timesL_mem hx
    cases hg
  | cons t T =>
    rw [hT] at eT bT dT
    have vT : Valid (t :: T) := by rw [← hT]; exact rT.v
    obtain ⟨l1, l2⟩ := lead_at vF vT dF dT
    have hf := dF f List.mem_cons_self
    have ht := dT t List.mem_cons_self
    have hl : (plusP f.1 t.1).length = p.length := by rw [plusP_len (by omega)]; omega
    have ep : plusP f.1 t.1 = p := by
      rcases lex_tri hl with z | z | z
      · have := low _ z
        rw [eT, l1] at this
        exact absurd this (Int.mul_ne_zero (vF.nz f List.mem_cons_self) (vT.nz t List.mem_cons_self))
      · exact z
      · have := l2 p z
        rw [eT] at h0
        exact absurd this h0
    rcases bad with b | b
    · apply b
      rw [eT, ← ep, l1]
      exact ⟨t.2, rfl⟩
    · apply b
      rw [← ep, sub_plusP (by omega)]
      exact bT t List.mem_cons_self
end OT

set_option Elab.async false
set_option linter.all false
set_option maxRecDepth 100000
set_option maxHeartbeats 2000000
/-! zip of a tuple and a list -/
namespace ZM
open PySem PySem.Spec PyProof.Rows L2
/-- a source of items: its iterator, what is true of it, the items -/
structure Src (it : Addr) (P : Nat → Heap → Prop) (X : Nat → Option Value) (own : Addr → Prop) : Prop where
  self : own it
  keep : ∀ {k : Nat} {h g : Heap}, P k h → (∀ c o, own c → h.get? c = some o → g.get? c = some o) → P k g
  there : ∀ {k : Nat} {h : Heap}, P k h → ∃ o, h.get? it = some o ∧ ∀ v, o.data ≠ .cell v
  item : ∀ {prog : Program} {w : World} {A : Around} {E : Value → Shared → Prop} {s : Shared} {Q : Value → Shared → Prop} {k : Nat} {x : Value}, P k s.heap → X k = some x → (∀ g, P (k + 1) g → Heap.SameBut it s.heap g → Q x { s with heap := g }) →
    wpAny (model prog w) A (Builtin.SmallTypes.nextOf (.ref it)) Q E s
  stop : ∀ {prog : Program} {w : World} {A : Around} {E : Value → Shared → Prop} {s : Shared} {Q : Value → Shared → Prop} {k : Nat}, A.handled = none → P k s.heap → X k = none →
    (∀ g e, Heap.ExtBut it s.heap g → (∃ o, g.get? e = some o ∧ o.cls = .type "StopIteration") → E (.ref e) { s with heap := g }) → wpAny (model prog w) A (Builtin.SmallTypes.nextOf (.ref it)) Q E s
theorem src_tuple {it l : Addr} (ne : l ≠ it) (xs : Array Value) : Src it (fun k h => h.IsTupleIter it l k ∧ h.IsTuple l xs) (fun k => xs[k]?) (fun c => c = it ∨ c = l) where
  self := .inl rfl
  keep := fun ⟨h1, h2⟩ k => ⟨h1.at fun o e => k it o (.inl rfl) e, let ⟨o, e, r⟩ := h2; ⟨o, k l o (.inr rfl) e, r⟩⟩
  there := fun ⟨⟨o, e, _, d⟩, _⟩ => ⟨o, e, fun v q => by rw [d] at q; cases q⟩
  item := fun ⟨h1, h2⟩ hx hQ => RZ.nextOf_tuple_item h1 h2 hx fun g h1' sb => hQ g ⟨h1', let ⟨o, e, r⟩ := h2; ⟨o, sb.extBut _ _ ne e, r⟩⟩ sb
  stop := fun hh ⟨h1, h2⟩ hx hE => RZ.nextOf_tuple_end hh h1 h2 hx hE
theorem src_list {it l : Addr} (ne : l ≠ it) (xs : Array Value) : Src it (fun k h => h.IsListIter it l k ∧ h.IsList l xs) (fun k => xs[k]?) (fun c => c = it ∨ c = l) where
  self := .inl rfl
  keep := fun ⟨h1, h2⟩ k => ⟨h1.at fun o e => k it o (.inl rfl) e, let ⟨o, e, r⟩ := h2; ⟨o, k l o (.inr rfl) e, r⟩⟩
  there := fun ⟨⟨o, e, _, d⟩, _⟩ => ⟨o, e, fun v q => by rw [d] at q; cases q⟩
  item := fun ⟨h1, h2⟩ hx hQ => wpAny_nextOf_list_item h1 h2 hx fun g h1' sb => hQ g ⟨h1', let ⟨o, e, r⟩ := h2; ⟨o, sb.extBut _ _ ne e, r⟩⟩ sb
  stop := fun hh ⟨h1, h2⟩ hx hE => wpAny_nextOf_list_end hh h1 h2 hx hE
/-- the zip's own objects lie apart from the sources -/
structure Apart (z TI TO i1 i2 : Addr) (o1 o2 : Addr → Prop) : Prop where
  a : TI ≠ z ∧ TO ≠ z ∧ TI ≠ TO ∧ TI ≠ i1 ∧ TI ≠ i2
  l : ∀ c, o1 c → c ≠ z ∧ c ≠ TO ∧ c ≠ i2
  r : ∀ c, o2 c → c ≠ z ∧ c ≠ TO ∧ c ≠ i1
section
variable {prog : Program} {w : World} {A : Around} {E : Value → Shared → Prop} {s : Shared} {z TI TO i1 i2 : Addr} {P1 P2 : Nat → Heap → Prop} {X1 X2 : Nat → Option Value} {o1 o2 : Addr → Prop} {k : Nat} {a b : Value}
theorem item_free {x y : Value} {Q : Value → Shared → Prop} (S1 : Src i1 P1 X1 o1) (S2 : Src i2 P2 X2 o2) (D : Apart z TI TO i1 i2 o1 o2) (hz : IsZip s.heap z TI TO .none) (hTI : IsPair s.heap TI (.ref i1) (.ref i2)) (hTO : IsPair s.heap TO a b) (p1 : P1 k s.heap) (p2 : P2 k s.heap)
    (hx : X1 k = some x) (hy : X2 k = some y) (hQ : ∀ g, IsZip g z TI TO (rawInt s.heap.objs.size) → IsPair g TO x y → P1 (k + 1) g → P2 (k + 1) g → IsPair g s.heap.objs.size x y → (∀ c o, c ≠ z → c ≠ TO → c ≠ i1 → c ≠ i2 → s.heap.get? c = some o → g.get? c = some o) →
      Q (.ref s.heap.objs.size) { s with heap := g }) : wpAny (model prog w) A (Builtin.«zip.__next__» ⟨[.ref z], []⟩) (fun fin r => ∃ v, fin = .done (.ret v) ∧ Q v r) E s := by
  obtain ⟨dIz, dOz, dIO, dI1, dI2⟩ := D.a
  obtain ⟨d1z, d1O, d12⟩ := D.l i1 S1.self
  obtain ⟨d2z, d2O, _⟩ := D.r i2 S2.self
  show wpAny _ _ (field (.ref z) 2 >>= _) _ _ _
  refine wpAny_bind (wpAny_field hz rfl (x := .bool false) rfl ?_)
  show wpAny _ _ (field (.ref z) 3 >>= _) _ _ _
  refine wpAny_bind (wpAny_field hz rfl (x := .ref TI) rfl (wpAny_bind (wpAny_seqItems hTI rfl ?_)))
  show wpAny _ _ (Builtin.SmallTypes.ownedTupleIsFree (.ref z) >>= _) _ _ _
  refine wpAny_bind ?_
  unfold Builtin.SmallTypes.ownedTupleIsFree
  refine wpAny_bind (wpAny_field hz rfl (x := .none) rfl (wpAny_pure ?_))
  simp only [if_true]
  refine wpAny_bind (wpAny_rule (wpAny_bind (wpAny_field hz rfl (x := .ref TO) rfl (wpAny_bind (wpAny_setField_rec hz (by simp) fun g1 z1 s1 => ?_)))))
  replace z1 : IsZip g1 z TI TO .ellipsis := z1
  refine wpAny_bind ?_
  simp only [List.zipIdx_cons, List.zipIdx_nil, List.forIn_cons, List.forIn_nil]
  refine wpAny_bind (wpAny_bind (wpAny_onRaise ?_))
  show wpAny _ _ (Builtin.SmallTypes.nextOf (.ref i1) >>= _) _ _ _
  have p11 : P1 k g1 := S1.keep p1 fun c o hc e => s1.extBut _ _ (D.l c hc).1 e
  have p21 : P2 k g1 := S2.keep p2 fun c o hc e => s1.extBut _ _ (D.r c hc).1 e
  refine wpAny_bind (S1.item p11 hx fun g2 p12 s2 => wpAny_pure ?_)
  have t2 : IsPair g2 TO a b := s2.extBut _ _ d1O.symm (s1.extBut _ _ dOz hTO)
  have p22 : P2 k g2 := S2.keep p21 fun c o hc e => s2.extBut _ _ (D.r c hc).2.2 e
  refine wpAny_bind (wpAny_seqItems t2 rfl (wpAny_bind (wpAny_updateSeq_pair t2 fun g3 t3 s3 => ?_)))
  replace t3 : IsPair g3 TO x b := t3
  refine wpAny_bind (wpAny_letGo (wpAny_pure ?_))
  refine wpAny_bind (wpAny_bind (wpAny_onRaise ?_))
  show wpAny _ _ (Builtin.SmallTypes.nextOf (.ref i2) >>= _) _ _ _
  have p13 : P1 (k + 1) g3 := S1.keep p12 fun c o hc e => s3.extBut _ _ (D.l c hc).2.1 e
  have p23 : P2 k g3 := S2.keep p22 fun c o hc e => s3.extBut _ _ (D.r c hc).2.1 e
  refine wpAny_bind (S2.item p23 hy fun g4 p24 s4 => wpAny_pure ?_)
  have t4 : IsPair g4 TO x b := s4.extBut _ _ d2O.symm t3
  have p14 : P1 (k + 1) g4 := S1.keep p13 fun c o hc e => s4.extBut _ _ (D.l c hc).2.2 e
  refine wpAny_bind (wpAny_seqItems t4 rfl (wpAny_bind (wpAny_updateSeq_pair t4 fun g5 t5 s5 => ?_)))
  replace t5 : IsPair g5 TO x y := t5
  refine wpAny_bind (wpAny_letGo (wpAny_pure (wpAny_pure (wpAny_bind (wpAny_seqItems t5 rfl (wpAny_bind (wpAny_newTuple ?_)))))))
  have p15 : P1 (k + 1) g5 := S1.keep p14 fun c o hc e => s5.extBut _ _ (D.l c hc).2.1 e
  have p25 : P2 (k + 1) g5 := S2.keep p24 fun c o hc e => s5.extBut _ _ (D.r c hc).2.1 e
  have size : g5.objs.size = s.heap.objs.size := by rw [s5.1, s4.1, s3.1, s2.1, s1.1]
  have z5 : IsZip g5 z TI TO .ellipsis := s5.extBut _ _ dOz.symm (s4.extBut _ _ d2z.symm (s3.extBut _ _ dOz.symm (s2.extBut _ _ d1z.symm z1)))
  have k5 : ∀ c o, c ≠ z → c ≠ TO → c ≠ i1 → c ≠ i2 → s.heap.get? c = some o → g5.get? c = some o := fun c o c1 c2 c3 c4 e => s5.extBut _ _ c2 (s4.extBut _ _ c4 (s3.extBut _ _ c2 (s2.extBut _ _ c3 (s1.extBut _ _ c1 e))))
  have zlt : z < g5.objs.size := Heap.lt_size z5
  show wpAny _ _ (Builtin.SmallTypes.ownedTupleHandOut (.ref z) (.ref g5.objs.size) >>= _) _ _ _
  refine wpAny_bind ?_
  unfold Builtin.SmallTypes.ownedTupleHandOut
  have z6 : IsZip (g5.push { cls := .type "tuple", data := .seq #[x, y] }) z TI TO .ellipsis := Heap.get?_push_of_some _ z5
  refine wpAny_bind (wpAny_setField_rec z6 (by simp) fun g7 z7 s7 => ?_)
  replace z7 : IsZip g7 z TI TO (rawInt g5.objs.size) := z7
  refine wpAny_setField_rec z7 (by simp) fun g8 z8 s8 => ?_
  replace z8 : IsZip g8 z TI TO (rawInt g5.objs.size) := z8
  have up : ∀ c o, c ≠ z → g5.get? c = some o → g8.get? c = some o := fun c o c1 e => s8.extBut _ _ c1 (s7.extBut _ _ c1 (Heap.get?_push_of_some _ e))
  have t8 : IsPair g8 g5.objs.size x y := s8.extBut _ _ (Nat.ne_of_gt zlt) (s7.extBut _ _ (Nat.ne_of_gt zlt) (Heap.get?_push_size _ rfl))
  rw [size] at z8 t8
  refine wpAny_pure ⟨_, rfl, ?_⟩
  show Q (.ref g5.objs.size) _
  rw [size]
  exact hQ g8 z8 (up _ _ dOz t5) (S1.keep p15 fun c o hc e => up c o (D.l c hc).1 e) (S2.keep p25 fun c o hc e => up c o (D.r c hc).1 e) t8 fun c o c1 c2 c3 c4 e => up c o c1 (k5 c o c1 c2 c3 c4 e)
theorem stop_free {Q : Fin → Shared → Prop} (hh : A.handled = none) (S1 : Src i1 P1 X1 o1) (S2 : Src i2 P2 X2 o2) (D : Apart z TI TO i1 i2 o1 o2) (hz : IsZip s.heap z TI TO .none) (hTI : IsPair s.heap TI (.ref i1) (.ref i2)) (hTO : IsPair s.heap TO a b) (p1 : P1 k s.heap) (p2 : P2 k s.heap)
    (hend : X1 k = none ∨ X2 k = none) (hE : ∀ g e, (∀ c o, c ≠ z → c ≠ TO → c ≠ i1 → c ≠ i2 → s.heap.get? c = some o → g.get? c = some o) → (∃ o, g.get? e = some o ∧ o.cls = .type "StopIteration") → E (.ref e) { s with heap := g }) :
    wpAny (model prog w) A (Builtin.«zip.__next__» ⟨[.ref z], []⟩) Q E s := by
  obtain ⟨dIz, dOz, dIO, dI1, dI2⟩ := D.a
  obtain ⟨d1z, d1O, d12⟩ := D.l i1 S1.self
  obtain ⟨d2z, d2O, _⟩ := D.r i2 S2.self
  show wpAny _ _ (field (.ref z) 2 >>= _) _ _ _
  refine wpAny_bind (wpAny_field hz rfl (x := .bool false) rfl ?_)
  show wpAny _ _ (field (.ref z) 3 >>= _) _ _ _
  refine wpAny_bind (wpAny_field hz rfl (x := .ref TI) rfl (wpAny_bind (wpAny_seqItems hTI rfl ?_)))
  show wpAny _ _ (Builtin.SmallTypes.ownedTupleIsFree (.ref z) >>= _) _ _ _
  refine wpAny_bind ?_
  unfold Builtin.SmallTypes.ownedTupleIsFree
  refine wpAny_bind (wpAny_field hz rfl (x := .none) rfl (wpAny_pure ?_))
  simp only [if_true]
  refine wpAny_bind (wpAny_rule (wpAny_bind (wpAny_field hz rfl (x := .ref TO) rfl (wpAny_bind (wpAny_setField_rec hz (by simp) fun g1 z1 s1 => ?_)))))
  replace z1 : IsZip g1 z TI TO .ellipsis := z1
  refine wpAny_bind ?_
  simp only [List.zipIdx_cons, List.zipIdx_nil, List.forIn_cons, List.forIn_nil]
  refine wpAny_bind (wpAny_bind (wpAny_onRaise ?_))
  show wpAny _ _ (Builtin.SmallTypes.nextOf (.ref i1) >>= _) _ _ _
  have p11 : P1 k g1 := S1.keep p1 fun c o hc e => s1.extBut _ _ (D.l c hc).1 e
  have p21 : P2 k g1 := S2.keep p2 fun c o hc e => s1.extBut _ _ (D.r c hc).1 e
  cases hx : X1 k with
  | none =>
    refine wpAny_bind (S1.stop hh p11 hx fun g2 e s2 ⟨oe, he, ce⟩ => ?_)
    have z2 : IsZip g2 z TI TO .ellipsis := s2 _ _ d1z.symm z1
    have nez : e ≠ z := by
      rintro rfl
      rw [z2] at he
      cases he
      simp at ce
    exact wpAny_setField_rec z2 (by simp) fun g3 _ s3 => hE g3 e (fun c o c1 _ c3 _ q => s3.extBut _ _ c1 (s2 _ _ c3 (s1.extBut _ _ c1 q))) ⟨oe, s3.extBut _ _ nez he, ce⟩
  | some x =>
    have hy : X2 k = none := hend.elim (fun q => by rw [hx] at q; cases q) id
    refine wpAny_bind (S1.item p11 hx fun g2 p12 s2 => wpAny_pure ?_)
    have t2 : IsPair g2 TO a b := s2.extBut _ _ d1O.symm (s1.extBut _ _ dOz hTO)
    have p22 : P2 k g2 := S2.keep p21 fun c o hc e => s2.extBut _ _ (D.r c hc).2.2 e
    refine wpAny_bind (wpAny_seqItems t2 rfl (wpAny_bind (wpAny_updateSeq_pair t2 fun g3 t3 s3 => ?_)))
    refine wpAny_bind (wpAny_letGo (wpAny_pure ?_))
    refine wpAny_bind (wpAny_bind (wpAny_onRaise ?_))
    show wpAny _ _ (Builtin.SmallTypes.nextOf (.ref i2) >>= _) _ _ _
    have p23 : P2 k g3 := S2.keep p22 fun c o hc e => s3.extBut _ _ (D.r c hc).2.1 e
    refine wpAny_bind (S2.stop hh p23 hy fun g4 e s4 ⟨oe, he, ce⟩ => ?_)
    have z4 : IsZip g4 z TI TO .ellipsis := s4 _ _ d2z.symm (s3.extBut _ _ dOz.symm (s2.extBut _ _ d1z.symm z1))
    have nez : e ≠ z := by
      rintro rfl
      rw [z4] at he
      cases he
      simp at ce
    exact wpAny_setField_rec z4 (by simp) fun g5 _ s5 => hE g5 e (fun c o c1 c2 c3 c4 q => s5.extBut _ _ c1 (s4 _ _ c4 (s3.extBut _ _ c2 (s2.extBut _ _ c3 (s1.extBut _ _ c1 q))))) ⟨oe, s5.extBut _ _ nez he, ce⟩
theorem next_item {x y : Value} {Q : Option Value → Shared → Prop} (S1 : Src i1 P1 X1 o1) (S2 : Src i2 P2 X2 o2) (D : Apart z TI TO i1 i2 o1 o2) (hz : IsZip s.heap z TI TO .none) (hTI : IsPair s.heap TI (.ref i1) (.ref i2)) (hTO : IsPair s.heap TO a b) (p1 : P1 k s.heap) (p2 : P2 k s.heap)
    (hx : X1 k = some x) (hy : X2 k = some y) (hQ : ∀ g, IsZip g z TI TO (rawInt s.heap.objs.size) → IsPair g TO x y → P1 (k + 1) g → P2 (k + 1) g → IsPair g s.heap.objs.size x y → (∀ c o, c ≠ z → c ≠ TO → c ≠ i1 → c ≠ i2 → s.heap.get? c = some o → g.get? c = some o) →
      Q (some (.ref s.heap.objs.size)) { s with heap := g }) : wpAny (model prog w) A (pyNext (.ref z)) Q E s := by
  have ty : s.TypeIs (.ref z) "zip" := ⟨_, hz, rfl⟩
  unfold pyNext
  refine wpAny_bind (wpAny_attempt (wpAny_callSpecial?_slot (name := Str.ofString "__next__") ty F.slot_zip_next (wpAny_call_entry F.slot_zip_next ty F.entry_zip_next ?_ (F.args_zip_next_1 _))))
  exact item_free S1 S2 D hz hTI hTO p1 p2 hx hy fun g b1 b2 b3 b4 b5 b6 => wpAny_pure (hQ g b1 b2 b3 b4 b5 b6)
theorem next_stop {Q : Option Value → Shared → Prop} (hh : A.handled = none) (S1 : Src i1 P1 X1 o1) (S2 : Src i2 P2 X2 o2) (D : Apart z TI TO i1 i2 o1 o2) (hz : IsZip s.heap z TI TO .none) (hTI : IsPair s.heap TI (.ref i1) (.ref i2)) (hTO : IsPair s.heap TO a b) (p1 : P1 k s.heap) (p2 : P2 k s.heap)
    (hend : X1 k = none ∨ X2 k = none) (hQ : ∀ g, (∀ c o, c ≠ z → c ≠ TO → c ≠ i1 → c ≠ i2 → s.heap.get? c = some o → g.get? c = some o) → Q none { s with heap := g }) : wpAny (model prog w) A (pyNext (.ref z)) Q E s := by
  have ty : s.TypeIs (.ref z) "zip" := ⟨_, hz, rfl⟩
  unfold pyNext
  refine wpAny_bind (wpAny_attempt (wpAny_callSpecial?_slot (name := Str.ofString "__next__") ty F.slot_zip_next (wpAny_call_entry F.slot_zip_next ty F.entry_zip_next (stop_free hh S1 S2 D hz hTI hTO p1 p2 hend fun g e hk ⟨o, ho, hc⟩ => ?_) (F.args_zip_next_1 _))))
  exact wpAny_bind (wpAny_isInstance (T := "StopIteration") (b := true) ⟨o, ho, hc⟩ isSubtype_stop (wpAny_pure (hQ _ hk)))
end
/-- the five objects that zip makes over a tuple and a list -/
def mkA (h : Heap) (l1 : Addr) : Heap := h.push { cls := .type "tuple_iterator", data := .fields #[.ref l1, .int 0 0] }
def mkB (h : Heap) (l1 l2 : Addr) : Heap := (mkA h l1).push { cls := .type "list_iterator", data := .fields #[.ref l2, .int 0 0] }
def mkC (h : Heap) (l1 l2 : Addr) : Heap := (mkB h l1 l2).push { cls := .type "tuple", data := .seq #[.ref h.objs.size, .ref (mkA h l1).objs.size] }
def mkD (h : Heap) (l1 l2 : Addr) : Heap := (mkC h l1 l2).push { cls := .type "tuple", data := .seq #[.none, .none] }
def mkE (h : Heap) (l1 l2 : Addr) : Heap := (mkD h l1 l2).push { cls := .type "zip", data := .fields #[.none, .bool false, .bool false, .ref (mkB h l1 l2).objs.size, .ref (mkC h l1 l2).objs.size] }
theorem meets_new (l1 l2 : Addr) (xs ys : Array Value) :
    Meets (Builtin.«zip.__new__» ⟨[.type "zip", .ref l1, .ref l2], []⟩) (fun _ R s => s.heap.IsTuple l1 xs ∧ s.heap.IsList l2 ys ∧ R (.ok (.ret (.ref (mkD s.heap l1 l2).objs.size))) { s with heap := mkE s.heap l1 l2 }) :=
  .of_wp fun prog w A R s h => by
    obtain ⟨hp, gs, d, tk, os⟩ := s
    obtain ⟨hl1, hl2, h⟩ := h
    have hsub := sub_zip
    have hL1 : Heap.IsTuple (Shared.heap ⟨hp, gs, d, tk, os⟩) l1 xs := hl1
    have hL2 : Heap.IsList (Shared.heap ⟨hp.push { cls := .type "tuple_iterator", data := .fields #[.ref l1, .int 0 0] }, gs, d, tk, os⟩) l2 ys := Heap.IsList.push hl2 _
    wp_walk using wpAny_pyIter_tuple hL1, wpAny_pyIter_list hL2
    exact ⟨_, rfl, h⟩
section
variable {prog : Program} {w : World} {A : Around} {E : Value → Shared → Prop} {s : Shared}
theorem call_zipM {l1 l2 : Addr} {xs ys : Array Value} {Q : Value → Shared → Prop} (hl1 : s.heap.IsTuple l1 xs) (hl2 : s.heap.IsList l2 ys)
    (h : ∀ g, IsZip g (s.heap.objs.size + 4) (s.heap.objs.size + 2) (s.heap.objs.size + 3) .none → IsPair g (s.heap.objs.size + 2) (.ref s.heap.objs.size) (.ref (s.heap.objs.size + 1)) → IsPair g (s.heap.objs.size + 3) .none .none → g.IsTupleIter s.heap.objs.size l1 0 → g.IsListIter (s.heap.objs.size + 1) l2 0 →
      (∀ c o, s.heap.get? c = some o → g.get? c = some o) → Q (.ref (s.heap.objs.size + 4)) { s with heap := g }) : wpAny (model prog w) A (call (.type "zip") [.ref l1, .ref l2]) Q E s := by
  refine callType_new F.called_zip (by decide) (F.typeCall_zip_2 _ _) (F.newCall_zip_2 _ _) (fun obj => F.args_object_init_3 obj _ _) F.entry_zip_new (meets_new l1 l2 xs ys) ⟨hl1, hl2, ?_⟩
  have nA : (mkA s.heap l1).objs.size = s.heap.objs.size + 1 := Heap.size_push ..
  have nB : (mkB s.heap l1 l2).objs.size = s.heap.objs.size + 2 := (Heap.size_push ..).trans (by rw [nA])
  have nC : (mkC s.heap l1 l2).objs.size = s.heap.objs.size + 3 := (Heap.size_push ..).trans (by rw [nB])
  have nD : (mkD s.heap l1 l2).objs.size = s.heap.objs.size + 4 := (Heap.size_push ..).trans (by rw [nC])
  have upB : ∀ c o, (mkA s.heap l1).get? c = some o → (mkB s.heap l1 l2).get? c = some o := fun c o e => Heap.get?_push_of_some _ e
  have upC : ∀ c o, (mkB s.heap l1 l2).get? c = some o → (mkC s.heap l1 l2).get? c = some o := fun c o e => Heap.get?_push_of_some _ e
  have upD : ∀ c o, (mkC s.heap l1 l2).get? c = some o → (mkD s.heap l1 l2).get? c = some o := fun c o e => Heap.get?_push_of_some _ e
  have upE : ∀ c o, (mkD s.heap l1 l2).get? c = some o → (mkE s.heap l1 l2).get? c = some o := fun c o e => Heap.get?_push_of_some _ e
  have g1 : (mkE s.heap l1 l2).get? s.heap.objs.size = some _ := upE _ _ (upD _ _ (upC _ _ (upB _ _ (Heap.get?_push_size _ rfl))))
  have g2 : (mkE s.heap l1 l2).get? (mkA s.heap l1).objs.size = some _ := upE _ _ (upD _ _ (upC _ _ (Heap.get?_push_size _ rfl)))
  have g3 : (mkE s.heap l1 l2).get? (mkB s.heap l1 l2).objs.size = some _ := upE _ _ (upD _ _ (Heap.get?_push_size _ rfl))
  have g4 : (mkE s.heap l1 l2).get? (mkC s.heap l1 l2).objs.size = some _ := upE _ _ (Heap.get?_push_size _ rfl)
  have g5 : (mkE s.heap l1 l2).get? (mkD s.heap l1 l2).objs.size = some _ := Heap.get?_push_size _ rfl
  show _ ∧ _
  rw [nB, nC, nD] at g5
  rw [nA, nB] at g3
  rw [nC] at g4
  rw [nA] at g2
  rw [nD]
  exact ⟨⟨_, g5, rfl⟩, h _ g5 g3 g4 ⟨_, g1, rfl, rfl⟩ ⟨_, g2, rfl, rfl⟩ fun c o e => upE _ _ (upD _ _ (upC _ _ (upB _ _ (Heap.get?_push_of_some _ e))))⟩
end
/-- the tuple at a and the list at b, item by item, in new pairs -/
def ItzM (K : PySem.W.Frag) (a b : Addr) : It :=
  ⟨fun i H => ∃ xs ys x y, SqT K H a xs ∧ SqL K H b ys ∧ xs[i]? = some x ∧ ys[i]? = some y,
   fun i H v H' => ∃ T x y, v = .ref T ∧ H T = none ∧ H' = upd H T (.tup [x, y]) ∧ (∀ xs, SqT K H a xs → xs[i]? = some x) ∧ ∀ ys, SqL K H b ys → ys[i]? = some y,
   fun i H => ∃ xs ys, SqT K H a xs ∧ SqL K H b ys ∧ (xs.length ≤ i ∨ ys.length ≤ i)⟩
theorem mem5 {c z TI TO i1 i2 : Addr} (h : c ∈ [z, TI, TO, i1, i2]) : c = z ∨ c = TI ∨ c = TO ∨ c = i1 ∨ c = i2 := by simpa using h
theorem turn_zipM {P : Program} {w : World} {K : PySem.W.Frag} {elts : List Expr} {kk : Nat} {tpos : Pos} {a b z TI TO i1 i2 : Addr} (D : ZipApart z TI TO i1 i2 a b) :
    Turn P w K (.Tuple elts kk tpos) (ItzM K a b) [z, TI, TO, i1, i2] z (fun i h => IsZip h z TI TO .none ∧ IsPair h TI (.ref i1) (.ref i2) ∧ (∃ x y, IsPair h TO x y) ∧ h.IsTupleIter i1 a i ∧ h.IsListIter i2 b i) := by
  have ap : Apart z TI TO i1 i2 (fun c => c = i1 ∨ c = a) (fun c => c = i2 ∨ c = b) := ⟨⟨D.TIz, D.TOz, D.TITO, D.TIi1, D.TIi2⟩, fun c hc => by
    rcases hc with rfl | rfl
    · exact ⟨D.i1z, D.TOi1.symm, D.i12⟩
    · exact ⟨D.l1z, D.l1TO, D.l1i2⟩, fun c hc => by
    rcases hc with rfl | rfl
    · exact ⟨D.i2z, D.TOi2.symm, D.i12.symm⟩
    · exact ⟨D.l2z, D.l2TO, D.l2i1⟩⟩
  refine ⟨by simp, fun i h st c hc => ?_, fun i h g st k => ?_, ?_, ?_, fun A i s Q E st h => wpAny_pyIter_zip st.1 h⟩
  · obtain ⟨hz, hI, ⟨x, y, hO⟩, ⟨p1, e1, _, d1⟩, ⟨p2, e2, _, d2⟩⟩ := st
    rcases mem5 hc with rfl | rfl | rfl | rfl | rfl
    · exact ⟨_, hz, fun v q => nomatch q⟩
    · exact ⟨_, hI, fun v q => nomatch q⟩
    · exact ⟨_, hO, fun v q => nomatch q⟩
    · exact ⟨p1, e1, fun v q => by rw [d1] at q; cases q⟩
    · exact ⟨p2, e2, fun v q => by rw [d2] at q; cases q⟩
  · obtain ⟨hz, hI, ⟨x, y, hO⟩, h1, h2⟩ := st
    exact ⟨k z (by simp) _ hz, k TI (by simp) _ hI, ⟨x, y, k TO (by simp) _ hO⟩, h1.at fun o q => k i1 (by simp) o q, h2.at fun o q => k i2 (by simp) o q⟩
  · intro X hP hw hK hc i pins s σ H E I hf st hg
    subst hP hw hK
    obtain ⟨hz, hI, ⟨x0, y0, hO⟩, h1, h2⟩ := st
    obtain ⟨xs, ys, x, y, qa, qb, hx, hy⟩ := hg
    obtain ⟨us, ra, pa, _⟩ := I.tuple qa
    obtain ⟨vs, rb, pb, _⟩ := I.list qb
    obtain ⟨u, hu, ru⟩ := ra.get hx
    obtain ⟨v, hv, rv⟩ := rb.get hy
    have zlt : z < s.heap.objs.size := Heap.lt_size hz
    refine next_item (src_tuple D.l1i1 us.toArray) (src_list D.l2i2 vs.toArray) ap hz hI hO ⟨h1, pa⟩ ⟨h2, pb.isList⟩ (x := u) (y := v) (by simpa using hu) (by simpa using hv) fun g z1 O1 p1 p2 hT hk => ?_
    refine ⟨_, rfl, wpAny_letOwnedTupleGo_zip (s := { s with heap := g }) z1 fun g2 z2 sb => ?_⟩
    have hT2 : g2.get? s.heap.objs.size = some { cls := .type "tuple", data := .seq #[u, v] } := (sb.2 _ (Nat.ne_of_gt zlt)).trans hT
    have new : ObjOk X.prog X.w (upd H s.heap.objs.size (.tup [x, y])) g2 s.heap.objs.size (.tup [x, y]) := ⟨by show 2 ≤ sizeLine; decide, [u, v], .cons ru (.cons rv .nil), ⟨_, hT2, rfl, _, rfl⟩⟩
    have old : ∀ c o, c ∉ [z, TI, TO, i1, i2] → s.heap.get? c = some o → g2.get? c = some o := fun c o hb q => by
      have ne : ∀ d, d ∈ [z, TI, TO, i1, i2] → c ≠ d := fun d hd e => hb (e ▸ hd)
      exact (sb.2 c (ne z (by simp))).trans (hk c o (ne z (by simp)) (ne TO (by simp)) (ne i1 (by simp)) (ne i2 (by simp)) q)
    have I1 : Inv X pins σ (upd H s.heap.objs.size (.tup [x, y])) { s with heap := g2 } := I.turnedNew (t' := s.toks) (ch := [z, TI, TO, i1, i2]) old hf (Nat.le_refl _) new
    refine ⟨.ref s.heap.objs.size, _, I1, rfl, ⟨_, x, y, rfl, I.hok.fresh (Nat.le_refl _), rfl, fun l hl => by rw [I.tuple_inj hl qa]; exact hx, fun l hl => by rw [I.list_inj hl qb]; exact hy⟩, ⟨z2, ?_, ⟨u, v, ?_⟩, ?_, ?_⟩, fun c hcm => ?_⟩
    · exact (sb.2 _ D.TIz).trans (hk _ _ D.TIz D.TITO D.TIi1 D.TIi2 hI)
    · exact (sb.2 _ D.TOz).trans O1
    · exact p1.1.at fun o q => (sb.2 _ D.i1z).trans q
    · exact p2.1.at fun o q => (sb.2 _ D.i2z).trans q
    · have lt : c < s.heap.objs.size := by
        rcases mem5 hcm with rfl | rfl | rfl | rfl | rfl
        · exact zlt
        · exact Heap.lt_size hI
        · exact Heap.lt_size hO
        · obtain ⟨_, e, _⟩ := h1
          exact Heap.lt_size e
        · obtain ⟨_, e, _⟩ := h2
          exact Heap.lt_size e
      rw [upd_ne (Nat.ne_of_lt lt)]
      exact (hf c hcm).1
  · intro X hP hw hK hc i pins s σ H E I hf st hg
    subst hP hw hK
    obtain ⟨hz, hI, ⟨x0, y0, hO⟩, h1, h2⟩ := st
    obtain ⟨xs, ys, qa, qb, fin⟩ := hg
    obtain ⟨us, ra, pa, _⟩ := I.tuple qa
    obtain ⟨vs, rb, pb, _⟩ := I.list qb
    have la := ra.length
    have lb := rb.length
    refine next_stop (I.ok.hd hc) (src_tuple D.l1i1 us.toArray) (src_list D.l2i2 vs.toArray) ap hz hI hO ⟨h1, pa⟩ ⟨h2, pb.isList⟩ (fin.imp (fun q => by simp; omega) fun q => by simp; omega) fun g hk => ⟨rfl, ?_⟩
    refine I.turnedL (t' := s.toks) (ch := [z, TI, TO, i1, i2]) (fun c o hb q => ?_) hf
    have ne : ∀ d, d ∈ [z, TI, TO, i1, i2] → c ≠ d := fun d hd e => hb (e ▸ hd)
    exact hk c o (ne z (by simp)) (ne TO (by simp)) (ne i1 (by simp)) (ne i2 (by simp)) q
def iZipM (K : PySem.W.Frag) (ta : TA) : TI := fun σ H R => ta σ H fun vs G => ∃ a b xs ys, vs = [.ref a, .ref b] ∧ SqT K G a xs ∧ SqL K G b ys ∧ R (ItzM K a b) G
theorem pi_zipM {X : Cx} {e e2 : Expr} {ta : TA} {p pos tpos : Pos} {elts : List Expr} {kk : Nat} (hg : Gl X "zip") (hm : X.mg "zip" = none) (ha : PA X [e, e2] ta) (hs : starEach [e, e2] X.env = (false, eval e X.env) :: starEach [e2] X.env := by rfl)
    (hpl : (backTo pos (starEach [e2] X.env)).any (·.1) = false := by rfl) : PI X (.Tuple elts kk tpos) (.Call (.Name "zip" p) [e, e2] [] pos) (iZipM X.K ta) := by
  refine ⟨fun pins s σ H R I h => ?_⟩
  refine Call_ (ld_blt I hg hm PyProof.Rows.boot_zip (PyProof.Rows.callWith_type1 (thn (ha.run pos pins s σ H _ I h) fun us s1 ⟨vs, G, J, r, a, b, xs, ys, ex, qa, qb, q⟩ => ?_) hs hpl))
  subst ex
  cases r with
  | cons r1 rr =>
  cases rr with
  | cons r2 rr =>
  cases rr
  cases r1
  cases r2
  obtain ⟨us, ra, pa, _⟩ := J.tuple qa
  obtain ⟨vs, rb, pb, _⟩ := J.list qb
  obtain ⟨o1, ho1, _⟩ := id pa
  have lb : b < s1.heap.objs.size := pb.lt
  refine call_zipM (show s1.heap.IsTuple a us.toArray from pa) pb.isList fun g hz hI hO h1 h2 hk => wpAny_pyIter_zip hz ?_
  have J2 : Inv X pins σ G { s1 with heap := g } := J.kept (t' := s1.toks) hk
  refine ⟨s1.heap.objs.size + 4, [s1.heap.objs.size + 4, s1.heap.objs.size + 2, s1.heap.objs.size + 3, s1.heap.objs.size, s1.heap.objs.size + 1], _, _, G, rfl, J2, turn_zipM (PySem.W.ktu_apart s1.heap.objs.size a b (Heap.lt_size ho1) lb), ⟨hz, hI, ⟨_, _, hO⟩, h1, h2⟩, fun c hc => ?_, q⟩
  have le : s1.heap.objs.size ≤ c := by
    rcases mem5 hc with rfl | rfl | rfl | rfl | rfl <;> omega
  exact J.fpOk le (J.hok.fresh le)
theorem walk_zipM {K : PySem.W.Frag} {a b : Addr} {xs ys : List V} : Walk (ItzM K a b) (min xs.length ys.length) (fun H => SqT K H a xs ∧ SqL K H b ys) (YPair (fun i => xs[i]?) fun i => ys[i]?) where
  goes := fun i _ hi q => ⟨xs, ys, xs[i]'(by omega), ys[i]'(by omega), q.1, q.2, List.getElem?_eq_getElem (by omega), List.getElem?_eq_getElem (by omega)⟩
  stops := fun _ q => ⟨xs, ys, q.1, q.2, by omega⟩
  yields := fun i H v H' _ q ⟨T, x, y, h1, h2, h3, h4, h5⟩ => ⟨T, x, y, h1, h2, h3, h4 xs q.1, h5 ys q.2⟩
end ZM

set_option Elab.async false
set_option linter.all false
set_option maxRecDepth 100000
set_option maxHeartbeats 2000000
/-! heapq: pushing and popping ints; first the lists -/
namespace HQ
def g (l : List Int) (i : Nat) : Int := l.getD i 0
def par (i : Nat) : Nat := (i - 1) / 2
structure IsHeap (l : List Int) : Prop where
  h : ∀ i, 1 ≤ i → i < l.length → g l (par i) ≤ g l i
/-- the item at pos may be too great; its children are right under its parent -/
structure Down (l : List Int) (pos : Nat) : Prop where
  a : ∀ i, 1 ≤ i → i < l.length → i ≠ pos → par i ≠ pos → g l (par i) ≤ g l i
  b : ∀ i, 1 ≤ i → i < l.length → par i = pos → 1 ≤ pos → g l (par pos) ≤ g l i
/-- the item at pos may be too small -/
structure Up (l : List Int) (pos : Nat) : Prop where
  a : ∀ i, 1 ≤ i → i < l.length → i ≠ pos → g l (par i) ≤ g l i
  b : ∀ i, 1 ≤ i → i < l.length → par i = pos → 1 ≤ pos → g l (par pos) ≤ g l i
def swp (l : List Int) (i j : Nat) : List Int := (l.set i (g l j)).set j (g l i)
theorem swp_len (l : List Int) (i j : Nat) : (swp l i j).length = l.length := by
  unfold swp
  rw [List.length_set, List.length_set]
theorem g_set {l : List Int} {i k : Nat} {x : Int} (h : i < l.length) : g (l.set i x) k = if k = i then x else g l k := by
  unfold g
  rw [List.getD_eq_getElem?_getD, List.getD_eq_getElem?_getD, List.getElem?_set]
  by_cases c : i = k
  · subst c
    rw [if_pos rfl, if_pos rfl, if_pos h]
    rfl
  · rw [if_neg c, if_neg (fun z => c z.symm)]
theorem g_swp {l : List Int} {i j : Nat} (hi : i < l.length) (hj : j < l.length) (k : Nat) : g (swp l i j) k = if k = j then g l i else if k = i then g l j else g l k := by
  unfold swp
  rw [g_set (by rw [List.length_set]; exact hj), g_set hi]
theorem getE {l : List Int} {i : Nat} (h : i < l.length) : l[i]? = some (g l i) := by
  unfold g
  rw [List.getD_eq_getElem?_getD, List.getElem?_eq_getElem h]
  rfl
theorem swp_perm {l : List Int} {i j : Nat} (hi : i < l.length) (hj : j < l.length) : (swp l i j).Perm l := by
  have key : ∀ (x : Int), (swp l i j).count x = l.count x := fun x => by
    unfold swp
    by_cases c : i = j
    · subst c
      have : (l.set i (g l i)).set i (g l i) = l := by
        rw [List.set_set]
        refine List.ext_getElem? fun k => ?_
        rw [List.getElem?_set]
        by_cases d : i = k
        · subst d
          rw [if_pos rfl, if_pos hi, getE hi]
        · rw [if_neg d]
      rw [this]
    · rw [List.count_set (by rw [List.length_set]; exact hj), List.count_set hi]
      have e1 : (l.set i (g l j))[j]'(by rw [List.length_set]; exact hj) = g l j := by
        rw [List.getElem_set_ne c]
        have := getE hj
        rw [List.getElem?_eq_getElem hj] at this
        exact Option.some.inj this
      have e2 : l[i] = g l i := by
        have := getE hi
        rw [List.getElem?_eq_getElem hi] at this
        exact Option.some.inj this
      rw [e1, e2]
      have p1 : 0 < l.count (g l i) := List.count_pos_iff.mpr (by rw [← e2]; exact List.getElem_mem hi)
      by_cases d : g l i = g l j
      · rw [d] at p1 ⊢
        by_cases f : (g l j == x) = true
        · have : g l j = x := eq_of_beq f
          subst this
          simp
          omega
        · simp [f]
      · by_cases f : (g l i == x) = true
        · have : g l i = x := eq_of_beq f
          subst this
          have k : (g l j == g l i) = false := beq_eq_false_iff_ne.mpr fun z => d z.symm
          simp [k]
          omega
        · by_cases k : (g l j == x) = true
          · have : g l j = x := eq_of_beq k
            subst this
            simp [f]
          · simp [f, k]
  exact List.perm_iff_count.mpr key
theorem par_lt {i : Nat} (h : 1 ≤ i) : par i < i := by
  unfold par
  omega
/-- the child that goes up -/
def child (l : List Int) (pos : Nat) : Nat := if 2 * pos + 1 + 1 < l.length ∧ ¬ g l (2 * pos + 1) < g l (2 * pos + 1 + 1) then 2 * pos + 1 + 1 else 2 * pos + 1
theorem child_ok {l : List Int} {pos : Nat} (h : pos < l.length / 2) : par (child l pos) = pos ∧ 1 ≤ child l pos ∧ pos < child l pos ∧ child l pos < l.length ∧ ∀ i, 1 ≤ i → i < l.length → par i = pos → g l (child l pos) ≤ g l i := by
  unfold child
  by_cases c : 2 * pos + 1 + 1 < l.length ∧ ¬ g l (2 * pos + 1) < g l (2 * pos + 1 + 1)
  · rw [if_pos c]
    refine ⟨by unfold par; omega, by omega, by omega, c.1, fun i h1 h2 h3 => ?_⟩
    unfold par at h3
    have : i = 2 * pos + 1 ∨ i = 2 * pos + 1 + 1 := by omega
    rcases this with rfl | rfl
    · omega
    · exact Int.le_refl _
  · rw [if_neg c]
    refine ⟨by unfold par; omega, by omega, by omega, by omega, fun i h1 h2 h3 => ?_⟩
    unfold par at h3
    have : i = 2 * pos + 1 ∨ i = 2 * pos + 1 + 1 := by omega
    rcases this with rfl | rfl
    · exact Int.le_refl _
    · apply Classical.byContradiction
      intro z
      exact c ⟨h2, by omega⟩
theorem Down.step {l : List Int} {pos : Nat} (h : Down l pos) (hp : pos < l.length / 2) : Down (swp l (child l pos) pos) (child l pos) := by
  obtain ⟨c1, c2, c3, c4, c5⟩ := child_ok hp
  generalize child l pos = c at *
  have hpl : pos < l.length := by omega
  have gs := g_swp (l := l) c4 hpl
  refine ⟨fun i h1 h2 h3 h4 => ?_, fun i h1 h2 h3 h4 => ?_⟩
  · rw [swp_len] at h2
    have h5 := par_lt h1
    rw [gs, gs, if_neg (c := i = c) h3, if_neg (c := par i = c) h4]
    by_cases k1 : i = pos
    · subst k1
      rw [if_pos rfl, if_neg (by omega)]
      exact h.b c c2 c4 c1 (by omega)
    · rw [if_neg k1]
      by_cases k2 : par i = pos
      · rw [if_pos k2]
        exact c5 i h1 h2 k2
      · rw [if_neg k2]
        exact h.a i h1 h2 k1 k2
  · rw [swp_len] at h2
    have h5 := par_lt h1
    rw [c1, gs, gs, if_pos rfl, if_neg (by omega), if_neg (by omega)]
    have := h.a i h1 h2 (by omega) (by omega)
    rw [h3] at this
    exact this
theorem Down.up {l : List Int} {pos : Nat} (h : Down l pos) (hp : ¬ pos < l.length / 2) : Up l pos :=
  ⟨fun i h1 h2 h3 => h.a i h1 h2 h3 (fun z => by unfold par at z; omega), fun i h1 h2 h3 => absurd h3 (fun z => by unfold par at z; omega)⟩
theorem Up.step {l : List Int} {pos : Nat} (h : Up l pos) (hp : 1 ≤ pos) (hpl : pos < l.length) (lt : g l pos < g l (par pos)) : Up (swp l (par pos) pos) (par pos) := by
  have pl := par_lt hp
  have gs := g_swp (l := l) (i := par pos) (j := pos) (by omega) hpl
  refine ⟨fun i h1 h2 h3 => ?_, fun i h1 h2 h3 h4 => ?_⟩
  · rw [swp_len] at h2
    have h5 := par_lt h1
    rw [gs, gs, if_neg (c := i = par pos) h3]
    by_cases k1 : i = pos
    · subst k1
      rw [if_pos rfl, if_neg (by omega), if_pos rfl]
      omega
    · rw [if_neg k1]
      by_cases k2 : par i = pos
      · rw [if_pos k2]
        exact h.b i h1 h2 k2 hp
      · rw [if_neg k2]
        by_cases k3 : par i = par pos
        · rw [if_pos k3]
          have := h.a i h1 h2 k1
          rw [k3] at this
          omega
        · rw [if_neg k3]
          exact h.a i h1 h2 k1
  · rw [swp_len] at h2
    have h5 := par_lt h1
    have h6 := par_lt h4
    have e1 := h.a (par pos) h4 (by omega) (by omega)
    rw [gs, gs, if_neg (show ¬ par (par pos) = pos by omega), if_neg (show ¬ par (par pos) = par pos by omega), if_neg (show ¬ i = par pos by omega)]
    by_cases k1 : i = pos
    · rw [if_pos k1]
      exact e1
    · rw [if_neg k1]
      have := h.a i h1 h2 k1
      rw [h3] at this
      omega
theorem Up.done {l : List Int} {pos : Nat} (h : Up l pos) (k : 1 ≤ pos → ¬ g l pos < g l (par pos)) : IsHeap l := ⟨fun i h1 h2 => by
  by_cases c : i = pos
  · subst c
    have := k h1
    omega
  · exact h.a i h1 h2 c⟩
theorem IsHeap.min {l : List Int} (h : IsHeap l) : ∀ i, i < l.length → g l 0 ≤ g l i := fun i => by
  induction i using Nat.strongRecOn with
  | ind i ih =>
    intro hi
    by_cases c : 1 ≤ i
    · have h1 := h.h i c hi
      have h2 := ih (par i) (par_lt c) (by have := par_lt c; omega)
      omega
    · obtain rfl : i = 0 := by omega
      exact Int.le_refl _
theorem IsHeap.least {x : Int} {l : List Int} (h : IsHeap (x :: l)) : ∀ y ∈ x :: l, x ≤ y := fun y hy => by
  obtain ⟨i, hi, rfl⟩ := List.getElem_of_mem hy
  have := h.min i hi
  have e := getE hi
  rw [List.getElem?_eq_getElem hi] at e
  rw [Option.some.inj e]
  exact this
theorem up_push {l : List Int} (h : IsHeap l) (x : Int) : Up (l ++ [x]) l.length := by
  have ga : ∀ i, i < l.length → g (l ++ [x]) i = g l i := fun i hi => by
    unfold g
    rw [List.getD_eq_getElem?_getD, List.getD_eq_getElem?_getD, List.getElem?_append_left hi]
  refine ⟨fun i h1 h2 h3 => ?_, fun i h1 h2 h3 => ?_⟩
  · rw [List.length_append, List.length_singleton] at h2
    have := par_lt h1
    rw [ga i (by omega), ga _ (by omega)]
    exact h.h i h1 (by omega)
  · rw [List.length_append, List.length_singleton] at h2
    have := par_lt h1
    omega
theorem down_pop {x y : Int} {l : List Int} (h : IsHeap (x :: (l ++ [y]))) : Down (y :: l) 0 := by
  have ga : ∀ i, 1 ≤ i → i < l.length + 1 → g (y :: l) i = g (x :: (l ++ [y])) i := fun i h1 hi => by
    unfold g
    cases i with
    | zero => omega
    | succ i =>
      rw [List.getD_cons_succ, List.getD_cons_succ, List.getD_eq_getElem?_getD, List.getD_eq_getElem?_getD, List.getElem?_append_left (by omega)]
  refine ⟨fun i h1 h2 h3 h4 => ?_, fun i h1 h2 h3 h4 => by omega⟩
  rw [List.length_cons] at h2
  have := par_lt h1
  rw [ga i h1 h2, ga (par i) (by omega) (by omega)]
  refine h.h i h1 ?_
  rw [List.length_cons, List.length_append, List.length_singleton]
  omega
theorem heap_nil : IsHeap [] := ⟨fun i _ h => absurd h (Nat.not_lt_zero _)⟩
theorem heap_one (x : Int) : IsHeap [x] := ⟨fun i h1 h2 => by
  rw [List.length_singleton] at h2
  omega⟩
theorem heap_sorted {l : List Int} (h : l.Pairwise fun a b => a ≤ b) : IsHeap l := ⟨fun i h1 h2 => by
  have p := par_lt h1
  have := List.pairwise_iff_getElem.mp h (par i) i (by omega) h2 p
  have e1 := getE h2
  have e2 := getE (l := l) (i := par i) (by omega)
  rw [List.getElem?_eq_getElem h2] at e1
  rw [List.getElem?_eq_getElem (show par i < l.length by omega)] at e2
  rw [Option.some.inj e1, Option.some.inj e2] at this
  exact this⟩
end HQ

set_option Elab.async false
set_option linter.all false
set_option maxRecDepth 100000
set_option maxHeartbeats 2000000
namespace HQ
open PySem PySem.Spec PyProof.Rows L2 PySem.Calls
theorem entry_sift : entryFor table "_heapq.heapify.sift" = some Builtin.«_heapq.heapify.sift» := entryFor_of_tree (by kernel_rfl)
theorem plain_sift : plainId "_heapq.heapify.sift" = true := by decide +kernel
theorem entry_push : entryFor table "_heapq.heappush" = some Builtin.«_heapq.heappush» := entryFor_of_tree (by kernel_rfl)
theorem kind_push : builtinKind "_heapq.heappush" = none := by kernel_rfl
theorem plain_push : plainId "_heapq.heappush" = true := by decide +kernel
theorem args_push (a b : Value) : argsOk "_heapq.heappush" ⟨[a, b], []⟩ := by unfold argsOk; kernel_rfl
theorem entry_pop : entryFor table "_heapq.heappop" = some Builtin.«_heapq.heappop» := entryFor_of_tree (by kernel_rfl)
theorem kind_pop : builtinKind "_heapq.heappop" = none := by kernel_rfl
theorem plain_pop : plainId "_heapq.heappop" = true := by decide +kernel
theorem args_pop (a : Value) : argsOk "_heapq.heappop" ⟨[a], []⟩ := by unfold argsOk; kernel_rfl
/-- the list at a is of these ints -/
def IsL (h : Heap) (a : Addr) (l : List Int) : Prop := ∃ (its : List Value) (n : Nat), Vals (l.map V.int) its ∧ h.get? a = some { cls := .type "list", data := .seq its.toArray n }
/-- nothing else has changed -/
def Rest (a : Addr) (h h' : Heap) : Prop := ∀ b, b ≠ a → h'.get? b = h.get? b
section
variable {prog : Program} {w : World} {A : Around} {R : Result → Shared → Prop}
theorem item_at {l : List Int} {its : List Value} (r : Vals (l.map V.int) its) {i : Nat} (h : i < l.length) : ∃ t, its.toArray[i]? = some (.int (g l i) t) := by
  have e : (l.map V.int)[i]? = some (V.int (g l i)) := by
    rw [List.getElem?_map, getE h]
    rfl
  obtain ⟨u, hu, t, rfl⟩ := r.get e
  exact ⟨t, by simpa using hu⟩
theorem at_eq {xs : Array Value} {i : Nat} {v : Value} (h : xs[i]? = some v) : (match xs[i]? with
    | some v => (pure v : Sem Value)
    | none => unsupported "internal:_heapq.index") = pure v := by rw [h]
/-- two items changed places -/
theorem swp_vals {l : List Int} {its : List Value} (r : Vals (l.map V.int) its) {i j : Nat} (hi : i < l.length) (hj : j < l.length) {t u : Tok} (ei : its.toArray[i]? = some (.int (g l i) t)) (ej : its.toArray[j]? = some (.int (g l j) u)) :
    ∃ its', Vals ((swp l i j).map V.int) its' ∧ (its.toArray.setIfInBounds i (.int (g l j) u)).setIfInBounds j (.int (g l i) t) = its'.toArray := by
  refine ⟨(its.set i (.int (g l j) u)).set j (.int (g l i) t), ?_, by simp⟩
  unfold swp
  rw [List.map_set, List.map_set]
  exact (r.set (x := V.int (g l j)) ⟨u, rfl⟩ i).set (x := V.int (g l i)) ⟨t, rfl⟩ j
/-- the swap, done -/
theorem swap_done {a : Addr} {s : Shared} {l : List Int} {its : List Value} {c i j : Nat} {t u : Tok} {E : Value → Shared → Prop} {Q : Unit → Shared → Prop} (rv : Vals (l.map V.int) its) (ho : s.heap.get? a = some { cls := .type "list", data := .seq its.toArray c }) (hz : l.length ≤ sizeLine) (hi : i < l.length) (hj : j < l.length)
    (ei : its.toArray[i]? = some (.int (g l i) t)) (ej : its.toArray[j]? = some (.int (g l j) u)) (k : ∀ h', IsL h' a (swp l i j) → Rest a s.heap h' → Q () { s with heap := h' }) :
    wpAny (model prog w) A (updateSeq a fun xs => (xs.setIfInBounds i (.int (g l j) u)).setIfInBounds j (.int (g l i) t)) Q E s := by
  obtain ⟨its', rv', e⟩ := swp_vals rv hi hj ei ej
  have hl : its.length = l.length := by
    have := rv.length
    rw [List.length_map] at this
    exact this.symm
  refine wpAny_updateSeq ho rfl (k _ ⟨its', _, rv', (Heap.get?_update_self _ ho (by rfl)).trans (by rw [← e]; rfl)⟩ fun b hb => Heap.get?_update_other _ _ (Ne.symm hb)) (by rw [List.size_toArray]; omega) (by rw [Array.size_setIfInBounds, Array.size_setIfInBounds, List.size_toArray]; omega)
theorem sift_up {a : Addr} {res : Value} : ∀ (n pos : Nat) (l : List Int) (s : Shared), pos ≤ n → pos < l.length → l.length ≤ sizeLine → Up l pos → IsL s.heap a l →
    (∀ l' h', IsHeap l' → l'.Perm l → IsL h' a l' → Rest a s.heap h' → R (.ok (.ret res)) { s with heap := h' }) →
    codeAny (model prog w) A (.builtin "_heapq.heapify.sift" ⟨[.ref a, .bool false, .bool false, rawInt pos, rawInt 0, res, rawInt (-1)], []⟩) R s := by
  intro n
  induction n with
  | zero =>
    intro pos l s h1 h2 h3 hU hL k
    obtain ⟨its, c, rv, ho⟩ := id hL
    refine codeAny_builtin entry_sift ?_
    rw [Around.under_plainId plain_sift _]
    show wpAny _ A.in1 ((seqItems? (.ref a) >>= _) >>= _) _ _ s
    refine wpAny_bind (wpAny_bind (wpAny_seqItems ho rfl ?_))
    refine wpAny_pure ?_
    obtain rfl : pos = 0 := by omega
    exact wpAny_pure (k l s.heap (hU.done fun z => absurd z (by decide)) (.refl _) hL fun _ _ => rfl)
  | succ n ih =>
    intro pos l s h1 h2 h3 hU hL k
    obtain ⟨its, c, rv, ho⟩ := id hL
    refine codeAny_builtin entry_sift ?_
    rw [Around.under_plainId plain_sift _]
    show wpAny _ A.in1 ((seqItems? (.ref a) >>= _) >>= _) _ _ s
    refine wpAny_bind (wpAny_bind (wpAny_seqItems ho rfl ?_))
    refine wpAny_pure ?_
    by_cases hp : 1 ≤ pos
    · have hpl := par_lt hp
      obtain ⟨t, et⟩ := item_at rv h2
      obtain ⟨u, eu⟩ := item_at rv (show (pos - 1) / 2 < l.length by unfold par at hpl; omega)
      simp only [Bool.false_eq_true, if_false, Int.toNat_natCast]
      rw [if_pos (show pos > Int.toNat 0 from hp)]
      refine wpAny_bind (wpAny_of_eq (a := .int (g l pos) t) (at_eq et) ?_)
      refine wpAny_bind (wpAny_of_eq (a := .int (g l ((pos - 1) / 2)) u) (at_eq eu) ?_)
      refine wpAny_bind ?_
      show wpAny _ A.in1 (holding [_, _] (richCompare .Lt (.int (g l pos) t) (.int (g l ((pos - 1) / 2)) u) >>= truthOfDropped) >>= _) _ _ s
      refine wpAny_bind (wpAny_holding (wpAny_bind (wpAny_lt_int ?_)))
      refine wpAny_truthy_bool ?_
      show wpAny _ _ ((seqItems? (.ref a) >>= _) >>= _) _ _ s
      refine wpAny_bind (wpAny_bind (wpAny_seqItems ho rfl (wpAny_pure ?_)))
      show wpAny _ _ (if (its.toArray.size != its.toArray.size) = true then _ else _) _ _ s
      rw [if_neg (by simp)]
      refine wpAny_pure ?_
      by_cases lt : g l pos < g l ((pos - 1) / 2)
      · rw [if_pos (decide_eq_true lt)]
        refine wpAny_bind ?_
        show wpAny _ _ ((seqItems? (.ref a) >>= _) >>= _) _ _ s
        refine wpAny_bind (wpAny_bind (wpAny_seqItems ho rfl (wpAny_pure ?_)))
        refine wpAny_bind (wpAny_of_eq (a := .int (g l ((pos - 1) / 2)) u) (at_eq eu) ?_)
        refine wpAny_bind (wpAny_of_eq (a := .int (g l pos) t) (at_eq et) ?_)
        refine swap_done rv ho h3 (show (pos - 1) / 2 < l.length by unfold par at hpl; omega) h2 eu et fun h' hL' hR => ?_
        refine wpAny_pure ⟨plainId_quiet plain_sift _, ?_⟩
        refine ih ((pos - 1) / 2) (swp l ((pos - 1) / 2) pos) { s with heap := h' } (by omega) (by rw [swp_len]; omega) (by rw [swp_len]; exact h3) (hU.step hp h2 lt) hL' fun l2 h2' g1 g2 g3 g4 => ?_
        exact k l2 h2' g1 (g2.trans (swp_perm (by omega) h2)) g3 fun b hb => (g4 b hb).trans (hR b hb)
      · rw [if_neg (by rw [decide_eq_false lt]; decide)]
        exact wpAny_pure (k l s.heap (hU.done fun _ => lt) (.refl _) hL fun _ _ => rfl)
    · obtain rfl : pos = 0 := by omega
      exact wpAny_pure (k l s.heap (hU.done fun z => absurd z hp) (.refl _) hL fun _ _ => rfl)
theorem sift_down {a : Addr} {res : Value} : ∀ (n pos : Nat) (l : List Int) (s : Shared), l.length ≤ n + pos → pos < l.length → l.length ≤ sizeLine → Down l pos → IsL s.heap a l →
    (∀ l' h', IsHeap l' → l'.Perm l → IsL h' a l' → Rest a s.heap h' → R (.ok (.ret res)) { s with heap := h' }) →
    codeAny (model prog w) A (.builtin "_heapq.heapify.sift" ⟨[.ref a, .bool false, .bool true, rawInt pos, rawInt 0, res, rawInt (-1)], []⟩) R s := by
  intro n
  induction n with
  | zero =>
    intro pos l s h1 h2
    omega
  | succ n ih =>
    intro pos l s h1 h2 h3 hD hL k
    obtain ⟨its, c, rv, ho⟩ := id hL
    have hil : its.length = l.length := by
      have := rv.length
      rw [List.length_map] at this
      exact this.symm
    refine codeAny_builtin entry_sift ?_
    rw [Around.under_plainId plain_sift _]
    show wpAny _ A.in1 ((seqItems? (.ref a) >>= _) >>= _) _ _ s
    refine wpAny_bind (wpAny_bind (wpAny_seqItems ho rfl ?_))
    refine wpAny_pure ?_
    simp only [if_true, Int.toNat_natCast, List.size_toArray, hil, Bool.false_eq_true, if_false]
    by_cases hp : pos < l.length / 2
    · rw [if_pos hp]
      have co := child_ok hp
      by_cases hr : 2 * pos + 1 + 1 < l.length
      · rw [if_pos hr]
        obtain ⟨t1, e1⟩ := item_at rv (show 2 * pos + 1 < l.length by omega)
        obtain ⟨t2, e2⟩ := item_at rv hr
        refine wpAny_bind (wpAny_of_eq (a := .int (g l (2 * pos + 1)) t1) (at_eq e1) ?_)
        refine wpAny_bind (wpAny_of_eq (a := .int (g l (2 * pos + 1 + 1)) t2) (at_eq e2) ?_)
        refine wpAny_bind ?_
        show wpAny _ A.in1 (holding [_, _] (richCompare .Lt (.int (g l (2 * pos + 1)) t1) (.int (g l (2 * pos + 1 + 1)) t2) >>= truthOfDropped) >>= _) _ _ s
        refine wpAny_bind (wpAny_holding (wpAny_bind (wpAny_lt_int ?_)))
        refine wpAny_truthy_bool ?_
        show wpAny _ _ ((seqItems? (.ref a) >>= _) >>= _) _ _ s
        refine wpAny_bind (wpAny_bind (wpAny_seqItems ho rfl (wpAny_pure ?_)))
        show wpAny _ _ (if (its.toArray.size != l.length) = true then _ else _) _ _ s
        rw [if_neg (by rw [List.size_toArray, hil]; simp)]
        refine wpAny_pure ?_
        by_cases lt : g l (2 * pos + 1) < g l (2 * pos + 1 + 1)
        · rw [if_neg (by rw [decide_eq_true lt]; decide)]
          have ech : child l pos = 2 * pos + 1 := if_neg (fun z => z.2 lt)
          obtain ⟨tc, ec⟩ := item_at rv (show 2 * pos + 1 < l.length by omega)
          obtain ⟨tp, ep⟩ := item_at rv h2
          refine wpAny_bind ?_
          show wpAny _ _ ((seqItems? (.ref a) >>= _) >>= _) _ _ s
          refine wpAny_bind (wpAny_bind (wpAny_seqItems ho rfl (wpAny_pure ?_)))
          refine wpAny_bind (wpAny_of_eq (a := .int (g l (2 * pos + 1)) tc) (at_eq ec) ?_)
          refine wpAny_bind (wpAny_of_eq (a := .int (g l pos) tp) (at_eq ep) ?_)
          refine swap_done rv ho h3 (show 2 * pos + 1 < l.length by omega) h2 ec ep fun h' hL' hR => ?_
          refine wpAny_pure ⟨plainId_quiet plain_sift _, ?_⟩
          have st := hD.step hp
          rw [ech] at st
          refine ih (2 * pos + 1) (swp l (2 * pos + 1) pos) { s with heap := h' } (by rw [swp_len]; omega) (by rw [swp_len]; omega) (by rw [swp_len]; exact h3) st hL' fun l2 h2' g1 g2 g3 g4 => ?_
          exact k l2 h2' g1 (g2.trans (swp_perm (by omega) h2)) g3 fun b hb => (g4 b hb).trans (hR b hb)
        · rw [if_pos (by rw [decide_eq_false lt]; rfl)]
          have ech : child l pos = 2 * pos + 1 + 1 := if_pos ⟨hr, lt⟩
          obtain ⟨tc, ec⟩ := item_at rv (show 2 * pos + 1 + 1 < l.length by omega)
          obtain ⟨tp, ep⟩ := item_at rv h2
          refine wpAny_bind ?_
          show wpAny _ _ ((seqItems? (.ref a) >>= _) >>= _) _ _ s
          refine wpAny_bind (wpAny_bind (wpAny_seqItems ho rfl (wpAny_pure ?_)))
          refine wpAny_bind (wpAny_of_eq (a := .int (g l (2 * pos + 1 + 1)) tc) (at_eq ec) ?_)
          refine wpAny_bind (wpAny_of_eq (a := .int (g l pos) tp) (at_eq ep) ?_)
          refine swap_done rv ho h3 (show 2 * pos + 1 + 1 < l.length by omega) h2 ec ep fun h' hL' hR => ?_
          refine wpAny_pure ⟨plainId_quiet plain_sift _, ?_⟩
          have st := hD.step hp
          rw [ech] at st
          refine ih (2 * pos + 1 + 1) (swp l (2 * pos + 1 + 1) pos) { s with heap := h' } (by rw [swp_len]; omega) (by rw [swp_len]; omega) (by rw [swp_len]; exact h3) st hL' fun l2 h2' g1 g2 g3 g4 => ?_
          exact k l2 h2' g1 (g2.trans (swp_perm (by omega) h2)) g3 fun b hb => (g4 b hb).trans (hR b hb)
      · rw [if_neg hr]
        have ech : child l pos = 2 * pos + 1 := if_neg (fun z => hr z.1)
        obtain ⟨tc, ec⟩ := item_at rv (show 2 * pos + 1 < l.length by omega)
        obtain ⟨tp, ep⟩ := item_at rv h2
        refine wpAny_bind ?_
        show wpAny _ _ ((seqItems? (.ref a) >>= _) >>= _) _ _ s
        refine wpAny_bind (wpAny_bind (wpAny_seqItems ho rfl (wpAny_pure ?_)))
        refine wpAny_bind (wpAny_of_eq (a := .int (g l (2 * pos + 1)) tc) (at_eq ec) ?_)
        refine wpAny_bind (wpAny_of_eq (a := .int (g l pos) tp) (at_eq ep) ?_)
        refine swap_done rv ho h3 (show 2 * pos + 1 < l.length by omega) h2 ec ep fun h' hL' hR => ?_
        refine wpAny_pure ⟨plainId_quiet plain_sift _, ?_⟩
        have st := hD.step hp
        rw [ech] at st
        refine ih (2 * pos + 1) (swp l (2 * pos + 1) pos) { s with heap := h' } (by rw [swp_len]; omega) (by rw [swp_len]; omega) (by rw [swp_len]; exact h3) st hL' fun l2 h2' g1 g2 g3 g4 => ?_
        exact k l2 h2' g1 (g2.trans (swp_perm (by omega) h2)) g3 fun b hb => (g4 b hb).trans (hR b hb)
    · rw [if_neg hp]
      refine wpAny_pure ⟨plainId_quiet plain_sift _, ?_⟩
      exact sift_up pos pos l s (Nat.le_refl _) h2 h3 (hD.up hp) hL k
theorem check_push (a b : Value) : checkBuiltinCall "_heapq.heappush" ⟨[a, b], []⟩ = pure () := by kernel_rfl
theorem check_pop (a : Value) : checkBuiltinCall "_heapq.heappop" ⟨[a], []⟩ = pure () := by kernel_rfl
end
section
variable {prog : Program} {w : World} {A : Around} {E : Value → Shared → Prop}
theorem call_push {a : Addr} {l : List Int} {x : Int} {t : Tok} {s : Shared} {Q : Value → Shared → Prop} (hL : IsL s.heap a l) (hz : l.length < sizeLine) (hh : IsHeap l) (k : ∀ l' h', IsHeap l' → l'.Perm (l ++ [x]) → IsL h' a l' → Rest a s.heap h' → Q .none { s with heap := h' }) :
    wpAny (model prog w) A (call (.builtin "_heapq.heappush") [.ref a, .int x t]) Q E s := by
  refine wpAny_call (codeAny_call_builtin plain_push entry_push ?_)
  rw [check_push]
  refine wpAny_pure ?_
  obtain ⟨its, c, rv, ho⟩ := id hL
  have hil : its.length = l.length := by
    have := rv.length
    rw [List.length_map] at this
    exact this.symm
  unfold Builtin.«_heapq.heappush»
  refine wpAny_bind (wpAny_bind ?_)
  show wpAny _ _ (if true = true then pure () else _) _ _ _
  rw [if_pos rfl]
  refine wpAny_pure ?_
  refine wpAny_bind (wpAny_of_eq (a := ()) (by kernel_rfl) ?_)
  refine wpAny_bind ?_
  show wpAny _ _ (isInstance (.ref a) (.type "list") >>= _) _ _ _
  refine wpAny_bind (wpAny_isInstance (T := "list") (b := true) ⟨_, ho, rfl⟩ (by kernel_rfl) ?_)
  show wpAny _ _ (if true = true then _ else _) _ _ _
  rw [if_pos rfl]
  refine wpAny_pure (wpAny_pure ?_)
  show wpAny _ _ (updateSeq a (fun xs => xs.push (.int x t)) >>= _) _ _ _
  refine wpAny_bind (wpAny_updateSeq ho rfl ?_ (by rw [List.size_toArray]; omega) (by rw [Array.size_push, List.size_toArray]; omega))
  obtain ⟨c2, ho2⟩ : ∃ c2, (s.heap.update a (Obj.mapSeq fun xs => xs.push (.int x t))).get? a = some { cls := .type "list", data := .seq (its ++ [Value.int x t]).toArray c2 } :=
    ⟨_, (Heap.get?_update_self _ ho (by rfl)).trans (by rw [← List.push_toArray]; rfl)⟩
  refine wpAny_bind ?_
  show wpAny _ _ (seqItems? (.ref a) >>= _) _ _ _
  refine wpAny_bind (wpAny_seqItems ho2 rfl (wpAny_pure ?_))
  rw [List.size_toArray, List.length_append, hil, List.length_singleton, Nat.add_sub_cancel]
  refine wpAny_pure ⟨plainId_quiet plain_sift _, ?_⟩
  have rv2 : Vals ((l ++ [x]).map V.int) (its ++ [Value.int x t]) := by
    rw [List.map_append]
    exact rv.append (.cons ⟨t, rfl⟩ .nil)
  refine sift_up l.length l.length (l ++ [x]) { s with heap := s.heap.update a (Obj.mapSeq fun xs => xs.push (.int x t)) } (Nat.le_refl _) (by rw [List.length_append]; exact Nat.lt_succ_self _) (by rw [List.length_append]; exact hz) (up_push hh x) ⟨_, c2, rv2, ho2⟩ fun l' h' g1 g2 g3 g4 => ?_
  exact k l' h' g1 g2 g3 fun b hb => (g4 b hb).trans (Heap.get?_update_other _ _ (Ne.symm hb))
theorem call_pop {a : Addr} {x : Int} {l : List Int} {s : Shared} {Q : Value → Shared → Prop} (hL : IsL s.heap a (x :: l)) (hz : l.length < sizeLine) (hh : IsHeap (x :: l)) (k : ∀ t l' h', IsHeap l' → l'.Perm l → IsL h' a l' → Rest a s.heap h' → Q (.int x t) { s with heap := h' }) :
    wpAny (model prog w) A (call (.builtin "_heapq.heappop") [.ref a]) Q E s := by
  refine wpAny_call (codeAny_call_builtin plain_pop entry_pop ?_)
  rw [check_pop]
  refine wpAny_pure ?_
  obtain ⟨its, c, rv, ho⟩ := id hL
  have hil : its.length = l.length + 1 := by
    have := rv.length
    rw [List.length_map] at this
    exact this.symm
  unfold Builtin.«_heapq.heappop»
  refine wpAny_bind (wpAny_bind ?_)
  refine wpAny_of_eq (a := Value.ref a) (by rfl) ?_
  refine wpAny_bind ?_
  show wpAny _ _ (isInstance (.ref a) (.type "list") >>= _) _ _ _
  refine wpAny_bind (wpAny_isInstance (T := "list") (b := true) ⟨_, ho, rfl⟩ (by kernel_rfl) ?_)
  show wpAny _ _ (if true = true then _ else _) _ _ _
  rw [if_pos rfl]
  refine wpAny_pure (wpAny_pure ?_)
  show wpAny _ _ ((seqItems? (.ref a) >>= _) >>= _) _ _ _
  refine wpAny_bind (wpAny_bind (wpAny_seqItems ho rfl (wpAny_pure ?_)))
  cases rv with
  | @cons _ u _ us r0 rr =>
  obtain ⟨t, rfl⟩ := r0
  by_cases hn : l = []
  · subst hn
    cases rr
    show wpAny _ _ (updateSeq a (fun xs => xs.pop) >>= _) _ _ _
    refine wpAny_bind (wpAny_updateSeq ho rfl ?_ (by show 1 ≤ sizeLine; decide) (by show 0 ≤ sizeLine + 1; omega))
    refine wpAny_pure (k t [] _ heap_nil (.refl _) ⟨[], _, .nil, (Heap.get?_update_self _ ho (by rfl)).trans rfl⟩ fun b hb => Heap.get?_update_other _ _ (Ne.symm hb))
  · obtain ⟨l0, y, rfl⟩ : ∃ l0 y, l = l0 ++ [y] := ⟨l.dropLast, l.getLast hn, (List.dropLast_concat_getLast hn).symm⟩
    have rr2 : Vals (l0.map V.int ++ [V.int y]) us := by
      have := rr
      rw [List.map_append] at this
      exact this
    obtain ⟨us0, vs0, rfl, ra, rb⟩ : ∃ us0 vs0, us = us0 ++ vs0 ∧ Vals (l0.map V.int) us0 ∧ Vals [V.int y] vs0 := by
      have key : ∀ (as : List V) (us : List Value), Vals (as ++ [V.int y]) us → ∃ us0 vs0, us = us0 ++ vs0 ∧ Vals as us0 ∧ Vals [V.int y] vs0 := by
        intro as
        induction as with
        | nil => exact fun us h => ⟨[], us, rfl, .nil, h⟩
        | cons b as ih =>
          intro us h
          cases h with
          | cons h1 h2 =>
            obtain ⟨p, q, rfl, c1, c2⟩ := ih _ h2
            exact ⟨_ :: p, q, rfl, .cons h1 c1, c2⟩
      exact key _ _ rr2
    cases rb with
    | @cons _ v _ _ rv0 rn =>
    cases rn
    obtain ⟨t2, rfl⟩ := rv0
    have hb : (Value.int x t :: (us0 ++ [Value.int y t2])).toArray.back? = some (Value.int y t2) := by simp [Array.back?]
    rw [List.length_append, List.length_singleton] at hil hz
    rw [List.length_cons, List.length_append, List.length_singleton] at hil
    simp only [hb]
    show wpAny _ _ (updateSeq a (fun xs => xs.pop) >>= _) _ _ _
    refine wpAny_bind (wpAny_updateSeq ho rfl ?_ (by rw [List.size_toArray, List.length_cons, List.length_append, List.length_singleton]; omega) (by rw [Array.size_pop, List.size_toArray, List.length_cons, List.length_append, List.length_singleton]; omega))
    obtain ⟨c2, ho2⟩ : ∃ c2, (s.heap.update a (Obj.mapSeq fun xs => xs.pop)).get? a = some { cls := .type "list", data := .seq (Value.int x t :: us0).toArray c2 } :=
      ⟨_, (Heap.get?_update_self _ ho (by rfl)).trans (by
        have : (Value.int x t :: (us0 ++ [Value.int y t2])).toArray.pop = (Value.int x t :: us0).toArray := by
          rw [List.pop_toArray, ← List.cons_append, List.dropLast_concat]
        rw [← this]
        rfl)⟩
    show wpAny _ _ (if ((Value.int x t :: (us0 ++ [Value.int y t2])).toArray.size == 1) = true then _ else _) _ _ _
    rw [if_neg (by rw [List.size_toArray, List.length_cons, List.length_append, List.length_singleton]; simp)]
    have e0 : (Value.int x t :: (us0 ++ [Value.int y t2])).toArray[0]? = some (Value.int x t) := by simp
    refine wpAny_bind (wpAny_of_eq (a := Value.int x t) (at_eq e0) ?_)
    refine wpAny_bind (wpAny_updateSeq ho2 rfl ?_ (by rw [List.size_toArray, List.length_cons]; omega) (by rw [Array.size_setIfInBounds, List.size_toArray, List.length_cons]; omega))
    refine wpAny_pure ⟨plainId_quiet plain_sift _, ?_⟩
    have ho3 := Heap.get?_update_self (Obj.mapSeq fun xs => xs.setIfInBounds 0 (Value.int y t2)) ho2 (by rfl)
    have rv3 : Vals ((y :: l0).map V.int) (Value.int y t2 :: us0) := .cons ⟨t2, rfl⟩ ra
    refine sift_down (l0.length + 1) 0 (y :: l0) _ (Nat.le_refl _) (Nat.succ_pos _) (by rw [List.length_cons]; omega) (down_pop hh) ⟨_, _, rv3, ho3.trans (by rfl)⟩ fun l' h' g1 g2 g3 g4 => ?_
    exact k t l' h' g1 (g2.trans (List.perm_append_singleton y l0).symm) g3 fun b hb => (g4 b hb).trans ((Heap.get?_update_other _ _ (Ne.symm hb)).trans (Heap.get?_update_other _ _ (Ne.symm hb)))
end
section
variable {X : Cx}
/-- heappush(queue, x), heappop(queue): lists of ints that are heaps -/
def rPush : List V → Hp → VK → Prop := fun vs H Q => ∃ (a : Addr) (l : List Int) (x : Int), vs = [.ref a, .int x] ∧ H a = some (.lst (l.map V.int)) ∧ IsHeap l ∧ l.length < sizeLine ∧ ∀ l', IsHeap l' → l'.Perm (l ++ [x]) → Q .non (upd H a (.lst (l'.map V.int)))
def rPop : List V → Hp → VK → Prop := fun vs H Q => ∃ (a : Addr) (x : Int) (l : List Int), vs = [.ref a] ∧ H a = some (.lst ((x :: l).map V.int)) ∧ IsHeap (x :: l) ∧ ∀ l', IsHeap l' → l'.Perm l → Q (.int x) (upd H a (.lst (l'.map V.int)))
theorem inv_list {pins : List (Addr × Obj)} {σ : L2.St} {H : Hp} {s : Shared} {a : Addr} {xs : List V} {l' : List Int} {h' : Heap} (I : Inv X pins σ H s) (ha : H a = some (.lst xs)) (hL : IsL h' a l') (hR : Rest a s.heap h') (hz : l'.length ≤ sizeLine) : Inv X pins σ (upd H a (.lst (l'.map V.int))) { s with heap := h' } := by
  obtain ⟨its, c, rv, ho⟩ := hL
  refine I.write (t' := s.toks) (x := a) (e := a) (by rw [ha]; trivial) (.inl rfl) (fun b u hb q => (hR b hb).trans q) ⟨_, ho⟩ ?_
  exact ⟨by rw [List.length_map]; exact hz, its, c, rv, ho⟩
theorem cr_push : CallR X (.builtin "_heapq.heappush") rPush := by
  intro pins s σ H vs us Q I r h
  obtain ⟨a, l, x, rfl, ha, hh, hz, q⟩ := h
  cases r with
  | cons r1 r2 =>
  cases r2 with
  | cons r3 r4 =>
  cases r4
  cases r1
  obtain ⟨t, rfl⟩ := r3
  obtain ⟨its, c, rv, ho, _⟩ := I.lst ha
  refine call_push ⟨its, c, rv, ho⟩ hz hh fun l' h' g1 g2 g3 g4 => ?_
  refine ⟨.non, _, inv_list I ha g3 g4 ?_, rfl, q l' g1 g2⟩
  rw [g2.length_eq, List.length_append]
  exact hz
theorem cr_pop : CallR X (.builtin "_heapq.heappop") rPop := by
  intro pins s σ H vs us Q I r h
  obtain ⟨a, x, l, rfl, ha, hh, q⟩ := h
  cases r with
  | cons r1 r2 =>
  cases r2
  cases r1
  obtain ⟨its, c, rv, ho, hz⟩ := I.lst ha
  rw [List.length_map, List.length_cons] at hz
  refine call_pop ⟨its, c, rv, ho⟩ hz hh fun t l' h' g1 g2 g3 g4 => ?_
  exact ⟨.int x, _, inv_list I ha g3 g4 (by rw [g2.length_eq]; omega), ⟨t, rfl⟩, q l' g1 g2⟩
end
end HQ
namespace HQ
open PySem PySem.Spec PyProof.Rows L2
/-- `//` with a divisor of either sign, not too great -/
def CDivNW (i j : Int) : Prop := j ≠ 0 ∧ j.natAbs.log2 < 9000
theorem op_fdivNW {X : Cx} : OpR X (binaryOp .FloorDiv) (rI CDivNW fun i j => .int (i.fdiv j)) := opI fun i j _ _ _ _ _ hc q => floordiv_int hc.1 q (.inl (PyProof.noPylong_of_log2 hc.2))
end HQ

set_option Elab.async false
set_option linter.all false
set_option maxRecDepth 100000
set_option maxHeartbeats 2000000
/-! dict comprehensions whose keys are tuples; xs[i] op= e; math.comb -/
namespace OK
open PySem PySem.Spec PyProof.Rows L2
/-- a store into the dict of a comprehension, the key a tuple -/
theorem put_tup {X : Cx} {pins : List (Addr × Obj)} {σ : L2.St} {G : Hp} {s : Shared} {E : Value → Shared → Prop} {d b : Addr} {kvs : List (List Key × V)} {k : List Key} {z : V} {u r : Value} {Q : Unit → Shared → Prop} (hu : X.A.units + 1 < cLine) (I : Inv X pins σ G s)
    (hd : G d = some (.dT kvs)) (hb : G b = some (.tup (k.map kV))) (hz : kvs.length < sizeLine) (ry : RelV (.ref b) u) (rv : RelV z r) (fin : ∀ s', Inv X pins σ (upd G d (.dT (putK kvs k z))) s' → Q () s') :
    wpAny (model X.prog X.w) X.A (dictSet d u r) Q E s := by
  obtain rfl : u = Value.ref b := ry
  obtain ⟨lz, ns, xs, rel, dd⟩ := dt_of I.hok hd
  have xz : xs.length ≤ sizeLine := Paired.length rel ▸ lz
  have nz : (putK kvs k z).length ≤ sizeLine := Nat.le_trans (length_putK kvs k z) hz
  refine wpAny_dictSet_heap (show X.A.units < cLine by omega) (key_of I.hok hb) dd (hsz := xz) fun g' d2 keep => fin _ ?_
  obtain ⟨ob, ents, ep, at1, at2, at3, at4, _, at5⟩ := d2
  have kt := (rel.put k hb rv).keeps (H' := upd G d (.dT (putK kvs k z))) fun c ys hc => by
    rw [upd_ne (ne_of hc hd (by intro q; cases q))]
    exact hc
  exact d_write I (by rw [hd]; trivial) keep ⟨ob, at1⟩ ⟨nz, ns, _, kt, ob, ents, ep, at1, at2, at3, at4, at5⟩
section
variable {X : Cx}
/-- what a dict comprehension with tuple keys asks: D the new dict -/
def tDct (wi : TI) (g : TG) (tt : TT) (tk tv : TE) (vs : List Nat) : TE := fun σ H Q => wi σ H fun J G => ∀ D, G D = none →
  ∃ W : Nat → Nat → Hp → Prop, (∃ m, W 0 m (upd G D (.dT []))) ∧ ∀ i m F, W i m F → (J.stop i F ∧ Q (.ref D) F) ∨
    (J.go i F ∧ ∃ Nx : Hp → Prop, (∀ F', Nx F' → ∃ m', m' < m ∧ W (i + 1) m' F') ∧ ∀ x F', J.yld i F x F' →
      g x (wipe σ vs) F' fun σ2 F2 => wipe σ2 vs = wipe σ vs ∧ tt σ2 F2 fun c F3 =>
        if c = true then tk σ2 F3 fun y F4 => tv σ2 F4 fun z F5 => ∃ kvs k b, y = .ref b ∧ F5 b = some (.tup (k.map kV)) ∧ F5 D = some (.dT kvs) ∧ kvs.length < sizeLine ∧ Nx (upd F5 D (.dT (putK kvs k z)))
        else Nx F3)
variable {kx vx tg iter : Expr} {ifs : List Expr} {scope : Scope} {own : List (Str × Nat)} {pos pos' : Pos} {wi : TI} {g : TG} {tt : TT} {tk tv : TE}
theorem dct_core {pins : List (Addr × Obj)} {s : Shared} {σ : L2.St} {H : Hp} {Q : VK} {use : Option (Value → Sem Unit)} {Qf : Value → Shared → Prop} (hc : X.calm = true) (hu : X.A.units + 1 < cLine) (hN : X.N.Nodup) (I : Inv X pins σ H s) (hi : PI X tg iter wi)
    (ok : BlkOk X.N X.env.scope scope own) (hg : ∀ r G C cl fp, PG (X.blk r G scope (compEnvC scope cl C X.env) fp) tg g) (ht : ∀ r G C cl fp, PTs (X.blk r G scope (compEnvC scope cl C X.env) fp) ifs tt)
    (hk : ∀ r G C cl fp, PE (X.blk r G scope (compEnvC scope cl C X.env) fp) kx tk) (he : ∀ r G C cl fp, PE (X.blk r G scope (compEnvC scope cl C X.env) fp) vx tv)
    (hs : ∀ x, foldedSetIterable iter X.env x = pure x) (h : tDct wi g tt tk tv (own.map (·.2)) σ H Q)
    (back : ∀ D C r m G, Inv X pins σ G r → Q (.ref D) G → r.heap.Ns C m → FpOk X pins G C → compPost (model X.prog X.w) X.A X.xe use Qf (.ref D) C (.ok .next) r) :
    wpAny (model X.prog X.w) X.A (comprehension (.DictComp kx vx [⟨tg, iter, ifs, 0⟩] scope pos) scope X.env pos' newDict false (eval iter X.env) use) Qf X.xe s := by
  have free : ∀ y ∈ scope.names, y.2 = .free → ∃ c, X.env.cells.lookup y.1 = some c := fun y hy e =>
    (ok.free y hy e).elim (fun k => I.ok.has _ (.inl k)) fun k => I.ok.has _ (.inr k)
  refine wpAny_comprehension_free (use := use) rfl hs (closure_ok free) ok.kind (fun y hy e => by rw [ok.uniq y hy, e]) (thn (hi.run pins s σ H _ I h) fun xv r1 hx => thn hx fun itv r2 h2 => ?_)
  obtain ⟨it, fp, tn, J, G2, rfl, I2, T, st2, f2, q⟩ := h2
  refine wpAny_newObj_type (newEnv_comp ?_)
  generalize hD : r2.heap.objs.size = D
  have hDn : G2 D = none := I2.hok.fresh (Nat.le_of_eq hD)
  obtain ⟨W, ⟨m0, w0⟩, turn⟩ := q D hDn
  generalize hr3 : ({ r2 with heap := r2.heap.push { cls := .type "dict", data := .dict #[] } } : Shared) = r3
  have hp3 : r3.heap = r2.heap.push { cls := .type "dict", data := .dict #[] } := by
    rw [← hr3]
  have I3 : Inv X pins σ (upd G2 D (.dT [])) r3 := by
    rw [← hr3]
    exact I2.laid (t' := r2.toks) (fun b o e => Heap.get?_push_of_some _ e) (Nat.le_of_eq hD) (by rw [← hD]; exact dt_empty r2.heap I2.big)
  have small : ∀ b ∈ fp, b < r2.heap.objs.size := fun b hb => let ⟨_, e, _⟩ := T.obj _ _ st2 b hb; Heap.lt_size e
  have f3 : ∀ b ∈ fp, FpOk X pins (upd G2 D (.dT [])) b ∧ b < r3.heap.objs.size := fun b hb => by
    have hlt := small b hb
    refine ⟨⟨?_, (f2 b hb).2⟩, by rw [hp3, Heap.size_push]; exact Nat.lt_succ_of_lt hlt⟩
    rw [upd_ne (fun z => Nat.ne_of_lt hlt (z.trans hD.symm))]
    exact (f2 b hb).1
  have st3 : tn 0 r3.heap := T.keep _ _ _ st2 fun b _ o e => by rw [hp3]; exact Heap.get?_push_of_some _ e
  have I4 := block_start I3 ok hN f3
  obtain ⟨C, hC⟩ : ∃ C, r3.heap.objs.size = C := ⟨_, rfl⟩
  rw [hC] at I4 f3
  obtain ⟨ce, hce⟩ : ∃ ce, compEnvC scope (cellsFrom (C + 1) scope.names (cloFrom X.env.cells scope.names [])) C X.env = ce := ⟨_, rfl⟩
  have bl : ce.locals = C := by rw [← hce]; rfl
  have pg := hg r3 (upd G2 D (.dT [])) C (cellsFrom (C + 1) scope.names (cloFrom X.env.cells scope.names [])) fp
  have pt := ht r3 (upd G2 D (.dT [])) C (cellsFrom (C + 1) scope.names (cloFrom X.env.cells scope.names [])) fp
  have pk := hk r3 (upd G2 D (.dT [])) C (cellsFrom (C + 1) scope.names (cloFrom X.env.cells scope.names [])) fp
  have pv := he r3 (upd G2 D (.dT [])) C (cellsFrom (C + 1) scope.names (cloFrom X.env.cells scope.names [])) fp
  rw [hce] at I4 pg pt pk pv
  have nfp : ∀ b ∈ fp, (upd G2 D (.dT [])) b = none := fun b hb => (f3 b hb).1.1
  obtain ⟨G3, hG3⟩ : ∃ G3, upd G2 D (.dT []) = G3 := ⟨_, rfl⟩
  rw [hG3] at I3 I4 pg pt pk pv w0 nfp f3
  show codeAny _ _ (.compStart (.DictComp kx vx [⟨tg, iter, ifs, 0⟩] scope pos) 0 (.ref it) (.ref D) (compEnvC scope (cellsFrom (r3.heap.objs.size + 1) scope.names (cloFrom X.env.cells scope.names [])) r3.heap.objs.size X.env))
    (compPost (model X.prog X.w) X.A X.xe use Qf (.ref D) r3.heap.objs.size) { r3 with heap := pushCells (r3.heap.push { cls := .type "dict", data := .dict #[] }) scope.names }
  rw [hC, hce]
  generalize hr4 : ({ r3 with heap := pushCells (r3.heap.push { cls := .type "dict", data := .dict #[] }) scope.names } : Shared) = r4 at I4 ⊢
  have st4 : tn 0 r4.heap := T.keep _ _ _ st3 fun b _ o e => by
    rw [← hr4]
    exact pushCells_keeps _ _ _ _ (Heap.get?_push_of_some _ e)
  have still : ∀ {τ : L2.St} {G : Hp} {r : Shared}, Inv (X.blk r3 G3 scope ce fp) [] τ G r → (∀ b ∈ fp, G b = none) → ∀ b ∈ fp, FpOk (X.blk r3 G3 scope ce fp) [] G b := fun J' none b hb =>
    ⟨none b hb, (J'.ok.exf b hb).1, J'.ok.exfs b hb, .inl hb, fun x c e => (J'.ok.exf b hb).2 x c e, fun p hp => (by cases hp)⟩
  have loop : codeAny (model X.prog X.w) X.A (.compLoop (.DictComp kx vx [⟨tg, iter, ifs, 0⟩] scope pos) 0 (.ref it) (.ref D) ce) (compPost (model X.prog X.w) X.A X.xe use Qf (.ref D) C) r4 := by
    refine compLoop_anyD (fun n r => ∃ i G, Inv (X.blk r3 G3 scope ce fp) [] (wipe σ (own.map (·.2))) G r ∧ tn i r.heap ∧ (∀ b ∈ fp, G b = none) ∧ W i n G) ?_ m0 ⟨0, G3, I4, st4, nfp, w0⟩
    rintro n r5 ⟨i, G5, I5, st5, n5, w5⟩
    rcases turn i n G5 w5 with ⟨stop, qq⟩ | ⟨go, Nx, hNx, step⟩
    · refine thnF (T.done (X.blk r3 G3 scope ce fp) rfl rfl rfl hc i [] r5 _ G5 (fun _ _ => False) I5 (still I5 n5) st5 stop) fun r r6 ⟨hr, I6⟩ => ?_
      subst hr
      have I7 : Inv X pins σ G5 r6 := I3.call' (ch := fp) I6.os I6.base I6.hok I6.bare fun b hb => let y := (f3 b hb).1.2; ⟨y.2.2.1, y.1, y.2.2.2.1, y.2.2.2.2⟩
      have nC : G5 C = none := bl ▸ (show G5 ce.locals = none from I6.free)
      obtain ⟨m, hn, _⟩ := I6.loc
      have hn' : r6.heap.Ns C m := bl ▸ (show r6.heap.Ns ce.locals m from hn)
      refine back D C r6 m G5 I7 qq hn' ?_
      rw [← hC] at nC ⊢
      exact I3.fpOk (Nat.le_refl _) nC
    · refine thnF (T.item (X.blk r3 G3 scope ce fp) rfl rfl rfl hc i [] r5 _ G5 (fun _ _ => False) I5 (still I5 n5) st5 go) fun r r6 ⟨u, hr, h6⟩ => ?_
      subst hr
      refine thnF h6 fun _ r7 ⟨x, G7, I7, e7, y7, st7, n7⟩ => ?_
      have P7 := I7.pinned (still I7 n7) (T.obj _ _ st7)
      refine thnF (pg.run _ r7 _ G7 x u _ P7 e7 (step x G7 y7)) fun _ r8 ⟨τ, G8, I8, hw, q8⟩ => ?_
      refine thnF (pt.run _ r8 τ G8 _ I8 q8) fun c r9 ⟨G9, I9, q9⟩ => ?_
      have fin : ∀ {r : Shared} {G : Hp}, Inv (X.blk r3 G3 scope ce fp) ([] ++ pinsAt fp r7.heap) τ G r → Nx G → ∃ m, m < n ∧ ∃ i G, Inv (X.blk r3 G3 scope ce fp) [] (wipe σ (own.map (·.2))) G r ∧ tn i r.heap ∧ (∀ b ∈ fp, G b = none) ∧ W i m G := fun {r G} J' nx => by
        obtain ⟨m', hm, w'⟩ := hNx G nx
        have pin : ∀ b ∈ fp, ∀ o, r7.heap.get? b = some o → r.heap.get? b = some o ∧ G b = none := fun b hb o e =>
          have z := J'.pin (b, o) (List.mem_append_right _ (List.mem_append_right _ (mem_pinsAt hb e)))
          ⟨z.1, z.2.1⟩
        refine ⟨m', hm, i + 1, G, (J'.unpinned (pins := [])).weak (by rw [← hw, wipe_length]) (fun j v e => ?_), T.keep _ _ _ st7 fun b hb o e => (pin b hb o e).1, fun b hb => ?_, w'⟩
        · exact (wipe_some (by rw [← hw] at e; exact e)).1
        · obtain ⟨o, e, _⟩ := T.obj _ _ st7 b hb
          exact (pin b hb o e).2
      cases c with
      | false => exact fin I9 q9
      | true =>
        refine thnF (pk.run _ r9 τ G9 _ I9 q9) fun z r10 ⟨yk, G10, I10, e10, q10⟩ => ?_
        refine thnF (pv.run _ r10 τ G10 _ I10 q10) fun z2 r11 ⟨yv, G11, I11, e11, kvs, k, b, ek, hb, hD11, hz, nx⟩ => ?_
        subst ek
        exact put_tup (X := X.blk r3 G3 scope ce fp) hu I11 hD11 hb hz e10 e11 fun r12 I12 => fin I12 nx
  exact codeAny_compStart_dict loop (T.self X.A 0 _ _ _ st4 loop)
/-- as a value -/
theorem pe_dct (hc : X.calm = true) (hu : X.A.units + 1 < cLine) (hN : X.N.Nodup) (hi : PI X tg iter wi) (ok : BlkOk X.N X.env.scope scope own) (hg : ∀ r G C cl fp, PG (X.blk r G scope (compEnvC scope cl C X.env) fp) tg g)
    (ht : ∀ r G C cl fp, PTs (X.blk r G scope (compEnvC scope cl C X.env) fp) ifs tt) (hk : ∀ r G C cl fp, PE (X.blk r G scope (compEnvC scope cl C X.env) fp) kx tk)
    (he : ∀ r G C cl fp, PE (X.blk r G scope (compEnvC scope cl C X.env) fp) vx tv) (hs : ∀ x, foldedSetIterable iter X.env x = pure x := by intro _; rfl) : PE X (.DictComp kx vx [⟨tg, iter, ifs, 0⟩] scope pos) (tDct wi g tt tk tv (own.map (·.2))) := by
  refine ⟨fun pins s σ H Q I h => ?_⟩
  rw [arm_eval_DictComp]
  refine dct_core hc hu hN I hi ok hg ht hk he hs h fun D C r m G J' q hn ⟨f0, f1, f2, f3, f4, f5⟩ => ⟨m, hn, fun h'' sb => ?_⟩
  exact ⟨.ref D, G, J'.turned (t' := r.toks) (fun b o hb e => (sb.2 b hb).trans e) f0 f1 f3 f4 f5, rfl, q⟩
/-- y = {..} -/
theorem ps_setDct {i : Nat} {y : Str} {py spos : Pos} (hc : X.calm = true) (hu : X.A.units + 1 < cLine) (hN : X.N.Nodup) (hy : X.N[i]? = some y) (hyl : X.env.scope.names.lookup y = some .local) (hsw : swapsWith (.DictComp kx vx [⟨tg, iter, ifs, 0⟩] scope pos) (some (.Name y py)) spos.line X.env = pure true)
    (hi : PI X tg iter wi) (ok : BlkOk X.N X.env.scope scope own) (hg : ∀ r G C cl fp, PG (X.blk r G scope (compEnvC scope cl C X.env) fp) tg g) (ht : ∀ r G C cl fp, PTs (X.blk r G scope (compEnvC scope cl C X.env) fp) ifs tt)
    (hk : ∀ r G C cl fp, PE (X.blk r G scope (compEnvC scope cl C X.env) fp) kx tk) (he : ∀ r G C cl fp, PE (X.blk r G scope (compEnvC scope cl C X.env) fp) vx tv) (hs : ∀ x, foldedSetIterable iter X.env x = pure x := by intro _; rfl) :
    PS X (.Assign [.Name y py] (.DictComp kx vx [⟨tg, iter, ifs, 0⟩] scope pos) spos) (tAsg (tDct wi g tt tk tv (own.map (·.2))) (gName i)) := by
  refine ⟨fun pins s σ H W I h => ?_⟩
  rw [exec_Assign_Name_used _ _ _ _ hsw]
  refine wpAny_bind (wpAny_standAt (wpAny_bind ?_))
  show wpAny _ X.A (do
    let _ ← comprehension (.DictComp kx vx [⟨tg, iter, ifs, 0⟩] scope pos) scope X.env (firstIterPos [⟨tg, iter, ifs, 0⟩] pos) newDict false (eval iter X.env) (some (assign (.Name y py) X.env))) _ _ s
  have h' : tDct wi g tt tk tv (own.map (·.2)) σ H fun x G => gName i x σ G W.nx := h
  refine wpAny_bind (thn (dct_core (Qf := fun _ r => SP X pins W .next r) hc hu hN I hi ok hg ht hk he hs h' fun D C r m G J' q hn f => ?_) fun _ r hq => wpAny_pure (wpAny_pure hq))
  show wpAny _ _ (assign (.Name y py) X.env (.ref D)) _ _ _
  refine wpAny_assign_Name (store_ok2 (v := V.ref D) J' hN hy (.inl hyl) rfl (fun r2 J2 ⟨c, sb, hc2⟩ => ?_) (.inr hyl))
  obtain ⟨f0, f1, f2, f3, f4, f5⟩ := f
  have ne : C ≠ c := hc2.elim (fun z => z ▸ f1) fun z e => f4 y c z e.symm
  exact ⟨m, hn.sameBut sb ne, fun h3 sb3 => ⟨_, G, J2.turned (t' := r2.toks) (fun b o hb e => (sb3.2 b hb).trans e) f0 f1 f3 f4 f5, q⟩⟩
theorem ps_setDck {i : Nat} {y : Str} {py spos : Pos} (hc : X.calm = true) (hN : X.N.Nodup) (hy : X.N[i]? = some y) (hyl : X.env.scope.names.lookup y = some .local) (hsw : swapsWith (.DictComp kx vx [⟨tg, iter, ifs, 0⟩] scope pos) (some (.Name y py)) spos.line X.env = pure true)
    (hi : PI X tg iter wi) (ok : BlkOk X.N X.env.scope scope own) (hg : ∀ r G C cl fp, PG (X.blk r G scope (compEnvC scope cl C X.env) fp) tg g) (ht : ∀ r G C cl fp, PTs (X.blk r G scope (compEnvC scope cl C X.env) fp) ifs tt)
    (hk : ∀ r G C cl fp, PE (X.blk r G scope (compEnvC scope cl C X.env) fp) kx tk) (he : ∀ r G C cl fp, PE (X.blk r G scope (compEnvC scope cl C X.env) fp) vx tv) (hs : ∀ x, foldedSetIterable iter X.env x = pure x := by intro _; rfl) :
    PS X (.Assign [.Name y py] (.DictComp kx vx [⟨tg, iter, ifs, 0⟩] scope pos) spos) (tAsg (tDc wi g tt tk tv (own.map (·.2))) (gName i)) := by
  refine ⟨fun pins s σ H W I h => ?_⟩
  rw [exec_Assign_Name_used _ _ _ _ hsw]
  refine wpAny_bind (wpAny_standAt (wpAny_bind ?_))
  show wpAny _ X.A (do
    let _ ← comprehension (.DictComp kx vx [⟨tg, iter, ifs, 0⟩] scope pos) scope X.env (firstIterPos [⟨tg, iter, ifs, 0⟩] pos) newDict false (eval iter X.env) (some (assign (.Name y py) X.env))) _ _ s
  have h' : tDc wi g tt tk tv (own.map (·.2)) σ H fun x G => gName i x σ G W.nx := h
  refine wpAny_bind (thn (dc_core (Qf := fun _ r => SP X pins W .next r) hc hN I hi ok hg ht hk he hs h' fun D C r m G J' q hn f => ?_) fun _ r hq => wpAny_pure (wpAny_pure hq))
  show wpAny _ _ (assign (.Name y py) X.env (.ref D)) _ _ _
  refine wpAny_assign_Name (store_ok2 (v := V.ref D) J' hN hy (.inl hyl) rfl (fun r2 J2 ⟨c, sb, hc2⟩ => ?_) (.inr hyl))
  obtain ⟨f0, f1, f2, f3, f4, f5⟩ := f
  have ne : C ≠ c := hc2.elim (fun z => z ▸ f1) fun z e => f4 y c z e.symm
  exact ⟨m, hn.sameBut sb ne, fun h3 sb3 => ⟨_, G, J2.turned (t' := r2.toks) (fun b o hb e => (sb3.2 b hb).trans e) f0 f1 f3 f4 f5, q⟩⟩
theorem sw_dict {gs : List Comprehension} {py : Pos} {y : Str} {l : Nat} {env : Env} (hk : env.scope.kind = .function) (hy : env.scope.names.lookup y = some .local) (hl : (py.line == pos.line) = true)
    (ha : (scope.names.any fun (n, k) => n == y && (k == .local || k == .cell)) = false) : swapsWith (.DictComp kx vx gs scope pos) (some (.Name y py)) l env = pure true := by
  have e1 : env.kindOf y = some .local := hy
  have e2 : env.blockKind = .function := by
    unfold Env.blockKind
    rw [hk]
    rfl
  unfold swapsWith
  simp only [e2, e1, ha, Expr.pos, hl]
  rfl
end
end OK

set_option Elab.async false
set_option linter.all false
set_option maxRecDepth 100000
set_option maxHeartbeats 2000000
/-! math.comb, xs[i] op= e, walks of dict comprehensions over lists -/
namespace OK
open PySem PySem.Spec PyProof.Rows L2
section
variable {X : Cx}
/-- comb(n, k) of small ints -/
def rComb : List V → Hp → VK → Prop := fun vs H Q => ∃ n k : Nat, vs = [.int (n : Int), .int (k : Int)] ∧ n ≤ 1000 ∧ Q (.int (PySem.W.mcComb n k)) H
theorem cr_comb : CallR X (.builtin "math.comb") rComb := by
  intro pins s σ H vs us Q I r h
  obtain ⟨n, k, rfl, hn, q⟩ := h
  obtain ⟨t, u, rfl⟩ := Vals.int2 r
  exact PySem.W.mc_comb (by omega) (by omega) (by omega) (.inr (by omega)) fun _ => ⟨.int _, H, I.tok _, ⟨_, rfl⟩, q⟩
/-- xs[i] read for xs[i] op= e -/
theorem get_list : PGet X (rIxL X.K) := by
  intro pins s σ H o i ov iv Q I ro ri h
  obtain ⟨p, xs, k, z, rfl, rfl, hq, he, q⟩ := h
  cases ro
  obtain ⟨t, rfl⟩ := ri
  obtain ⟨its, r, pl, hz⟩ := I.list hq
  obtain ⟨j, h1, h2, h3, h4, h5⟩ := atI_get he
  obtain ⟨u, eu, ru⟩ := r.get h2
  have hl := r.length
  have fin : EP X pins σ Q u s := ⟨z, H, I, ru, q⟩
  have bound := line63
  by_cases c : 0 ≤ k
  · have ej : k.toNat = j := Option.some.inj ((seqIndex_of c h5).symm.trans h1)
    exact wpAny_getItem_list pl.isList c (by omega) (by rw [ej]; simpa using eu) fin
  · have ej : (k + (its.toArray.size : Int)).toNat = j := by
      rw [List.size_toArray, ← hl]
      exact Option.some.inj ((seqIndex_neg (by omega) h4).symm.trans h1)
    exact wpAny_getItem_list_neg pl.isList (by omega) (by rw [List.size_toArray]; omega) (by omega) (by rw [ej]; simpa using eu) fin
end
/-- a dict comprehension with tuple keys over a list that stays -/
theorem dct_list {K : PySem.W.Frag} {a : Addr} {xs : List V} {g : TG} {tt : TT} {tk tv : TE} {vs : List Nat} {σ : L2.St} {G : Hp} {D : Addr} {Qd : Hp → Prop} (Pv : Nat → Hp → Prop) (h0 : Pv 0 (upd G D (.dT []))) (hl : ∀ i F, i ≤ xs.length → Pv i F → SqL K F a xs)
    (hs : ∀ i x F, xs[i]? = some x → Pv i F → g x (wipe σ vs) F fun σ2 F2 => wipe σ2 vs = wipe σ vs ∧ tt σ2 F2 fun c F3 =>
      if c = true then tk σ2 F3 fun y F4 => tv σ2 F4 fun z F5 => ∃ kvs k b, y = .ref b ∧ F5 b = some (.tup (k.map kV)) ∧ F5 D = some (.dT kvs) ∧ kvs.length < sizeLine ∧ Pv (i + 1) (upd F5 D (.dT (putK kvs k z)))
      else Pv (i + 1) F3) (hd : ∀ F, Pv xs.length F → Qd F) :
    ∃ W : Nat → Nat → Hp → Prop, (∃ m, W 0 m (upd G D (.dT []))) ∧ ∀ i m F, W i m F → ((Itl K a).stop i F ∧ Qd F) ∨
      ((Itl K a).go i F ∧ ∃ Nx : Hp → Prop, (∀ F', Nx F' → ∃ m', m' < m ∧ W (i + 1) m' F') ∧ ∀ x F', (Itl K a).yld i F x F' →
        g x (wipe σ vs) F' fun σ2 F2 => wipe σ2 vs = wipe σ vs ∧ tt σ2 F2 fun c F3 =>
          if c = true then tk σ2 F3 fun y F4 => tv σ2 F4 fun z F5 => ∃ kvs k b, y = .ref b ∧ F5 b = some (.tup (k.map kV)) ∧ F5 D = some (.dT kvs) ∧ kvs.length < sizeLine ∧ Nx (upd F5 D (.dT (putK kvs k z)))
          else Nx F3) := by
  refine ⟨fun i m F => m + i = xs.length ∧ Pv i F, ⟨xs.length, rfl, h0⟩, fun i m F ⟨hm, p⟩ => ?_⟩
  have q := hl i F (by omega) p
  cases m with
  | zero =>
    obtain rfl : i = xs.length := by omega
    exact .inl ⟨⟨xs, q, Nat.le_refl _⟩, hd F p⟩
  | succ m =>
    have hi : i < xs.length := by omega
    exact .inr ⟨⟨xs, xs[i], q, List.getElem?_eq_getElem hi⟩, Pv (i + 1), fun F' p' => ⟨m, by omega, by omega, p'⟩, fun x F' ⟨e, y⟩ => by
      subst e
      exact hs i x _ (y xs q) p⟩
/-- the same with keys that are ints or texts -/
theorem dc_list {K : PySem.W.Frag} {a : Addr} {xs : List V} {g : TG} {tt : TT} {tk tv : TE} {vs : List Nat} {σ : L2.St} {G : Hp} {D : Addr} {Qd : Hp → Prop} (Pv : Nat → Hp → Prop) (h0 : Pv 0 (upd G D (.dK []))) (hl : ∀ i F, i ≤ xs.length → Pv i F → SqL K F a xs)
    (hs : ∀ i x F, xs[i]? = some x → Pv i F → g x (wipe σ vs) F fun σ2 F2 => wipe σ2 vs = wipe σ vs ∧ tt σ2 F2 fun c F3 =>
      if c = true then tk σ2 F3 fun y F4 => tv σ2 F4 fun z F5 => ∃ kvs k, y = kV k ∧ F5 D = some (.dK kvs) ∧ kvs.length < sizeLine ∧ Pv (i + 1) (upd F5 D (.dK (putK kvs k z)))
      else Pv (i + 1) F3) (hd : ∀ F, Pv xs.length F → Qd F) :
    ∃ W : Nat → Nat → Hp → Prop, (∃ m, W 0 m (upd G D (.dK []))) ∧ ∀ i m F, W i m F → ((Itl K a).stop i F ∧ Qd F) ∨
      ((Itl K a).go i F ∧ ∃ Nx : Hp → Prop, (∀ F', Nx F' → ∃ m', m' < m ∧ W (i + 1) m' F') ∧ ∀ x F', (Itl K a).yld i F x F' →
        g x (wipe σ vs) F' fun σ2 F2 => wipe σ2 vs = wipe σ vs ∧ tt σ2 F2 fun c F3 =>
          if c = true then tk σ2 F3 fun y F4 => tv σ2 F4 fun z F5 => ∃ kvs k, y = kV k ∧ F5 D = some (.dK kvs) ∧ kvs.length < sizeLine ∧ Nx (upd F5 D (.dK (putK kvs k z)))
          else Nx F3) := by
  refine ⟨fun i m F => m + i = xs.length ∧ Pv i F, ⟨xs.length, rfl, h0⟩, fun i m F ⟨hm, p⟩ => ?_⟩
  have q := hl i F (by omega) p
  cases m with
  | zero =>
    obtain rfl : i = xs.length := by omega
    exact .inl ⟨⟨xs, q, Nat.le_refl _⟩, hd F p⟩
  | succ m =>
    have hi : i < xs.length := by omega
    exact .inr ⟨⟨xs, xs[i], q, List.getElem?_eq_getElem hi⟩, Pv (i + 1), fun F' p' => ⟨m, by omega, by omega, p'⟩, fun x F' ⟨e, y⟩ => by
      subst e
      exact hs i x _ (y xs q) p⟩
end OK

set_option Elab.async false
set_option linter.all false
set_option maxRecDepth 100000
set_option maxHeartbeats 2000000
namespace OT
open PySem PySem.Spec PyProof.Rows L2
theorem subP_take {a b : Pl} {i : Nat} {x y : Int} (ha : a[i]? = some x) (hb : b[i]? = some y) : (subP a b).take (i + 1) = (subP a b).take i ++ [x - y] := by
  rw [List.take_add_one]
  unfold subP
  rw [List.getElem?_zipWith, ha, hb]
  rfl
section
variable {P : Program} {w : World} {K : PySem.W.Frag} {mg : Str → Option Value} {base : Heap}
def spQB (K : PySem.W.Frag) : Sp := fun vs H Q _ => ∃ (a b : Addr) (xs ys : List V) (es fs : List Ent) (n : Nat), vs = [.ref a, .ref b] ∧ SqL K H a xs ∧ SqL K H b ys ∧ Ents H xs es ∧ Ents H ys fs ∧ 0 < es.length ∧ 0 < fs.length ∧ es.length ≤ 1000 ∧ fs.length ≤ 1000 ∧ DimN n es ∧ DimN n fs ∧ n ≤ 1000 ∧
  ∀ p ws H' (rl rh fl fh : Pl), rl.length = n → rh.length = n → fl.length = n → fh.length = n → IsLow es rl → IsTop es rh → IsLow fs fl → IsTop fs fh → Same H H' → H' p = some (.lst ws) → Prs H' ws (subP rl fl) (subP rh fh) → Q (.ref p) H'
theorem c_quotient_box {f : Addr} {fd : FuncData} (D : C8.Def K mg "quotient_box" s_quotient_box f fd) (b : Binds K fd ["row", "factor"] []) (T : Bi mg) (c_bounds : C8.Cal P w K mg base 1 "bounds" (spBounds K) []) : C8.Cal P w K mg base 2 "quotient_box" (spQB K) [] := by
  refine C8.cal0 D b .nil sc_quotient_box (fun vs H Q E h => ?_) (fun cdv A outer s H vs Q E hr h => ?_)
  · obtain ⟨a, b, xs, ys, es, fs, n, rfl, _⟩ := h
    rfl
  · obtain ⟨a, b, xs, ys, es, fs, n, rfl, hS, hT, hE, hF, z1, z2, z3, z4, d1, d2, hn, q⟩ := h
    refine ⟨_, (pss_one (ps_ret (pe_lc (own := [("low", 2), ("high", 3), ("factor_low", 4), ("factor_high", 5)]) (g := (gTup K 2 (gCons (gTup K 2 (gCons (gName 2) (gCons (gName 3) gNil))) (gCons (gTup K 2 (gCons (gName 4) (gCons (gName 5) gNil))) gNil)))) (tt := tYes) rfl sc_quotient_box.nd (pi_zip (by rfl) T.n_zip (pa_cons (C8.pe_c c_bounds hr (by decide) (by rfl) (pa_cons (pv 0) pa_nil)) (pa_cons (C8.pe_c c_bounds hr (by decide) (by rfl) (pa_cons (pv 1) pa_nil)) pa_nil))) (blkOk_by (N := ["row", "factor", "low", "high", "factor_low", "factor_high"]) (sc := C8.fnScope s_quotient_box) (by decide +kernel)) (fun _ _ _ _ _ => (pg_tup rfl (pgs_cons (pg_tup rfl (pgs_cons (pg_name (i := 2) sc_quotient_box.nd rfl (Or.inl rfl)) (pgs_cons (pg_name (i := 3) sc_quotient_box.nd rfl (Or.inl rfl)) pgs_nil))) (pgs_cons (pg_tup rfl (pgs_cons (pg_name (i := 4) sc_quotient_box.nd rfl (Or.inl rfl)) (pgs_cons (pg_name (i := 5) sc_quotient_box.nd rfl (Or.inl rfl)) pgs_nil))) pgs_nil)))) (fun _ _ _ _ _ => pts_nil) (fun _ _ _ _ _ => (pe_tup (pa_cons (pe_op op_sub (pv 2) (pv 4)) (pa_cons (pe_op op_sub (pv 3) (pv 5)) pa_nil))))))), ?_⟩
    refine ⟨_, rfl, a, xs, es, n, rfl, hS, hE, z1, z3, d1, hn, fun p1 ws1 H1 rl rh n1 lR hR s1 hp1 hW1 => ?_⟩
    refine ⟨_, rfl, b, ys, fs, n, rfl, s1.seq hT, hF.mono s1, z2, z4, d2, hn, fun p2 ws2 H2 fl fh n2 lF hF2 s2 hp2 hW2 => ?_⟩
    have l1 := hW1.l1
    have l2 := hW2.l1
    have l3 := hW1.l2
    have l4 := hW2.l2
    have s12 := s1.trans s2
    have hP1 : SqL K H2 p1 ws1 := .inl (.inl (s2 _ _ hp1))
    have hP2 : SqL K H2 p2 ws2 := .inl (.inl hp2)
    refine ⟨p1, p2, _, _, rfl, hP1, hP2, fun D nD => ?_⟩
    refine lc_it (walk_zip (xs := ws1) (ys := ws2) (n := n) (by omega)) (fun i F => Same H2 F ∧ ∃ ws, F D = some (.lst ws) ∧ Prs F ws ((subP rl fl).take i) ((subP rh fh).take i)) ⟨same_upd nD, [], upd_same, rfl, rfl, fun k v e => by simp at e⟩ ?_ ?_ ?_
    · rintro i F _ ⟨sm, _⟩
      exact ⟨sm.seq hP1, sm.seq hP2⟩
    · rintro i x F F2 hi ⟨sm, ws, hD, hW⟩ ⟨t, x1, x2, rfl, nt, rfl, e1, e2⟩
      obtain ⟨t1, a1, a2, rfl, q1, q2, ht1⟩ := (hW1.mono s2).at_ i x1 e1
      obtain ⟨t2, b1, b2, rfl, r1, r2, ht2⟩ := hW2.at_ i x2 e2
      have smt : Same F (upd F t (.tup [.ref t1, .ref t2])) := same_upd nt
      have ht : (upd F t (.tup [.ref t1, .ref t2])) t = some (.tup [.ref t1, .ref t2]) := upd_same
      generalize upd F t (.tup [.ref t1, .ref t2]) = F2 at smt ht
      have sm2 := sm.trans smt
      refine ⟨t, _, rfl, .inl (.inl ht), rfl, _, _, rfl, ?_⟩
      refine ⟨t1, _, rfl, .inl (.inl (sm2 _ _ ht1)), rfl, _, _, rfl, _, _, rfl, rfl, ?_⟩
      refine ⟨_, _, rfl, t2, _, rfl, .inl (.inl (sm2 _ _ ht2)), rfl, _, _, rfl, _, _, rfl, rfl, rfl, rfl, tYes_of ?_⟩
      refine ⟨_, rfl, _, rfl, _, _, rfl, rfl, _, rfl, _, rfl, _, _, rfl, rfl, (by show 2 ≤ sizeLine; decide), fun t5 nt5 => ?_⟩
      have s5 : Same F2 (upd F2 t5 (.tup [.int (a1 - b1), .int (a2 - b2)])) := same_upd nt5
      have k5 : (upd F2 t5 (.tup [.int (a1 - b1), .int (a2 - b2)])) t5 = some (.tup [.int (a1 - b1), .int (a2 - b2)]) := upd_same
      generalize upd F2 t5 (.tup [.int (a1 - b1), .int (a2 - b2)]) = F3 at s5 k5
      have sX := smt.trans s5
      have hD3 := sX _ _ hD
      have hwl := hW.l1
      rw [List.length_take] at hwl
      refine ⟨ws, hD3, small100k (by omega), same_mut (sm.trans sX) nD, ws ++ [.ref t5], upd_same, ?_⟩
      rw [subP_take q1 r1, subP_take q2 r2]
      exact ((hW.mono sX).snoc k5).updL hD3
    · rintro F ⟨sm, ws, hD, hW⟩
      have e1 : (subP rl fl).length = n := by rw [subP_len (by omega)]; omega
      have e2 : (subP rh fh).length = n := by rw [subP_len (by omega)]; omega
      rw [← e1, List.take_length, e1, ← e2, List.take_length] at hW
      exact q D ws F rl rh fl fh n1 (by omega) n2 (by omega) lR hR lF hF2 (s12.trans sm) hD hW
/-- a place in a box, asked -/
def inBox (lo hi t : Pl) : Bool := (List.range t.length).all fun k => decide (lo.getD k 0 ≤ t.getD k 0 ∧ t.getD k 0 ≤ hi.getD k 0)
theorem inBox_iff {lo hi t : Pl} (h1 : lo.length = t.length) (h2 : hi.length = t.length) : inBox lo hi t = true ↔ InB lo hi t := by
  unfold inBox
  rw [List.all_eq_true]
  constructor
  · intro h k x y z hx hy hz
    have hk := (List.getElem?_eq_some_iff.mp hx).1
    have := of_decide_eq_true (h k (List.mem_range.mpr hk))
    rw [getD_some hx, getD_some hy, getD_some hz] at this
    exact this
  · intro h k hk
    have hk' := List.mem_range.mp hk
    refine decide_eq_true (h k _ _ _ ?_ ?_ ?_)
    all_goals rw [List.getD_eq_getElem?_getD, List.getElem?_eq_getElem (by omega)]; rfl
def spInside (K : PySem.W.Frag) : Sp := fun vs H Q _ => ∃ (a b : Addr) (ws : List V) (lo hi t : Pl), vs = [.ref a, .ref b] ∧ SqT K H a (t.map V.int) ∧ SqL K H b ws ∧ Prs H ws lo hi ∧ lo.length = t.length ∧ t.length ≤ 1000 ∧ ∀ H', Same H H' → Q (.bl (inBox lo hi t)) H'
theorem c_inside {f : Addr} {fd : FuncData} (D : C8.Def K mg "inside" s_inside f fd) (b : Binds K fd ["place", "box"] []) (T : Bi mg) : C8.Cal P w K mg base 1 "inside" (spInside K) [] := by
  refine C8.cal0 D b .nil sc_inside (fun vs H Q E h => ?_) (fun cdv A outer s H vs Q E hr h => ?_)
  · obtain ⟨a, b, ws, lo, hi, t, rfl, _⟩ := h
    rfl
  · obtain ⟨a, b, ws, lo, hi, t, rfl, hS, hT, hW, hl, hz, q⟩ := h
    refine ⟨_, (pss_one (ps_ret (pe_callB (cr_all rfl) (by rfl) T.n_all OT.b_all (pa_cons (pe_lc (own := [("x", 2), ("low", 3), ("high", 4)]) (g := (gTup K 2 (gCons (gName 2) (gCons (gTup K 2 (gCons (gName 3) (gCons (gName 4) gNil))) gNil)))) (tt := tYes) rfl sc_inside.nd (ZM.pi_zipM (by rfl) T.n_zip (pa_cons (pv 0) (pa_cons (pv 1) pa_nil))) (blkOk_by (N := ["place", "box", "x", "low", "high"]) (sc := C8.fnScope s_inside) (by decide +kernel)) (fun _ _ _ _ _ => (pg_tup rfl (pgs_cons (pg_name (i := 2) sc_inside.nd rfl (Or.inl rfl)) (pgs_cons (pg_tup rfl (pgs_cons (pg_name (i := 3) sc_inside.nd rfl (Or.inl rfl)) (pgs_cons (pg_name (i := 4) sc_inside.nd rfl (Or.inl rfl)) pgs_nil))) pgs_nil)))) (fun _ _ _ _ _ => pts_nil) (fun _ _ _ _ _ => (pe_chain op_le op_le (pv 3) (pv 2) (pv 4)))) pa_nil)))), ?_⟩
    have l1 := hW.l1
    have l2 := hW.l2
    refine ⟨_, rfl, _, rfl, a, b, _, _, rfl, hS, hT, fun D nD => ?_⟩
    refine lc_it (ZM.walk_zipM (K := K) (a := a) (b := b) (xs := t.map V.int) (ys := ws)) (fun i F => Same H F ∧ F D = some (.lst (((List.range i).map fun k => decide (lo.getD k 0 ≤ t.getD k 0 ∧ t.getD k 0 ≤ hi.getD k 0)).map V.bl))) ⟨same_upd nD, upd_same⟩ ?_ ?_ ?_
    · rintro i F _ ⟨sm, _⟩
      exact ⟨same_t sm hS, sm.seq hT⟩
    · rintro i x F F2 hi2 ⟨sm, hD⟩ ⟨tt, x1, x2, rfl, nt, rfl, e1, e2⟩
      obtain ⟨hi3, rfl⟩ := getm (show (t.map V.int)[i]? = some x1 from e1)
      obtain ⟨t2, y, z, rfl, r1, r2, ht2⟩ := hW.at_ i x2 e2
      have smt : Same F (upd F tt (.tup [.int t[i], .ref t2])) := same_upd nt
      have ht : (upd F tt (.tup [.int t[i], .ref t2])) tt = some (.tup [.int t[i], .ref t2]) := upd_same
      generalize upd F tt (.tup [.int t[i], .ref t2]) = F2 at smt ht
      have sm2 := sm.trans smt
      have hD2 := smt _ _ hD
      refine ⟨tt, _, rfl, .inl (.inl ht), rfl, _, _, rfl, ?_⟩
      refine ⟨_, _, rfl, t2, _, rfl, .inl (.inl (sm2 _ _ ht2)), rfl, _, _, rfl, _, _, rfl, rfl, rfl, rfl, tYes_of ?_⟩
      have gt : t.getD i 0 = t[i] := getD_some (List.getElem?_eq_getElem hi3)
      have step : (List.range (i + 1)).map (fun k => decide (lo.getD k 0 ≤ t.getD k 0 ∧ t.getD k 0 ≤ hi.getD k 0)) = (List.range i).map (fun k => decide (lo.getD k 0 ≤ t.getD k 0 ∧ t.getD k 0 ≤ hi.getD k 0)) ++ [decide (y ≤ t[i] ∧ t[i] ≤ z)] := by
        rw [List.range_succ, List.map_append, ← gt, ← getD_some r1, ← getD_some r2]
        rfl
      have len : (((List.range i).map fun k => decide (lo.getD k 0 ≤ t.getD k 0 ∧ t.getD k 0 ≤ hi.getD k 0)).map V.bl).length < sizeLine := by
        rw [List.length_map, List.length_map, List.length_range]
        exact small1000 (by omega)
      have last : ∀ v : Bool, v = decide (y ≤ t[i] ∧ t[i] ≤ z) → upd F2 D (.lst ((((List.range i).map fun k => decide (lo.getD k 0 ≤ t.getD k 0 ∧ t.getD k 0 ≤ hi.getD k 0)).map V.bl) ++ [V.bl v])) D = some (.lst (((List.range (i + 1)).map fun k => decide (lo.getD k 0 ≤ t.getD k 0 ∧ t.getD k 0 ≤ hi.getD k 0)).map V.bl)) := fun v hv => by
        rw [upd_same, step, List.map_append, hv]
        rfl
      refine ⟨_, rfl, _, rfl, _, _, rfl, rfl, _, rfl, ?_⟩
      by_cases c : y ≤ t[i]
      · rw [decide_eq_true c]
        refine iteT ⟨_, rfl, _, _, rfl, rfl, _, hD2, len, same_mut (sm.trans smt) nD, last _ ?_⟩
        by_cases d : t[i] ≤ z
        · rw [decide_eq_true d, decide_eq_true ⟨c, d⟩]
        · rw [decide_eq_false d, decide_eq_false (fun w => d w.2)]
      · rw [decide_eq_false c]
        exact iteF ⟨_, hD2, len, same_mut (sm.trans smt) nD, last _ (decide_eq_false (fun w => c w.1)).symm⟩
    · rintro F ⟨sm, hD⟩
      have em : min (t.map V.int).length ws.length = t.length := by rw [List.length_map]; omega
      rw [em] at hD
      refine ⟨D, _, rfl, .inl (.inl hD), ?_⟩
      have := q F sm
      unfold inBox at this
      rw [List.all_map]
      exact this
end
end OT

set_option Elab.async false
set_option linter.all false
set_option maxRecDepth 100000
set_option maxHeartbeats 2000000
namespace OT
open PySem PySem.Spec PyProof.Rows L2
/-! the state of a division -/
theorem nodup_len {α : Type} [DecidableEq α] : ∀ {ks U : List α}, ks.Nodup → (∀ k ∈ ks, k ∈ U) → ks.length ≤ U.length
  | [], _, _, _ => Nat.zero_le _
  | k :: r, U, h, s => by
    obtain ⟨h1, h2⟩ := List.nodup_cons.mp h
    have hk := s k List.mem_cons_self
    have ih := nodup_len (U := U.erase k) h2 fun x hx => (List.mem_erase_of_ne (fun z => h1 (by rw [← z]; exact hx))).mpr (s x (List.mem_cons_of_mem _ hx))
    have hl := List.length_erase_of_mem hk
    have : 0 < U.length := List.length_pos_of_mem hk
    rw [List.length_cons]
    omega
/-- between entries of a row -/
def Btw (R : List Ent) (k : Pl) : Prop := ∀ (i : Nat) (x : Int), k[i]? = some x → (∃ e ∈ R, ∃ y, e.1[i]? = some y ∧ y ≤ x) ∧ ∃ e ∈ R, ∃ y, e.1[i]? = some y ∧ x ≤ y
theorem btw_of {R : List Ent} {rl rh k : Pl} (h1 : IsLow R rl) (h2 : IsTop R rh) (l1 : k.length = rl.length) (l2 : k.length = rh.length) (h : InB rl rh k) : Btw R k := fun i x hx => by
  have hi := (List.getElem?_eq_some_iff.mp hx).1
  have e1 : rl[i]? = some (rl[i]) := List.getElem?_eq_getElem (by omega)
  have e2 : rh[i]? = some (rh[i]) := List.getElem?_eq_getElem (by omega)
  obtain ⟨b1, b2⟩ := h i x _ _ hx e1 e2
  obtain ⟨a, ha, ea⟩ := (h1 i _ e1).1
  obtain ⟨c, hc, ec⟩ := (h2 i _ e2).1
  exact ⟨⟨a, ha, _, ea, b1⟩, c, hc, _, ec, b2⟩
theorem btw_self {R : List Ent} {e : Ent} (h : e ∈ R) : Btw R e.1 := fun i x hx => ⟨⟨e, h, x, hx, Int.le_refl _⟩, e, h, x, hx, Int.le_refl _⟩
theorem btw_within {R : List Ent} {k : Pl} {h : Nat} (hr : ∀ e ∈ R, Within h e.1) (b : Btw R k) : Within h k := fun x hx => by
  obtain ⟨i, hi, rfl⟩ := List.getElem_of_mem hx
  obtain ⟨⟨a, ha, y, ey, le⟩, c, hc, z, ez, le2⟩ := b i _ (List.getElem?_eq_getElem hi)
  have h1 := hr a ha y (List.mem_of_getElem? ey)
  have h2 := hr c hc z (List.mem_of_getElem? ez)
  omega
/-- a place of the quotient box and one of the factor give one between the entries of the row -/
theorem btw_plus {n : Nat} {R F : List Ent} {rl rh fl fh t : Pl} {e : Ent} (lR : IsLow R rl) (hR : IsTop R rh) (lF : IsLow F fl) (hF : IsTop F fh) (nr : rl.length = n) (nh : rh.length = n) (nf : fl.length = n) (ng : fh.length = n) (he : e ∈ F) (hl : e.1.length = n) (ht : t.length = n) (hb : InB (subP rl fl) (subP rh fh) t) : Btw R (plusP e.1 t) := by
  have lp : (plusP e.1 t).length = n := by rw [plusP_len (by omega), hl]
  refine btw_of lR hR (by omega) (by omega) fun k x y z hx hy hz => ?_
  have hk : k < n := by
    have := (List.getElem?_eq_some_iff.mp hx).1
    omega
  have e1 : fl[k]? = some fl[k] := List.getElem?_eq_getElem (by omega)
  have e2 : fh[k]? = some fh[k] := List.getElem?_eq_getElem (by omega)
  have e3 : t[k]? = some t[k] := List.getElem?_eq_getElem (by omega)
  have e4 : e.1[k]? = some e.1[k] := List.getElem?_eq_getElem (by omega)
  obtain ⟨b1, b2⟩ := hb k _ (y - fl[k]) (z - fh[k]) e3 (by unfold subP; rw [List.getElem?_zipWith, hy, e1]) (by unfold subP; rw [List.getElem?_zipWith, hz, e2])
  have a1 := (lF k _ e1).2 e he _ e4
  have a2 := (hF k _ e2).2 e he _ e4
  unfold plusP at hx
  rw [List.getElem?_zipWith, e4, e3] at hx
  have hx' : e.1[k] + t[k] = x := Option.some.inj hx
  omega
section
variable {B : Int} {n : Nat} {R : List Ent} {f0 : Pl} {Bx : Pl → Prop}
/-- before a key is taken -/
structure OutI (B : Int) (n : Nat) (R : List Ent) (f0 : Pl) (Bx : Pl → Prop) (ks ps : List Pl) (f : Pl → Int) (PL : List Ent) (l : List Int) : Prop where
  kB : ∀ k ∈ ks, k.length = n ∧ Btw R k
  lk : ∀ y ∈ l, ∃ k ∈ ks, y = keyP B k
  pr : ∀ k ∈ ks, keyP B k ∈ l ∨ (f k = 0 ∧ ∀ y ∈ l, keyP B k ≤ y)
  pa : ∀ a ∈ ps, (a.length = n ∧ Bx a) ∧ f (plusP f0 a) = 0 ∧ ∀ y ∈ l, keyP B (plusP f0 a) ≤ y
  pp : ∀ e ∈ PL, e.1 ∈ ps
/-- while the terms are taken away -/
structure InI (B : Int) (n : Nat) (R : List Ent) (f0 : Pl) (Bx : Pl → Prop) (p : Pl) (ks ps : List Pl) (f : Pl → Int) (PL : List Ent) (l : List Int) : Prop where
  kB : ∀ k ∈ ks, k.length = n ∧ Btw R k
  pk : p ∈ ks
  lk : ∀ y ∈ l, ∃ k ∈ ks, y = keyP B k
  le : ∀ y ∈ l, keyP B p ≤ y
  pr : ∀ k ∈ ks, k = p ∨ keyP B k ∈ l ∨ (f k = 0 ∧ k ≠ p ∧ keyP B k ≤ keyP B p)
  pa : ∀ a ∈ ps, (a.length = n ∧ Bx a) ∧ f (plusP f0 a) = 0 ∧ plusP f0 a ≠ p ∧ keyP B (plusP f0 a) ≤ keyP B p
  pp : ∀ e ∈ PL, e.1 ∈ ps
variable (inj : ∀ k l : Pl, k.length = n → l.length = n → Btw R k → Btw R l → keyP B k = keyP B l → k = l)
include inj
theorem OutI.skip {ks ps : List Pl} {f : Pl → Int} {PL : List Ent} {p : Pl} {l l' : List Int} (h : OutI B n R f0 Bx ks ps f PL (keyP B p :: l)) (hp : p ∈ ks) (le : ∀ y ∈ keyP B p :: l, keyP B p ≤ y) (pm : l'.Perm l) (z : f p = 0) : OutI B n R f0 Bx ks ps f PL l' := by
  have sub : ∀ y ∈ l', y ∈ keyP B p :: l := fun y hy => List.mem_cons_of_mem _ (pm.mem_iff.mp hy)
  refine ⟨h.kB, fun y hy => h.lk y (sub y hy), fun k hk => ?_, fun a ha => ?_, h.pp⟩
  · rcases h.pr k hk with h1 | ⟨h1, h2⟩
    · rcases List.mem_cons.mp h1 with h1 | h1
      · have := inj k p (h.kB k hk).1 (h.kB p hp).1 (h.kB k hk).2 (h.kB p hp).2 h1
        subst this
        exact .inr ⟨z, fun y hy => le y (sub y hy)⟩
      · exact .inl (pm.mem_iff.mpr h1)
    · exact .inr ⟨h1, fun y hy => h2 y (sub y hy)⟩
  · obtain ⟨h1, h2, h3⟩ := h.pa a ha
    exact ⟨h1, h2, fun y hy => h3 y (sub y hy)⟩
theorem OutI.take {ks ps : List Pl} {f : Pl → Int} {PL : List Ent} {p : Pl} {l l' : List Int} (h : OutI B n R f0 Bx ks ps f PL (keyP B p :: l)) (hp : p ∈ ks) (le : ∀ y ∈ keyP B p :: l, keyP B p ≤ y) (pm : l'.Perm l) (z : f p ≠ 0) : InI B n R f0 Bx p ks ps f PL l' := by
  have sub : ∀ y ∈ l', y ∈ keyP B p :: l := fun y hy => List.mem_cons_of_mem _ (pm.mem_iff.mp hy)
  refine ⟨h.kB, hp, fun y hy => h.lk y (sub y hy), fun y hy => le y (sub y hy), fun k hk => ?_, fun a ha => ?_, h.pp⟩
  · rcases h.pr k hk with h1 | ⟨h1, h2⟩
    · rcases List.mem_cons.mp h1 with h1 | h1
      · exact .inl (inj k p (h.kB k hk).1 (h.kB p hp).1 (h.kB k hk).2 (h.kB p hp).2 h1)
      · exact .inr (.inl (pm.mem_iff.mpr h1))
    · exact .inr (.inr ⟨h1, fun w => z (by rw [← w]; exact h1), h2 _ List.mem_cons_self⟩)
  · obtain ⟨h1, h2, h3⟩ := h.pa a ha
    exact ⟨h1, h2, fun w => z (by rw [← w]; exact h2), h3 _ List.mem_cons_self⟩
theorem InI.step {ks ps : List Pl} {f : Pl → Int} {PL : List Ent} {p c : Pl} {l l' : List Int} {v : Int} (h : InI B n R f0 Bx p ks ps f PL l) (hl : c.length = n) (hb : Btw R c) (hc : c = p ∨ keyP B p < keyP B c) (pm : l'.Perm (if c ∈ ks then l else l ++ [keyP B c])) :
    InI B n R f0 Bx p (if c ∈ ks then ks else ks ++ [c]) ps (fun q => f q + if c = q then v else 0) PL l' := by
  have mk : ∀ k, (k ∈ if c ∈ ks then ks else ks ++ [c]) ↔ k ∈ ks ∨ k = c := fun k => by
    by_cases m : c ∈ ks
    · rw [if_pos m]
      exact ⟨.inl, fun z => z.elim id fun z => by rw [z]; exact m⟩
    · rw [if_neg m, List.mem_append, List.mem_singleton]
  have ml : ∀ y, y ∈ l' → y ∈ l ∨ y = keyP B c := fun y hy => by
    have := pm.mem_iff.mp hy
    by_cases m : c ∈ ks
    · rw [if_pos m] at this
      exact .inl this
    · rw [if_neg m, List.mem_append, List.mem_singleton] at this
      exact this
  have ml2 : ∀ y, y ∈ l → y ∈ l' := fun y hy => by
    refine pm.mem_iff.mpr ?_
    by_cases m : c ∈ ks
    · rw [if_pos m]
      exact hy
    · rw [if_neg m]
      exact List.mem_append_left _ hy
  refine ⟨fun k hk => ?_, (mk p).mpr (.inl h.pk), fun y hy => ?_, fun y hy => ?_, fun k hk => ?_, fun a ha => ?_, h.pp⟩
  · rcases (mk k).mp hk with w | rfl
    · exact h.kB k w
    · exact ⟨hl, hb⟩
  · rcases ml y hy with w | rfl
    · obtain ⟨k, hk, e⟩ := h.lk y w
      exact ⟨k, (mk k).mpr (.inl hk), e⟩
    · exact ⟨c, (mk c).mpr (.inr rfl), rfl⟩
  · rcases ml y hy with w | rfl
    · exact h.le y w
    · rcases hc with rfl | w
      · exact Int.le_refl _
      · omega
  · by_cases e : k = c
    · subst e
      by_cases m : k ∈ ks
      · rcases h.pr k m with w | w | ⟨_, w2, w3⟩
        · exact .inl w
        · exact .inr (.inl (ml2 _ w))
        · rcases hc with w | w
          · exact .inl w
          · omega
      · rw [if_neg m] at pm
        exact .inr (.inl (pm.mem_iff.mpr (List.mem_append_right _ List.mem_cons_self)))
    · have hk' : k ∈ ks := ((mk k).mp hk).resolve_right e
      rcases h.pr k hk' with w | w | ⟨w1, w2, w3⟩
      · exact .inl w
      · exact .inr (.inl (ml2 _ w))
      · refine .inr (.inr ⟨?_, w2, w3⟩)
        show f k + (if c = k then v else 0) = 0
        rw [if_neg (fun z => e z.symm), w1]
        rfl
  · obtain ⟨h1, h2, h3, h4⟩ := h.pa a ha
    refine ⟨h1, ?_, h3, h4⟩
    show f (plusP f0 a) + (if c = plusP f0 a then v else 0) = 0
    rw [if_neg, h2]
    · rfl
    · intro z
      rcases hc with w | w
      · exact h3 (by rw [← z, w])
      · rw [z] at w
        omega
theorem InI.done {ks ps : List Pl} {f : Pl → Int} {PL : List Ent} {p t : Pl} {c : Int} {l : List Int} (h : InI B n R f0 Bx p ks ps f PL l) (hz : f p = 0) (ht : t.length = n) (hb : Bx t) (hp : plusP f0 t = p) : OutI B n R f0 Bx ks (ps ++ [t]) f (PL ++ [(t, c)]) l := by
  refine ⟨h.kB, h.lk, fun k hk => ?_, fun a ha => ?_, fun e he => ?_⟩
  · rcases h.pr k hk with rfl | w | ⟨w1, w2, w3⟩
    · exact .inr ⟨hz, h.le⟩
    · exact .inl w
    · exact .inr ⟨w1, fun y hy => Int.le_trans w3 (h.le y hy)⟩
  · rcases List.mem_append.mp ha with ha | ha
    · obtain ⟨h1, h2, h3, h4⟩ := h.pa a ha
      exact ⟨h1, h2, fun y hy => Int.le_trans h4 (h.le y hy)⟩
    · rw [List.mem_singleton.mp ha, hp]
      exact ⟨⟨ht, hb⟩, hz, h.le⟩
  · rcases List.mem_append.mp he with he | he
    · exact List.mem_append_left _ (h.pp e he)
    · rw [List.mem_singleton.mp he]
      exact List.mem_append_right _ List.mem_cons_self
end
/-- the product with one more entry -/
theorem timesL_one (FF : List Ent) (t : Pl) (c : Int) : timesL FF [(t, c)] = FF.map fun e => (plusP e.1 t, e.2 * c) := by
  induction FF with
  | nil => rfl
  | cons e r ih =>
    show (plusP e.1 t, e.2 * c) :: timesL r [(t, c)] = (plusP e.1 t, e.2 * c) :: _
    rw [ih]
def takeF (FF : List Ent) (t : Pl) (c : Int) (j : Nat) : List Ent := (FF.take j).map fun e => (plusP e.1 t, e.2 * c)
theorem takeF_snoc {FF : List Ent} {t : Pl} {c : Int} {j : Nat} {e : Ent} (h : FF[j]? = some e) (q : Pl) (b : Int) : b - numAt (takeF FF t c (j + 1)) q = b - numAt (takeF FF t c j) q + if plusP e.1 t = q then -(c * e.2) else 0 := by
  unfold takeF
  rw [take_snoc h, List.map_append, numAt_app]
  show b - (_ + ((if plusP e.1 t = q then e.2 * c else 0) + 0)) = _
  by_cases z : plusP e.1 t = q
  · rw [if_pos z, if_pos z, Int.mul_comm c]
    omega
  · rw [if_neg z, if_neg z]
    omega
/-- what is left after one more entry of the quotient -/
theorem left_step (R FF PL : List Ent) (t : Pl) (c : Int) (q : Pl) : numAt (R ++ negs (timesL FF (PL ++ [(t, c)]))) q = numAt (R ++ negs (timesL FF PL)) q - numAt (takeF FF t c FF.length) q := by
  rw [numAt_app, numAt_app, numAt_negs, numAt_negs, timesL_app2, timesL_one]
  unfold takeF
  rw [List.take_length]
  omega
/-- at the place itself nothing is left -/
theorem left_zero {n : Nat} {f : Ent} {F R PL : List Ent} {t : Pl} {c : Int} (vF : Valid (f :: F)) (dF : DimN n (f :: F)) (ht : t.length = n) (h : f.2 * c = numAt (R ++ negs (timesL (f :: F) PL)) (plusP f.1 t)) : numAt (R ++ negs (timesL (f :: F) (PL ++ [(t, c)]))) (plusP f.1 t) = 0 := by
  rw [left_step, ← h]
  unfold takeF
  rw [List.take_length]
  have : numAt (F.map fun e => (plusP e.1 t, e.2 * c)) (plusP f.1 t) = 0 := numAt_out fun x hx z => by
    obtain ⟨e, he, rfl⟩ := List.mem_map.mp hx
    have h1 := (List.pairwise_cons.mp vF.asc).1 e he
    have h2 := dF e (List.mem_cons_of_mem _ he)
    have h3 := dF f List.mem_cons_self
    have : HT.lexLt (plusP f.1 t) (plusP e.1 t) = true := by
      rw [plusP_lt (by omega) (by omega)]
      exact h1
    exact lt_ne this z.symm
  show f.2 * c - ((if plusP f.1 t = plusP f.1 t then f.2 * c else 0) + numAt (F.map fun e => (plusP e.1 t, e.2 * c)) (plusP f.1 t)) = 0
  rw [if_pos rfl, this]
  omega
end OT

set_option Elab.async false
set_option linter.all false
set_option maxRecDepth 100000
set_option maxHeartbeats 2000000
namespace OT
open PySem PySem.Spec PyProof.Rows L2
section
variable {P : Program} {w : World} {K : PySem.W.Frag} {mg : Str → Option Value} {base : Heap}
/-- a row and a factor that is not zero -/
structure DivR (K : PySem.W.Frag) (H : Hp) (a b : Addr) (xs ys : List V) (R : List Ent) (f : Ent) (F : List Ent) (n C : Nat) (U : List Pl) : Prop where
  ha : H a = some (.lst xs)
  hb : H b = some (.lst ys)
  e : Ents H xs R
  g : Ents H ys (f :: F)
  vR : Valid R
  vF : Valid (f :: F)
  dR : DimN n R
  dF : DimN n (f :: F)
  zR : R.length ≤ 1000
  zF : (f :: F).length ≤ 1000
  n3 : n ≤ 3
  cR : ∀ e ∈ R, ∀ x ∈ e.1, x.natAbs ≤ C
  cF : ∀ e ∈ f :: F, ∀ x ∈ e.1, x.natAbs ≤ C
  c : C ≤ 1000000
  nb : ∀ g ∈ f :: F, -(2 ^ 64) < g.2 ∧ g.2 < 2 ^ 64
  u : ∀ k : Pl, k.length = n → Btw R k → k ∈ U
  uz : U.length ≤ 10000
def wantDiv (H : Hp) (R : List Ent) (FF : List Ent) (n : Nat) (Q : VK) : Prop := ∀ (t p1 p2 : Addr) (ws1 ws2 : List V) (part rest : List Ent) (H' : Hp), Same H H' → H' t = some (.tup [.ref p1, .ref p2]) → H p1 = none → H' p1 = some (.lst ws1) → H' p2 = some (.lst ws2) → Ents H' ws1 part → Ents H' ws2 rest → Valid part → Valid rest → DimN n part →
  (rest = [] → ∀ q, numAt R q = numAt (timesL FF part) q) → (rest ≠ [] → ∀ S, DimN n S → ¬ ∀ q, numAt R q = numAt (timesL FF S) q) → Q (.ref t) H'
theorem atI_cons {v : V} {vs : List V} : atI (v :: vs) 0 = some v := by
  exact atI_nat (xs := v :: vs) (j := 0) rfl
theorem dimE_eq' {es : List Ent} {n : Nat} (h : DimN n es) (hp : es ≠ []) : dimE es = n := by
  cases es with
  | nil => exact absurd rfl hp
  | cons e r => exact h e List.mem_cons_self
theorem none_back {H H' : Hp} {p : Addr} (s : Same H H') (h : H' p = none) : H p = none := by
  cases z : H p with
  | none => rfl
  | some o =>
    rw [s _ _ z] at h
    cases h
theorem Kps.head {H : Hp} {ws : List V} {e : Int × Int} {es : List (Int × Int)} (h : Kps H ws (e :: es)) : ∃ v vs, ws = v :: vs ∧ KpAt H v e := by
  cases h with
  | cons a _ => exact ⟨_, _, rfl, a⟩
def spDiv (K : PySem.W.Frag) : Sp := fun vs H Q _ => ∃ (a b : Addr) (xs ys : List V) (R : List Ent) (f : Ent) (F : List Ent) (n C : Nat) (U : List Pl), vs = [.ref a, .ref b] ∧ DivR K H a b xs ys R f F n C U ∧ wantDiv H R (f :: F) n Q
theorem c_divide {fa : Addr} {fd : FuncData} (D : C8.Def K mg "divide" s_divide fa fd) (b : Binds K fd ["row", "factor"] []) (T : Bi mg) (gPop : mg "heappop" = some (.builtin "_heapq.heappop")) (gPush : mg "heappush" = some (.builtin "_heapq.heappush"))
    (c_places_length : C8.Cal P w K mg base 1 "places_length" (spPLen K) []) (c_key_base : C8.Cal P w K mg base 2 "key_base" (spKB K) []) (c_quotient_box : C8.Cal P w K mg base 2 "quotient_box" (spQB K) []) (c_keyed : C8.Cal P w K mg base 2 "keyed" (spKeyed K) []) (c_unkeyed : C8.Cal P w K mg base 2 "unkeyed" spUnk []) (c_inside : C8.Cal P w K mg base 1 "inside" (spInside K) []) (c_place_of : C8.Cal P w K mg base 1 "place_of" spPO []) : C8.Cal P w K mg base 3 "divide" (spDiv K) [] := by
  refine C8.cal0 D b .nil sc_divide (fun vs H Q E h => ?_) (fun cdv A outer s H vs Q E hr h => ?_)
  · obtain ⟨a, b, xs, ys, R, f, F, n, C, U, rfl, _⟩ := h
    rfl
  · obtain ⟨a, b, xs, ys, R, f, F, n, C, U, rfl, hD, q⟩ := h
    refine ⟨_, (pss_cons (ps_if (pt_not (pt_truth (pv 0) (by intro _; rfl))) (pss_one (ps_ret (pe_tup (pa_cons (pe_lst pa_nil) (pa_cons (pe_lst pa_nil) pa_nil))))) pss_nil)
  (pss_cons (ps_set (i := 2) sc_divide.nd rfl (Or.inl rfl) (C8.pe_c c_places_length hr (by decide) (by rfl) (pa_cons (pv 0) pa_nil)))
  (pss_cons (ps_set (i := 3) sc_divide.nd rfl (Or.inl rfl) (C8.pe_c c_key_base hr (by decide) (by rfl) (pa_cons (pv 0) (pa_cons (pv 1) pa_nil))))
  (pss_cons (ps_set (i := 4) sc_divide.nd rfl (Or.inl rfl) (C8.pe_c c_quotient_box hr (by decide) (by rfl) (pa_cons (pv 0) (pa_cons (pv 1) pa_nil))))
  (pss_cons (ps_set (i := 5) sc_divide.nd rfl (Or.inl rfl) (C8.pe_c c_keyed hr (by decide) (by rfl) (pa_cons (pv 1) (pa_cons (pv 3) pa_nil))))
  (pss_cons (ps_asg (pe_ix ix_list (pv 5) pe_int (fun _ _ => rfl)) (pg_tup rfl (pgs_cons (pg_name (i := 9) sc_divide.nd rfl (Or.inl rfl)) (pgs_cons (pg_name (i := 10) sc_divide.nd rfl (Or.inl rfl)) pgs_nil))))
  (pss_cons (OK.ps_setDck (i := 6) (own := [("key", 11), ("number", 15)]) (g := (gTup K 2 (gCons (gName 11) (gCons (gName 15) gNil)))) (tt := tYes) rfl sc_divide.nd rfl rfl (OK.sw_dict rfl rfl rfl rfl) (pi_list (C8.pe_c c_keyed hr (by decide) (by rfl) (pa_cons (pv 0) (pa_cons (pv 3) pa_nil)))) (blkOk_by (N := ["row", "factor", "length", "base", "box", "terms", "rest", "queue", "partial", "first", "lead", "key", "at", "times", "other", "number", "change"]) (sc := C8.fnScope s_divide) (by decide +kernel)) (fun _ _ _ _ _ => (pg_tup rfl (pgs_cons (pg_name (i := 11) sc_divide.nd rfl (Or.inl rfl)) (pgs_cons (pg_name (i := 15) sc_divide.nd rfl (Or.inl rfl)) pgs_nil)))) (fun _ _ _ _ _ => pts_nil) (fun _ _ _ _ _ => (pv 11)) (fun _ _ _ _ _ => (pv 15)))
  (pss_cons (ps_set (i := 7) sc_divide.nd rfl (Or.inl rfl) (pe_callB (OW.cr_sortedDI rfl) (by rfl) T.n_sorted OT.b_sorted (pa_cons (pv 6) pa_nil)))
  (pss_cons (ps_set (i := 8) sc_divide.nd rfl (Or.inl rfl) pe_dnewK)
  (pss_cons (ps_while PassesOwn.never (pt_truth (pv 7) (by intro _; rfl)) (pss_cons (ps_set (i := 11) sc_divide.nd rfl (Or.inl rfl) (pe_callBfun HQ.cr_pop (by rfl) gPop (pa_cons (pv 7) pa_nil)))
  (pss_cons (ps_if (pt_cmpR op_eq (pe_dget (hu_of hr) (pv 6) (pv 11) (fun _ _ => rfl)) pe_int (nomark _)) (pss_one ps_continue) pss_nil)
  (pss_cons (ps_set (i := 12) sc_divide.nd rfl (Or.inl rfl) (pe_op op_sub (pv 11) (pv 9)))
  (pss_cons (ps_if (PW.pt (pw_or (pt_cmpR op_ne (pe_op op_modN (pe_dget (hu_of hr) (pv 6) (pv 11) (fun _ _ => rfl)) (pv 10)) pe_int (nomark _)) (pw_or1 (pt_not (pt_val (C8.pe_c c_inside hr (by decide) (by rfl) (pa_cons (C8.pe_c c_place_of hr (by decide) (by rfl) (pa_cons (pv 12) (pa_cons (pv 3) (pa_cons (pv 2) pa_nil)))) (pa_cons (pv 4) pa_nil)))))))) (pss_one ps_break) pss_nil)
  (pss_cons (ps_set (i := 13) sc_divide.nd rfl (Or.inl rfl) (pe_op HQ.op_fdivNW (pe_dget (hu_of hr) (pv 6) (pv 11) (fun _ _ => rfl)) (pv 10)))
  (pss_cons (ps_dput (hu_of hr) (pv 8) (pv 12) (pv 13) rfl)
  (pss_one (ps_for PassesOwn.never rfl (pi_list (pv 5)) (pg_tup rfl (pgs_cons (pg_name (i := 14) sc_divide.nd rfl (Or.inl rfl)) (pgs_cons (pg_name (i := 15) sc_divide.nd rfl (Or.inl rfl)) pgs_nil))) (pss_cons (ps_set (i := 16) sc_divide.nd rfl (Or.inl rfl) (pe_op op_add (pv 12) (pv 14)))
  (pss_cons (ps_if (pt_cmp (pc_dnotin (hu_of hr) (pv 16) (pv 6))) (pss_cons (ps_expr (pe_callBfun HQ.cr_push (by rfl) gPush (pa_cons (pv 7) (pa_cons (pv 16) pa_nil))))
  (pss_one (ps_dput (hu_of hr) (pv 6) (pv 16) pe_int rfl))) pss_nil)
  (pss_one (ps_dput (hu_of hr) (pv 6) (pv 16) (pe_op op_sub (pe_dget (hu_of hr) (pv 6) (pv 16) (fun _ _ => rfl)) (pe_op op_mul (pv 13) (pv 15))) rfl)))))))))))))
  (pss_one (ps_ret (pe_tup (pa_cons (C8.pe_c c_unkeyed hr (by decide) (by rfl) (pa_cons (pv 8) (pa_cons (pv 3) (pa_cons (pv 2) pa_nil)))) (pa_cons (C8.pe_c c_unkeyed hr (by decide) (by rfl) (pa_cons (pv 6) (pa_cons (pv 3) (pa_cons (pv 2) pa_nil)))) pa_nil))))))))))))))), ?_⟩
    have zx := hD.e.len
    have zy := hD.g.len
    have sqa : ∀ {H'}, Same H H' → SqL K H' a xs := fun s => .inl (.inl (s _ _ hD.ha))
    have sqb : ∀ {H'}, Same H H' → SqL K H' b ys := fun s => .inl (.inl (s _ _ hD.hb))
    refine ⟨_, rfl, !xs.isEmpty, .inl ⟨xs, sqa (Same.refl _), rfl⟩, ?_⟩
    cases hR : R with
    | nil =>
      subst hR
      have : xs = [] := List.eq_nil_of_length_eq_zero zx
      subst this
      refine iteT ?_
      refine ⟨by show 0 ≤ sizeLine; exact Nat.zero_le _, fun p1 m1 => ⟨by show 0 ≤ sizeLine; exact Nat.zero_le _, fun p2 m2 => ⟨by show 2 ≤ sizeLine; decide, fun t mt => ?_⟩⟩⟩
      obtain ⟨m2a, m2b⟩ := none_of_upd m2
      have s1 : Same H (upd H p1 (.lst [])) := same_upd m1
      have s2 : Same (upd H p1 (.lst [])) (upd (upd H p1 (.lst [])) p2 (.lst [])) := same_upd m2
      have s3 := same_upd (o := HO.tup [.ref p1, .ref p2]) mt
      exact q t p1 p2 [] [] [] [] _ ((s1.trans s2).trans s3) upd_same m1 (s3 _ _ (s2 _ _ upd_same)) (s3 _ _ upd_same) .nil .nil ⟨.nil, fun x h => by cases h⟩ ⟨.nil, fun x h => by cases h⟩ (fun x h => by cases h) (fun _ q => by
        rw [show timesL (f :: F) [] = [] from List.eq_nil_iff_forall_not_mem.mpr fun x hx => by
          obtain ⟨_, _, g, hg, _⟩ := timesL_mem hx
          cases hg]) (fun z => absurd rfl z)
    | cons e0 R0 =>
      have hne : R ≠ [] := by rw [hR]; intro z; cases z
      have hz0 : 0 < R.length := List.length_pos_iff.mpr hne
      have hx0 : xs ≠ [] := fun z => by rw [z] at zx; exact absurd zx.symm (Nat.ne_of_gt hz0)
      clear hR
      rw [show xs.isEmpty = false by cases xs with | nil => exact absurd rfl hx0 | cons _ _ => rfl]
      refine iteF ?_
      refine ⟨_, rfl, a, xs, R, rfl, sqa (Same.refl _), hD.e, ?_⟩
      refine ⟨_, rfl, _, rfl, a, b, xs, ys, R, f :: F, rfl, ⟨sqa (Same.refl _), hD.e, hD.zR, fun e he => by rw [hD.dR e he]; exact hD.n3⟩, ⟨sqb (Same.refl _), hD.g, hD.zF, fun e he => by rw [hD.dF e he]; exact hD.n3⟩, fun h g H1 hh hg s1 => ?_⟩
      have n3 := hD.n3
      refine ⟨_, rfl, _, rfl, a, b, xs, ys, R, f :: F, n, rfl, sqa s1, sqb s1, hD.e.mono s1, hD.g.mono s1, hz0, Nat.succ_pos _, hD.zR, hD.zF, hD.dR, hD.dF, by omega, fun bx bws H2 rl rh fl fh nl1 nl2 nl3 nl4 lR hR lF hF s2 hbx hW => ?_⟩
      have hN : h + g ≤ 2000000 := by
        have := hh.2 C fun e he x hx => hD.cR e he x hx
        have := hg.2 C fun e he x hx => hD.cF e he x hx
        have := hD.c
        omega
      have hb64 : -(2 ^ 64) < 2 * ((h + g : Nat) : Int) + 1 ∧ 2 * ((h + g : Nat) : Int) + 1 < 2 ^ 64 := by
        have e1 : (2 : Int) ^ 64 = 18446744073709551616 := by decide
        omega
      have s12 := s1.trans s2
      refine ⟨_, rfl, _, rfl, b, ys, f :: F, _, rfl, sqb s12, hD.g.mono s12, hD.zF, hb64, fun tm tws H3 s3 _ htm hKF => ?_⟩
      have s123 := s12.trans s3
      have hbx3 := s3 _ _ hbx
      have hW3 := hW.mono s3
      obtain ⟨v0, tws', htw, t0, rfl, ht0⟩ := Kps.head hKF
      refine ⟨_, rfl, tm, _, 0, _, rfl, rfl, .inl (.inl htm), (by rw [htw]; exact atI_cons), t0, _, rfl, .inl (.inl ht0), rfl, _, _, rfl, _, _, rfl, rfl, ?_⟩
      refine ⟨_, rfl, _, rfl, a, xs, R, _, rfl, sqa s123, hD.e.mono s123, hD.zR, hb64, fun pk kws H4 s4 _ hpk hKR => ⟨pk, rfl, ⟨_, .inl (.inl hpk)⟩, fun r nr => ?_⟩⟩
      have sA := s123.trans s4
      generalize hB : (2 * ((h + g : Nat) : Int) + 1) = B at hb64 hKF hKR ht0 ⊢
      have hdim : dimE R = n := dimE_eq' hD.dR hne
      rw [hdim]
      have hGd : ∀ k, k.length = n → Btw R k → Gd (h + g) n k := fun k hl hb => ⟨hl, fun x hx => Nat.le_trans (btw_within hh.1 hb x hx) (Nat.le_add_right _ _)⟩
      have injG : ∀ k l, Gd (h + g) n k → Gd (h + g) n l → keyP B k = keyP B l → k = l := fun k l hk hl e => keyP_inj hB.symm (hk.1.trans hl.1.symm) hk.2 hl.2 e
      have injB : ∀ k l : Pl, k.length = n → l.length = n → Btw R k → Btw R l → keyP B k = keyP B l → k = l := fun k l h1 h2 b1 b2 e => injG k l (hGd k h1 b1) (hGd l h2 b2) e
      have ltB : ∀ k l : Pl, k.length = n → l.length = n → Btw R k → Btw R l → HT.lexLt k l = true → keyP B k < keyP B l := fun k l h1 h2 b1 b2 e => keyP_lt hB.symm (h1.trans h2.symm) (hGd k h1 b1).2 (hGd l h2 b2).2 e
      have kU : ∀ ks : List Pl, ks.Nodup → (∀ k ∈ ks, k.length = n ∧ Btw R k) → ks.length ≤ U.length := fun ks nd kb => nodup_len nd fun k hk => hD.u k (kb k hk).1 (kb k hk).2
      have uz := hD.uz
      have hkl : kws.length = R.length := by rw [hKR.len]; unfold keyL; rw [List.length_map]
      refine OK.dc_list (K := K) (a := pk) (xs := kws) (fun i G => ∃ kvs, Same H4 G ∧ G r = some (.dK kvs) ∧ KSums B (Gd (h + g) n) kvs ((R.take i).map (·.1)) (numAt (R.take i))) ⟨[], same_upd nr, upd_same, KSums.nil⟩ ?_ ?_ ?_
      · rintro i G _ ⟨_, sm, _⟩
        exact .inl (.inl (sm _ _ hpk))
      · rintro i x G hx ⟨kvs, sm, hr1, hs⟩
        obtain ⟨ke, he', t, rfl, ht⟩ := (hKR.mono sm).get hx
        have hi : i < R.length := by
          have := (List.getElem?_eq_some_iff.mp he').1
          unfold keyL at this
          rwa [List.length_map] at this
        obtain ⟨e, hee⟩ : ∃ e, R[i]? = some e := ⟨_, List.getElem?_eq_getElem hi⟩
        have hem : e ∈ R := List.mem_of_getElem? hee
        have hke : ke = (keyP B e.1, e.2) := by
          unfold keyL at he'
          rw [List.getElem?_map, hee] at he'
          exact (Option.some.inj he').symm
        subst hke
        have hnew : e.1 ∉ (R.take i).map (·.1) := fun z => by
          obtain ⟨x, hx, ex⟩ := List.mem_map.mp z
          have h1 : (R.take (i + 1)).Pairwise fun a b => HT.lexLt a.1 b.1 = true := hD.vR.asc.sublist (List.take_sublist _ _)
          rw [take_snoc hee] at h1
          exact lt_ne ((List.pairwise_append.mp h1).2.2 x hx e List.mem_cons_self) ex
        have hz : numAt (R.take i) e.1 = 0 := numAt_out fun x hx ex => hnew (List.mem_map.mpr ⟨x, hx, ex⟩)
        refine ⟨t, _, rfl, .inl (.inl ht), rfl, _, _, rfl, _, _, rfl, rfl, rfl, tYes_of ?_⟩
        refine ⟨_, rfl, _, rfl, kvs, Sum.inl (keyP B e.1), rfl, hr1, ?_, ?_⟩
        · rw [hs.len, List.length_map, List.length_take]
          have := hD.zR
          exact small100k (by omega)
        · have hp := hs.put injG e.1 (hGd _ (hD.dR e hem) (btw_self hem)) e.2
          rw [hz, Int.zero_add, if_neg hnew] at hp
          refine ⟨_, same_mut sm nr, upd_same, ?_⟩
          rw [take_snoc hee, List.map_append]
          have hf : numAt (R.take i ++ [e]) = fun q => numAt (R.take i) q + if e.1 = q then e.2 else 0 := by
            funext q
            rw [numAt_app]
            show _ + ((if e.1 = q then e.2 else 0) + 0) = _
            rw [Int.add_zero]
          rw [hf]
          exact hp
      · rintro G ⟨kvs, sm, hr1, hs⟩
        rw [hkl, List.take_length] at hs
        refine ⟨_, rfl, r, kvs, (R.map (·.1)).map (keyP B), rfl, .inl hr1, by rw [hs.keys]; simp only [List.map_map]; rfl, fun ls qa perm pw nq => ?_⟩
        refine fun pa npa => ?_
        obtain ⟨npa1, npa2⟩ := none_of_upd npa
        have rq : r ≠ qa := fun z => by rw [z, nq] at hr1; cases hr1
        have rp : r ≠ pa := fun z => by rw [z, npa1] at hr1; cases hr1
        have n4q : H4 qa = none := none_back sm nq
        have n4p : H4 pa = none := none_back sm npa1
        have smA : Same H4 (upd (upd G qa (.lst (ls.map V.int))) pa (.dK [])) := same_mut (same_mut sm n4q) n4p
        have hrA : (upd (upd G qa (.lst (ls.map V.int))) pa (.dK [])) r = some (.dK kvs) := by rw [upd_ne rp, upd_ne rq]; exact hr1
        have hqA : (upd (upd G qa (.lst (ls.map V.int))) pa (.dK [])) qa = some (.lst (ls.map V.int)) := by rw [upd_ne npa2, upd_same]
        have hpA : (upd (upd G qa (.lst (ls.map V.int))) pa (.dK [])) pa = some (.dK []) := upd_same
        generalize (upd (upd G qa (.lst (ls.map V.int))) pa (.dK [])) = HA at smA hrA hqA hpA ⊢
        have e0 : R ++ negs (timesL (f :: F) []) = R := by
          have : timesL (f :: F) [] = [] := List.eq_nil_iff_forall_not_mem.mpr fun x hx => by
            obtain ⟨_, _, g, hg, _⟩ := timesL_mem hx
            cases hg
          rw [this]
          exact List.append_nil _
        have hll : ls.length = (R.map (·.1)).length := by rw [perm.length_eq, List.length_map]
        have fin : ∀ (kvs : List (Key × V)) (ks : List Pl) (kvp : List (Key × V)) (ps : List Pl) (PL : List Ent) (y7 : V) (y9 y10 y11 y12 y13 y14 y15 y16 : Option V) (H8 : Hp), Same H4 H8 → H8 r = some (.dK kvs) → H8 pa = some (.dK kvp) → KSums B (Gd (h + g) n) kvs ks (numAt (R ++ negs (timesL (f :: F) PL))) → KSums B (Gd (h + g) n) kvp ps (numAt PL) → ks.length ≤ 10000 → ps.length ≤ 10000 → DimN n PL → ((∀ q, numAt (R ++ negs (timesL (f :: F) PL)) q = 0) ∨ ∀ S, DimN n S → ¬ ∀ q, numAt R q = numAt (timesL (f :: F) S) q) →
            tTup (tCons (tCall spUnk [] C8.E0 (tCons (tVar 8) (tCons (tVar 3) (tCons (tVar 2) tNil)))) (tCons (tCall spUnk [] C8.E0 (tCons (tVar 6) (tCons (tVar 3) (tCons (tVar 2) tNil)))) tNil))
              [some (.ref a), some (.ref b), some (.int (n : Int)), some (.int B), some (.ref bx), some (.ref tm), some (.ref r), some y7, some (.ref pa), y9, y10, y11, y12, y13, y14, y15, y16] H8 Q := by
          intro kvs ks kvp ps PL y7 y9 y10 y11 y12 y13 y14 y15 y16 H8 sm8 hr8 hp8 hs8 ht8 z1 z2 dP hc
          subst hB
          refine ⟨_, rfl, _, rfl, _, rfl, pa, h + g, n, kvp, ps, PL, rfl, hp8, ht8, z2, by omega, by omega, fun part p1 ws1 H9 r1 s9 np1 hp1 hE1 => ?_⟩
          refine ⟨_, rfl, _, rfl, _, rfl, r, h + g, n, kvs, ks, _, rfl, s9 _ _ hr8, hs8, z1, by omega, by omega, fun rest p2 ws2 H10 r2 s10 np2 hp2 hE2 => ?_⟩
          refine ⟨by show 2 ≤ sizeLine; decide, fun t nt => ?_⟩
          have s11 : Same H10 (upd H10 t (.tup [.ref p1, .ref p2])) := same_upd nt
          have sB := sA.trans sm8
          have s1011 := s10.trans s11
          refine q t p1 p2 ws1 ws2 part rest _ (sB.trans (s9.trans s1011)) upd_same (none_back sB np1) (s1011 _ _ hp1) (s11 _ _ hp2) (hE1.mono s1011) (hE2.mono s11) r1.v r2.v (DimN.of r1 dP) (fun e q => ?_) (fun e => ?_)
          · have h1 := r2.s q
            rw [e, numAt_app, numAt_negs, ← timesL_eq2 (f :: F) r1.s] at h1
            have h0 : numAt ([] : List Ent) q = 0 := rfl
            omega
          · rcases hc with hc | hc
            · refine absurd (r2.v.ext ⟨.nil, fun x h => by cases h⟩ fun q => ?_) e
              rw [r2.s, hc]
              rfl
            · exact hc
        refine ⟨fun m σ H8 => ∃ (kvs : List (Key × V)) (ks : List Pl) (kvp : List (Key × V)) (ps : List Pl) (PL : List Ent) (l : List Int) (y11 y12 y13 y14 y15 y16 : Option V), σ = [some (.ref a), some (.ref b), some (.int (n : Int)), some (.int B), some (.ref bx), some (.ref tm), some (.ref r), some (.ref qa), some (.ref pa), some (.int (keyP B f.1)), some (.int f.2), y11, y12, y13, y14, y15, y16] ∧
            Same H4 H8 ∧ H8 r = some (.dK kvs) ∧ H8 qa = some (.lst (l.map V.int)) ∧ H8 pa = some (.dK kvp) ∧ KSums B (Gd (h + g) n) kvs ks (numAt (R ++ negs (timesL (f :: F) PL))) ∧ KSums B (Gd (h + g) n) kvp ps (numAt PL) ∧ HQ.IsHeap l ∧ OutI B n R f.1 (InB (subP rl fl) (subP rh fh)) ks ps (numAt (R ++ negs (timesL (f :: F) PL))) PL l ∧ U.length + l.length = m + ks.length ∧ ps.length + l.length ≤ ks.length,
          ⟨U.length, kvs, R.map (·.1), [], [], [], ls, none, none, none, none, none, none, rfl, smA, hrA, hqA, hpA, by rw [e0]; exact hs, KSums.nil, HQ.heap_sorted pw, ?_, by rw [hll], by rw [hll]; exact Nat.le_of_eq (Nat.zero_add _)⟩, ?_⟩
        · rw [e0]
          refine ⟨fun k hk => ?_, fun y hy => ?_, fun k hk => .inl (perm.mem_iff.mpr (List.mem_map_of_mem hk)), fun a ha => (by cases ha), fun e he => (by cases he)⟩
          · obtain ⟨e, he, rfl⟩ := List.mem_map.mp hk
            exact ⟨hD.dR e he, btw_self he⟩
          · obtain ⟨k, hk, e⟩ := List.mem_map.mp (perm.mem_iff.mp hy)
            exact ⟨k, hk, e.symm⟩
        rintro m σ H8 ⟨kvs, ks, kvp, ps, PL, l, y11, y12, y13, y14, y15, y16, rfl, sm8, hr8, hq8, hp8, hs8, ht8, hh8, O, hm, hpl⟩
        clear hs hr1 hrA hqA hpA smA sm nq npa npa1 pw perm e0 hll
        have hku := kU ks hs8.nod O.kB
        have dP : DimN n PL := fun e he => (O.pa _ (O.pp e he)).1.1
        refine ⟨_, rfl, !(l.map V.int).isEmpty, .inl ⟨_, .inl (.inl hq8), rfl⟩, ?_⟩
        cases l with
        | nil =>
          refine iteF (fin kvs ks kvp ps PL _ _ _ _ _ _ _ _ _ H8 sm8 hr8 hp8 hs8 ht8 (by omega) (by omega) dP (.inl fun q => ?_))
          by_cases hq : q ∈ ks
          · rcases O.pr q hq with w | w
            · cases w
            · exact w.1
          · exact hs8.out q hq
        | cons key l =>
          obtain ⟨p, hp, rfl⟩ := O.lk key List.mem_cons_self
          have le := hh8.least
          refine iteT ⟨_, fun _ _ h => h, ?_⟩
          refine ⟨_, rfl, qa, keyP B p, l, rfl, hq8, hh8, fun l1 hh1 pm1 => ?_⟩
          have sq : Same H4 (upd H8 qa (.lst (l1.map V.int))) := same_mut sm8 n4q
          have hrq : (upd H8 qa (.lst (l1.map V.int))) r = some (.dK kvs) := by rw [upd_ne rq]; exact hr8
          have hpq : (upd H8 qa (.lst (l1.map V.int))) pa = some (.dK kvp) := by rw [upd_ne npa2.symm]; exact hp8
          have hqq : (upd H8 qa (.lst (l1.map V.int))) qa = some (.lst (l1.map V.int)) := upd_same
          generalize (upd H8 qa (.lst (l1.map V.int))) = H9 at sq hrq hpq hqq ⊢
          clear hr8 hq8 hp8 sm8
          have hgp := hGd p (O.kB p hp).1 (O.kB p hp).2
          have hvp := hs8.val p hgp
          rw [if_pos hp] at hvp
          have hget : DGet H9 r (.int (keyP B p)) (some (.int (numAt (R ++ negs (timesL (f :: F) PL)) p))) := by
            rw [← hvp]
            exact DGet.k (k := Sum.inl (keyP B p)) hrq
          refine ⟨_, rfl, _, rfl, r, _, rfl, hget, ?_⟩
          refine ⟨rfl, _, rfl, ?_⟩
          refine iteD (fun z => ?_) (fun z => ?_)
          · have z0 : numAt (R ++ negs (timesL (f :: F) PL)) p = 0 := V.int.inj z
            have hm1 : (keyP B p :: l).length = l1.length + 1 := by rw [List.length_cons, pm1.length_eq]
            refine ⟨m - 1, ?_, kvs, ks, kvp, ps, PL, l1, _, y12, y13, y14, y15, y16, rfl, sq, hrq, hqq, hpq, hs8, ht8, hh1, O.skip injB hp le pm1 z0, ?_, ?_⟩
            · omega
            · omega
            · omega
          have z0 : numAt (R ++ negs (timesL (f :: F) PL)) p ≠ 0 := fun w => z (by rw [w])
          have hll : (keyP B p :: l).length = l1.length + 1 := by rw [List.length_cons, pm1.length_eq]
          have hf := hD.dF f List.mem_cons_self
          have hpn := (O.kB p hp).1
          have ht : (subP p f.1).length = n := by rw [subP_len (by omega)]; exact hpn
          have hpt : plusP f.1 (subP p f.1) = p := plusP_sub (by omega)
          have hat : keyP B p - keyP B f.1 = keyP B (subP p f.1) := by
            have := keyP_plus B (p := f.1) (q := subP p f.1) (by omega)
            rw [hpt] at this
            omega
          have hlow : ∀ q, HT.lexLt q p = true → numAt (R ++ negs (timesL (f :: F) PL)) q = 0 := fun q hq => by
            by_cases hqk : q ∈ ks
            · have h1 := O.kB q hqk
              have h2 := ltB q p h1.1 hpn h1.2 (O.kB p hp).2 hq
              rcases O.pr q hqk with w | w
              · have := le _ w
                omega
              · exact w.1
            · exact hs8.out q hqk
          have stk : (¬ f.2 ∣ numAt (R ++ negs (timesL (f :: F) PL)) p ∨ ¬ InB (subP rl fl) (subP rh fh) (subP p f.1)) → ∀ S, DimN n S → ¬ ∀ q, numAt R q = numAt (timesL (f :: F) S) q := fun bad S dS e =>
            stuck hD.vF hD.dF hD.dR dP dS lR hR lF hF nl1 nl2 nl3 nl4 (fun e he => (O.pa _ (O.pp e he)).1.2) hpn z0 hlow bad e
          refine ⟨_, rfl, _, rfl, _, _, rfl, rfl, ?_⟩
          simp only [hat]

          have hwp : Within h p := btw_within hh.1 (O.kB p hp).2
          have hwt : Within (h + g) (subP p f.1) := fun x hx => by
            obtain ⟨i, hi, rfl⟩ := List.getElem_of_mem hx
            obtain ⟨u, v, hu, hv, e⟩ := subP_get (List.getElem?_eq_getElem hi)
            have h1 := hwp u (List.mem_of_getElem? hu)
            have h2 := hg.1 f List.mem_cons_self v (List.mem_of_getElem? hv)
            omega
          have hf0 : f.2 ≠ 0 := hD.vF.nz f List.mem_cons_self
          generalize hv0 : numAt (R ++ negs (timesL (f :: F) PL)) p = v0 at hvp hget z z0 stk
          refine ⟨_, rfl, _, rfl, r, _, rfl, hget, _, rfl, _, _, rfl, rfl, hf0, rfl, _, rfl, ?_⟩
          refine iteND (fun zd => ?_) (fun zd => ?_)
          · refine iteT (fin kvs ks kvp ps PL _ _ _ _ _ _ _ _ _ H9 sq hrq hpq hs8 ht8 (by omega) (by omega) dP (.inr (stk (.inl fun ⟨k, hk⟩ => zd ?_))))
            rw [hk]
            show V.int ((f.2 * k).fmod f.2) = V.int 0
            rw [Int.mul_fmod_right]
          have hfm : v0.fmod f.2 = 0 := V.int.inj zd
          refine ⟨_, rfl, _, rfl, _, rfl, subP p f.1, h + g, (by rw [hB, ht]; rfl), hwt, by omega, by omega, fun tq H10 s10 htq => ?_⟩
          have sq10 := sq.trans s10
          refine ⟨_, rfl, tq, bx, bws, subP rl fl, subP rh fh, subP p f.1, rfl, .inl (.inl htq), .inl (.inl ((s4.trans sq10) _ _ hbx3)), hW3.mono (s4.trans sq10), (by rw [subP_len (by omega)]; omega), by omega, fun H11 s11 => ⟨_, rfl, ?_⟩⟩
          have sq11 := sq10.trans s11
          have s911 := s10.trans s11
          have hr11 := s911 _ _ hrq
          have hp11 := s911 _ _ hpq
          have hq11 := s911 _ _ hqq
          cases hib : inBox (subP rl fl) (subP rh fh) (subP p f.1) with
          | false =>
            refine iteT (fin kvs ks kvp ps PL _ _ _ _ _ _ _ _ _ H11 sq11 hr11 hp11 hs8 ht8 (by omega) (by omega) dP (.inr (stk (.inr fun hb => ?_))))
            rw [(inBox_iff (by rw [subP_len (by omega)]; omega) (by rw [subP_len (by omega)]; omega)).mpr hb] at hib
            cases hib
          | true =>
          have hbt : InB (subP rl fl) (subP rh fh) (subP p f.1) := (inBox_iff (by rw [subP_len (by omega)]; omega) (by rw [subP_len (by omega)]; omega)).mp hib
          refine iteF ?_
          clear hib stk fin zd hlow
          have hget11 : DGet H11 r (.int (keyP B p)) (some (.int v0)) := by
            rw [← hvp]
            exact DGet.k (k := Sum.inl (keyP B p)) hr11
          have hlog : f.2.natAbs.log2 < 9000 := by
            have h1 := hD.nb f List.mem_cons_self
            have h2 : f.2.natAbs < 2 ^ 64 := by omega
            have h3 := (Nat.log2_lt (by omega)).mpr h2
            omega
          refine ⟨_, rfl, _, rfl, r, _, rfl, hget11, _, rfl, _, _, rfl, rfl, ⟨hf0, hlog⟩, ?_⟩
          have hc : f.2 * v0.fdiv f.2 = v0 := by
            have := Int.fmod_def v0 f.2
            omega
          obtain ⟨c, hcc⟩ : ∃ c, c = v0.fdiv f.2 := ⟨_, rfl⟩
          rw [← hcc] at hc
          simp only [← hcc]
          clear hcc
          generalize htt : subP p f.1 = t at ht hpt hat hwt hbt ⊢
          have hgt : Gd (h + g) n t := ⟨ht, hwt⟩
          have htps : t ∉ ps := fun w => by
            have h1 := (O.pa t w).2.1
            rw [hpt, hv0] at h1
            exact z0 h1
          have hpu := ht8.put injG t hgt c
          rw [ht8.out t htps, Int.zero_add, if_neg htps] at hpu
          refine ⟨_, rfl, _, rfl, _, rfl, pa, _, rfl, DPut.k (k := Sum.inl (keyP B t)) hp11 (by rw [ht8.len]; exact small100k (by omega)), ?_⟩
          have sq12 : Same H4 (upd H11 pa (.dK (putK kvp (Sum.inl (keyP B t)) (.int c)))) := same_mut sq11 n4p
          have hr12 : (upd H11 pa (.dK (putK kvp (Sum.inl (keyP B t)) (.int c)))) r = some (.dK kvs) := by rw [upd_ne rp]; exact hr11
          have hq12 : (upd H11 pa (.dK (putK kvp (Sum.inl (keyP B t)) (.int c)))) qa = some (.lst (l1.map V.int)) := by rw [upd_ne npa2]; exact hq11
          have hp12 : (upd H11 pa (.dK (putK kvp (Sum.inl (keyP B t)) (.int c)))) pa = some (.dK (putK kvp (Sum.inl (keyP B t)) (.int c))) := upd_same
          generalize (upd H11 pa (.dK (putK kvp (Sum.inl (keyP B t)) (.int c)))) = H12 at sq12 hr12 hq12 hp12 ⊢
          refine ⟨_, rfl, tm, rfl, ⟨_, .inl (.inl ((s4.trans sq12) _ _ htm))⟩, ?_⟩
          have I0 := O.take injB hp le pm1 (by rw [hv0]; exact z0)
          have hwl : tws.length = (f :: F).length := by rw [hKF.len]; unfold keyL; rw [List.length_map]
          generalize hff : (fun q => numAt (R ++ negs (timesL (f :: F) PL)) q) = ff
          have hffe : ∀ q, numAt (R ++ negs (timesL (f :: F) PL)) q = ff q := fun q => by rw [← hff]
          have e00 : (fun q => ff q - numAt (takeF (f :: F) t c 0) q) = numAt (R ++ negs (timesL (f :: F) PL)) := funext fun q => by
            rw [hffe]
            exact Int.sub_zero _
          refine for_list (K := K) (xs := tws) (fun j σ H13 => ∃ (kvs : List (Key × V)) (ks : List Pl) (l : List Int) (y14 y15 y16 : Option V), σ = [some (.ref a), some (.ref b), some (.int (n : Int)), some (.int B), some (.ref bx), some (.ref tm), some (.ref r), some (.ref qa), some (.ref pa), some (.int (keyP B f.1)), some (.int f.2), some (.int (keyP B p)), some (.int (keyP B t)), some (.int c), y14, y15, y16] ∧
              Same H4 H13 ∧ H13 r = some (.dK kvs) ∧ H13 qa = some (.lst (l.map V.int)) ∧ H13 pa = some (.dK (putK kvp (Sum.inl (keyP B t)) (.int c))) ∧ KSums B (Gd (h + g) n) kvs ks (fun q => ff q - numAt (takeF (f :: F) t c j) q) ∧ HQ.IsHeap l ∧ InI B n R f.1 (InB (subP rl fl) (subP rh fh)) p ks ps (fun q => ff q - numAt (takeF (f :: F) t c j) q) PL l ∧ U.length + l.length + 1 = m + ks.length ∧ ps.length + 1 + l.length ≤ ks.length) ?_ ?_ ?_ ?_
          · refine ⟨kvs, ks, l1, y14, y15, y16, rfl, sq12, hr12, hq12, hp12, by rw [e00]; exact hs8, hh1, by rw [e00]; exact I0, by omega, by omega⟩
          · rintro j σ H13 _ ⟨_, _, _, _, _, _, _, sm, _⟩
            exact .inl (.inl ((s4.trans sm) _ _ htm))
          · rintro j x σ H13 hx ⟨kvs, ks, l, y14, y15, y16, rfl, sm13, hr13, hq13, hp13, hs13, hh13, I, hm13, hpl13⟩
            obtain ⟨kg, hg', t2, rfl, ht2⟩ := (hKF.mono (s4.trans sm13)).get hx
            have hj : j < (f :: F).length := by
              have := (List.getElem?_eq_some_iff.mp hg').1
              unfold keyL at this
              rwa [List.length_map] at this
            obtain ⟨e, hee⟩ : ∃ e, (f :: F)[j]? = some e := ⟨_, List.getElem?_eq_getElem hj⟩
            have hem : e ∈ f :: F := List.mem_of_getElem? hee
            have hkg : kg = (keyP B e.1, e.2) := by
              unfold keyL at hg'
              rw [List.getElem?_map, hee] at hg'
              exact (Option.some.inj hg').symm
            subst hkg
            have hel := hD.dF e hem
            have hkl2 : (plusP e.1 t).length = n := by rw [plusP_len (by omega)]; exact hel
            have hkb : Btw R (plusP e.1 t) := btw_plus lR hR lF hF nl1 nl2 nl3 nl4 hem hel ht hbt
            have hkc : plusP e.1 t = p ∨ keyP B p < keyP B (plusP e.1 t) := by
              rcases List.mem_cons.mp hem with rfl | he2
              · exact .inl hpt
              · refine .inr (ltB p _ hpn hkl2 (O.kB p hp).2 hkb ?_)
                rw [← hpt, plusP_lt (by omega) (by omega)]
                exact (List.pairwise_cons.mp hD.vF.asc).1 e he2
            have hke : keyP B t + keyP B e.1 = keyP B (plusP e.1 t) := by rw [keyP_plus B (by omega)]; omega
            have hgk := hGd _ hkl2 hkb
            generalize hkk : plusP e.1 t = k at hkl2 hkb hkc hke hgk
            refine ⟨t2, _, rfl, .inl (.inl ht2), rfl, _, _, rfl, _, _, rfl, rfl, ?_⟩
            refine ⟨_, rfl, _, rfl, _, _, rfl, rfl, ?_⟩
            simp only [hke]
            generalize hfj : (fun q => ff q - numAt (takeF (f :: F) t c j) q) = fj at hs13 I
            have hf1 : (fun q => ff q - numAt (takeF (f :: F) t c (j + 1)) q) = fun q => fj q + if k = q then -(c * e.2) else 0 := funext fun q => by
              rw [takeF_snoc hee q, hkk, ← hfj]
            have hku13 := kU ks hs13.nod I.kB
            rw [hf1]
            have tail : ∀ {W} (kvs' : List (Key × V)) (l' : List Int) (H14 : Hp) (y : Option V), Same H4 H14 → H14 r = some (.dK kvs') → H14 qa = some (.lst (l'.map V.int)) → H14 pa = some (.dK (putK kvp (Sum.inl (keyP B t)) (.int c))) → HQ.IsHeap l' → KSums B (Gd (h + g) n) kvs' (if k ∈ ks then ks else ks ++ [k]) fj → l'.Perm (if k ∈ ks then l else l ++ [keyP B k]) →
                (∀ σ' H', (∃ (kvs : List (Key × V)) (ks : List Pl) (l : List Int) (y14 y15 y16 : Option V), σ' = [some (.ref a), some (.ref b), some (.int (n : Int)), some (.int B), some (.ref bx), some (.ref tm), some (.ref r), some (.ref qa), some (.ref pa), some (.int (keyP B f.1)), some (.int f.2), some (.int (keyP B p)), some (.int (keyP B t)), some (.int c), y14, y15, y16] ∧
                  Same H4 H' ∧ H' r = some (.dK kvs) ∧ H' qa = some (.lst (l.map V.int)) ∧ H' pa = some (.dK (putK kvp (Sum.inl (keyP B t)) (.int c))) ∧ KSums B (Gd (h + g) n) kvs ks (fun q => fj q + if k = q then -(c * e.2) else 0) ∧ HQ.IsHeap l ∧ InI B n R f.1 (InB (subP rl fl) (subP rh fh)) p ks ps (fun q => fj q + if k = q then -(c * e.2) else 0) PL l ∧ U.length + l.length + 1 = m + ks.length ∧ ps.length + 1 + l.length ≤ ks.length) → W.nx σ' H') →
                sDPut (tVar 6) (tVar 16) (tOp (rI0 fun i j => V.int (i - j)) (tDGet (tVar 6) (tVar 16)) (tOp (rI CMul fun i j => V.int (i * j)) (tVar 13) (tVar 15))) W
                  [some (.ref a), some (.ref b), some (.int (n : Int)), some (.int B), some (.ref bx), some (.ref tm), some (.ref r), some (.ref qa), some (.ref pa), some (.int (keyP B f.1)), some (.int f.2), some (.int (keyP B p)), some (.int (keyP B t)), some (.int c), y, some (.int e.2), some (.int (keyP B k))] H14 := by
              intro W kvs' l' H14 y sm14 hr14 hq14 hp14 hh14 hs14 pm14 nxt
              have I2 := I.step injB (v := -(c * e.2)) hkl2 hkb hkc pm14
              have hmem : k ∈ (if k ∈ ks then ks else ks ++ [k]) := by
                by_cases mm : k ∈ ks
                · rw [if_pos mm]
                  exact mm
                · rw [if_neg mm]
                  exact List.mem_append_right _ List.mem_cons_self
              have hcount : l'.length + ks.length = l.length + (if k ∈ ks then ks else ks ++ [k]).length := by
                rw [pm14.length_eq]
                by_cases mm : k ∈ ks
                · rw [if_pos mm, if_pos mm]
                · rw [if_neg mm, if_neg mm, List.length_append, List.length_append, List.length_singleton, List.length_singleton]
                  omega
              generalize (if k ∈ ks then ks else ks ++ [k]) = ks' at hs14 I2 hmem hcount
              have hku14 := kU ks' hs14.nod I2.kB
              have hv14 := hs14.val k hgk
              rw [if_pos hmem] at hv14
              have hget14 : DGet H14 r (.int (keyP B k)) (some (.int (fj k))) := by
                rw [← hv14]
                exact DGet.k (k := Sum.inl (keyP B k)) hr14
              have hpt14 := hs14.put injG k hgk (-(c * e.2))
              rw [if_pos hmem] at hpt14
              refine ⟨_, rfl, _, rfl, r, _, rfl, hget14, _, rfl, _, rfl, _, _, rfl, rfl, .inr (hD.nb e hem), _, _, rfl, rfl, _, rfl, _, rfl, r, _, rfl, DPut.k (k := Sum.inl (keyP B k)) hr14 (by rw [hs14.len]; exact small100k (by omega)), nxt _ _ ⟨_, ks', l', _, _, _, rfl, same_mut sm14 nr, upd_same, ?_, ?_, ?_, hh14, I2, ?_, ?_⟩⟩
              · rw [upd_ne rq.symm]
                exact hq14
              · rw [upd_ne rp.symm]
                exact hp14
              · exact hpt14
              · omega
              · omega
            refine ⟨_, rfl, _, rfl, r, valV kvs (Sum.inl (keyP B k)), rfl, DGet.k (k := Sum.inl (keyP B k)) hr13, _, rfl, ?_⟩
            have hvk := hs13.val k hgk
            by_cases mm : k ∈ ks
            · rw [if_pos mm] at hvk
              rw [hvk]
              refine iteF (tail kvs l H13 _ sm13 hr13 hq13 hp13 hh13 (by rw [if_pos mm]; exact hs13) (by rw [if_pos mm]) fun σ' H' h => h)
            · rw [if_neg mm] at hvk
              rw [hvk]
              refine iteT ⟨_, rfl, _, rfl, qa, l, keyP B k, rfl, hq13, hh13, small100k (by omega), fun l2 hh2 pm2 => ?_⟩
              have hr14 : (upd H13 qa (.lst (l2.map V.int))) r = some (.dK kvs) := by rw [upd_ne rq]; exact hr13
              refine ⟨_, rfl, _, rfl, r, _, rfl, DPut.k (k := Sum.inl (keyP B k)) hr14 (by rw [hs13.len]; exact small100k (by omega)), ?_⟩
              have hp0 := hs13.put injG k hgk 0
              have hfz : (fun q => fj q + if k = q then (0 : Int) else 0) = fj := funext fun q => by rw [ite_self, Int.add_zero]
              rw [hfz, hs13.out k mm, Int.zero_add] at hp0
              refine tail _ l2 _ _ (same_mut (same_mut sm13 n4q) nr) upd_same ?_ ?_ hh2 hp0 (by rw [if_neg mm]; exact pm2) fun σ' H' h => h
              · rw [upd_ne rq.symm, upd_same]
              · rw [upd_ne rp.symm, upd_ne npa2.symm]
                exact hp13
          · rintro σ H13 ⟨kvs, ks, l, y14, y15, y16, rfl, sm13, hr13, hq13, hp13, hs13, hh13, I, hm13, hpl13⟩
            have hfe : (fun q => ff q - numAt (takeF (f :: F) t c tws.length) q) = numAt (R ++ negs (timesL (f :: F) (PL ++ [(t, c)]))) := funext fun q => by
              rw [left_step, hffe, hwl]
            rw [hfe] at hs13 I
            have hz : numAt (R ++ negs (timesL (f :: F) (PL ++ [(t, c)]))) p = 0 := by
              rw [← hpt]
              exact left_zero hD.vF hD.dF ht (by rw [hpt, hv0]; exact hc)
            have hpf : numAt (PL ++ [(t, c)]) = fun q => numAt PL q + if t = q then c else 0 := funext fun q => by
              rw [numAt_app]
              show _ + ((if t = q then c else 0) + 0) = _
              rw [Int.add_zero]
            refine ⟨m - 1, by omega, kvs, ks, _, ps ++ [t], PL ++ [(t, c)], l, _, _, _, y14, y15, y16, rfl, sm13, hr13, hq13, hp13, hs13, by rw [hpf]; exact hpu, hh13, I.done injB hz ht hbt hpt, by omega, by rw [List.length_append, List.length_singleton]; omega⟩
end
end OT

set_option Elab.async false
set_option linter.all false
set_option maxRecDepth 100000
set_option maxHeartbeats 2000000
namespace OT
open PySem PySem.Spec PyProof.Rows L2
/-- a def that may raise, where it does not -/
theorem quiet {P : Program} {w : World} {K : PySem.W.Frag} {mg : Str → Option Value} {base : Heap} {k : Nat} {f : Addr} {fd : FuncData} {ps : List Str} {sp sp' : Sp} (F : FnOk P w K mg base (L2.CX P w) k f fd ps sp') (h : ∀ vs H Q E, sp vs H Q E → sp' vs H Q E0) : FnOk P w K mg base CX0 k f fd ps sp := by
  refine ⟨fun vs H Q E q => F.len _ _ _ _ (h _ _ _ _ q), fun A outer s H args us vs Q E hr he hb hv q => ?_⟩
  refine codeAny_mono (F.run A outer s H args us vs Q E0 hr he hb hv (h _ _ _ _ q)) fun r s' z => ?_
  cases r with
  | ok fl => cases fl with
    | ret u => exact z
    | next => exact z
    | brk => exact z
    | cont => exact z
  | error e =>
    obtain ⟨_, _, _, _, _, _, _, _, _, _, _, _, q⟩ := z
    exact q.elim
theorem quietC {P : Program} {w : World} {K : PySem.W.Frag} {mg : Str → Option Value} {base : Heap} {k : Nat} {x : Str} {st : Stmt} {f : Addr} {fd : FuncData} {ps : List Str} {ds : List Value} {dvs : List V} {sp sp' : Sp} (D : C8.Def K mg x st f fd) (b : Binds K fd ps ds) (hd : Vals dvs ds) (F : FnOk P w K mg base (L2.CX P w) k f fd ps sp') (h : ∀ vs H Q E, sp vs H Q E → sp' vs H Q E0) : C8.Cal P w K mg base k x sp dvs :=
  ⟨f, fd, ps, ds, quiet F h, D.mgf, D.kp, b, hd⟩
def errZ : List (Str × V) := [("word", .str "ZeroRow")]
def errNF : List (Str × V) := [("index", .int 0), ("word", .str "NotAFactor")]
section
variable {P : Program} {w : World} {K : PySem.W.Frag} {mg : Str → Option Value} {base : Heap}
theorem raiseZ {H : Hp} {Z fB : Addr} (X : ErrI K mg "ZeroRow" Z fB) {σ : L2.St} {W : Value → Option Addr → Hp → Prop} (q : ∀ d H', Same H H' → H' d = some (.xd errZ) → W (.ref Z) (some d) H') : tMkO Z (spTE K) [] tNil σ H W := by
  refine ⟨(by show 0 ≤ 1000; decide), fun a na => ⟨a, Z, _, rfl, upd_same, X.t, fun d nd ne => ?_⟩⟩
  have nd3 : H d = none := by
    rw [upd_ne ne] at nd
    exact nd
  refine ⟨rfl, d, _, upd_same, ?_, nd3, q d _ ?_ upd_same⟩
  · rw [upd_ne ne, upd_same]
    rfl
  · intro b o hb2
    have nba : b ≠ a := ne_of_none hb2 na
    have nbd : b ≠ d := ne_of_none hb2 nd3
    rw [upd_ne nbd, del_ne nba, upd_ne nba, upd_ne nbd, upd_ne nba]
    exact hb2
theorem ents_nil {H : Hp} {xs : List V} {es : List Ent} (h : Ents H xs es) : xs = [] ↔ es = [] := by
  have := h.len
  constructor
  · rintro rfl
    exact List.length_eq_zero_iff.mp this.symm
  · rintro rfl
    exact List.length_eq_zero_iff.mp this
theorem ok_ie {f B fB : Addr} {fd fdB : FuncData} (F : C8.Fun K "__init__" "IndexedError.__init__" s_IndexedError___init__ f fd) (GB : FnOk P w K mg base L2.CX0 1 fB fdB ["self"] (spTE K)) (bB : Binds K fdB ["self"] []) (R : OtRead K B "__init__" fB) (gB : mg "TableError" = some (.ref B)) :
    FnOk P w K mg base L2.CX0 2 f fd ["self", "index"] (spIE K) := by
  refine C8.fn0 F sc_IndexedError___init__ (fun vs H Q E h => ?_) (fun cdv A outer s H vs Q E hr h => ?_)
  · obtain ⟨a, C, nm, x, rfl, _⟩ := h
    rfl
  · obtain ⟨a, C, nm, x, rfl, ha, T, k⟩ := h
    refine ⟨_, pss_cons (ps_expr (pe_otcall (pe_glob (v := .ref B) (by rfl) gB rfl) R GB hr bB pass0 (pa_cons (pv 0) pa_nil)))
      (pss_one (ps_ost (pv 0) (pv 1))), ?_⟩
    refine ⟨rfl, _, rfl, a, C, nm, rfl, ha, T, fun d nd ne => ?_⟩
    refine ⟨_, rfl, _, rfl, a, C, rfl, T.ox, T.ni, Or.inr ⟨d, _, upd_same, ?_, (by show 1 ≤ 900; decide), k d nd ne⟩⟩
    rw [upd_ne ne, upd_same]
theorem raiseN {H : Hp} {C fI : Addr} (X : ErrI K mg "NotAFactor" C fI) {σ : L2.St} {W : Value → Option Addr → Hp → Prop} (q : ∀ d H', Same H H' → H' d = some (.xd errNF) → W (.ref C) (some d) H') : tMkO C (spIE K) [] (tCons (tC (.int 0)) tNil) σ H W := by
  refine ⟨(by show 1 ≤ 1000; decide), fun a na => ⟨a, C, _, _, rfl, upd_same, X.t, fun d nd ne => ?_⟩⟩
  have nd2 : H d = none := by
    rw [upd_ne ne] at nd
    exact nd
  refine ⟨rfl, d, _, ?_, upd_same, nd2, q d _ ?_ upd_same⟩
  · rw [upd_ne ne.symm, upd_same]
  · intro b o hb2
    have nba : b ≠ a := ne_of_none hb2 na
    have nbd : b ≠ d := ne_of_none hb2 nd2
    rw [upd_ne nbd, del_ne nba, upd_ne nbd, upd_ne nba, upd_ne nbd, upd_ne nba]
    exact hb2
/-- two rows that are handed to a division -/
structure QuoR (K : PySem.W.Frag) (H : Hp) (a b : Addr) (xs ys : List V) (R FF : List Ent) (n m C : Nat) (U : List Pl) : Prop where
  ha : H a = some (.lst xs)
  hb : H b = some (.lst ys)
  e : Ents H xs R
  g : Ents H ys FF
  vR : Valid R
  vF : Valid FF
  dR : DimN n R
  dF : DimN m FF
  zR : R.length ≤ 1000
  zF : FF.length ≤ 1000
  n0 : 0 < n
  m0 : 0 < m
  n3 : n ≤ 3
  m3 : m ≤ 3
  cR : ∀ e ∈ R, ∀ x ∈ e.1, x.natAbs ≤ C
  cF : ∀ e ∈ FF, ∀ x ∈ e.1, x.natAbs ≤ C
  c : C ≤ 1000000
  nb : ∀ g ∈ FF, -(2 ^ 64) < g.2 ∧ g.2 < 2 ^ 64
  u : ∀ k : Pl, k.length = n → Btw R k → k ∈ U
  uz : U.length ≤ 10000
theorem QuoR.div {H H' : Hp} {a b : Addr} {xs ys : List V} {R F : List Ent} {f : Ent} {n m C : Nat} {U : List Pl} (h : QuoR K H a b xs ys R (f :: F) n m C U) (s : Same H H') (hm : mixB R (f :: F) = false) : DivR K H' a b xs ys R f F m C U := by
  have hn : R ≠ [] → n = m := fun hR => by
    apply Classical.byContradiction
    intro z
    have h1 := dimE_eq' h.dR hR
    have h2 := dimE_eq' (n := m) (es := f :: F) h.dF (by intro z; cases z)
    have h3 := h.n0
    have h4 := h.m0
    unfold mixB at hm
    exact of_decide_eq_false hm ⟨by omega, by omega, by omega⟩
  refine ⟨s _ _ h.ha, s _ _ h.hb, h.e.mono s, h.g.mono s, h.vR, h.vF, fun e he => ?_, h.dF, h.zR, h.zF, h.m3, h.cR, h.cF, h.c, h.nb, fun k hk hb => ?_, h.uz⟩
  · rw [h.dR e he, hn (List.ne_nil_of_mem he)]
  · by_cases hR : R = []
    · have h4 := h.m0
      obtain ⟨⟨e, he, _⟩, _⟩ := hb 0 k[0] (List.getElem?_eq_getElem (by omega))
      rw [hR] at he
      cases he
    · exact h.u k (by rw [hk, hn hR]) hb
/-- the factor is one -/
def Fac (R FF : List Ent) (m : Nat) : Prop := ∃ S, DimN m S ∧ ∀ q, numAt R q = numAt (timesL FF S) q
def spQuo (K : PySem.W.Frag) (M Z N : Addr) : Sp := fun vs H Q E => ∃ (a b : Addr) (xs ys : List V) (R FF : List Ent) (n m C : Nat) (U : List Pl), vs = [.ref a, .ref b] ∧ QuoR K H a b xs ys R FF n m C U ∧
  (mixB R FF = true → ∀ d H', Same H H' → H' d = some (.xd errM) → E (.ref M) (some d) H') ∧
  (mixB R FF = false → FF = [] → ∀ d H', Same H H' → H' d = some (.xd errZ) → E (.ref Z) (some d) H') ∧
  (mixB R FF = false → FF ≠ [] → ¬ Fac R FF m → ∀ d H', Same H H' → H' d = some (.xd errNF) → E (.ref N) (some d) H') ∧
  (mixB R FF = false → FF ≠ [] → ∀ S, Valid S → DimN m S → (∀ q, numAt R q = numAt (timesL FF S) q) → ∀ p ws H', Same H H' → H p = none → H' p = some (.lst ws) → Ents H' ws S → Q (.ref p) H')
theorem ok_quotient {f M Z N fB fI fD A0 : Addr} {fd fdB fdI fdD : FuncData} {ds : List Value} (D : C8.Def K mg "quotient" s_quotient f fd) (T : Bi mg) (XZ : ErrI K mg "ZeroRow" Z fB) (GB : FnOk P w K mg base L2.CX0 1 fB fdB ["self"] (spTE K)) (bB : Binds K fdB ["self"] []) (XN : ErrI K mg "NotAFactor" N fI) (GI : FnOk P w K mg base L2.CX0 2 fI fdI ["self", "index"] (spIE K)) (bI : Binds K fdI ["self", "index"] [])
    (DD : C8.Def K mg "same_dimension" s_same_dimension fD fdD) (bD : Binds K fdD ["rows", "places"] ds) (hdv : Vals [V.ref A0] ds) (hA0 : ∀ H, SqT K H A0 []) (GD : FnOk P w K mg base (L2.CX P w) 4 fD fdD ["rows", "places"] (spSDT K M)) (c_divide : C8.Cal P w K mg base 3 "divide" (spDiv K) []) :
    FnOk P w K mg base (L2.CX P w) 6 f fd ["row", "factor"] (spQuo K M Z N) := by
  obtain ⟨oc, od, dV, kV, doc, pm, an, cdv, ct, osl, rfl, lk, hcd⟩ := D.fn.ex
  refine fn_of lk hcd sc_quotient (fun vs H Q E h => ?_) fun A outer s H vs Q E hr h => ?_
  · obtain ⟨a, b, xs, ys, R, FF, n, m, C, U, rfl, _⟩ := h
    rfl
  · obtain ⟨a, b, xs, ys, R, FF, n, m, C, U, rfl, hD, qM, qZ, qN, qQ⟩ := h
    refine ⟨_, (pss_cons (ps_expr (pe_callSD (GD.mono (by decide : 4 ≤ 5)) hr rfl DD.mgf DD.kp bD hdv (fun σ => passAt (takes_of rfl rfl rfl rfl) σ) (pa_cons (pe_lst (pa_cons (pv 0) (pa_cons (pv 1) pa_nil))) pa_nil)))
  (pss_cons (ps_if (pt_not (pt_truth (pv 1) (by intro _; rfl))) (pss_one (ps_raise rfl (takes_of rfl rfl rfl rfl) (pmk_oex0 XZ.t.ox XZ.i XZ.ty (GB.mono (by decide : 1 ≤ 4)) hr bB pass0 (by rfl) XZ.g))) pss_nil)
  (pss_cons (ps_asg (C8.pe_c c_divide hr (by decide) (by rfl) (pa_cons (pv 0) (pa_cons (pv 1) pa_nil))) (pg_tup rfl (pgs_cons (pg_name (i := 2) sc_quotient.nd rfl (Or.inl rfl)) (pgs_cons (pg_name (i := 3) sc_quotient.nd rfl (Or.inl rfl)) pgs_nil))))
  (pss_cons (ps_if (pt_truth (pv 3) (by intro _; rfl)) (pss_one (ps_raise rfl (takes_of rfl rfl rfl rfl) (pmk_oex XN.t.ox XN.i XN.ty (GI.mono (by decide : 2 ≤ 4)) hr bI .nil pass0 (by rfl) XN.g (pa_cons pe_int pa_nil)))) pss_nil)
  (pss_one (ps_ret (pv 2))))))), ?_⟩
    refine ⟨_, rfl, _, rfl, (by show 2 ≤ sizeLine; decide), fun p1 np1 => ?_⟩
    have s1 : Same H (upd H p1 (.lst [.ref a, .ref b])) := same_upd np1
    refine ⟨p1, A0, [.ref a, .ref b], [R, FF], rfl, .inl (.inl upd_same), .cons (s1 _ _ hD.ha) (hD.e.mono s1) (.cons (s1 _ _ hD.hb) (hD.g.mono s1) .nil), hA0 _, (by show 2 ≤ 1000; decide), fun hm d H3 sm hd => qM (by rw [← mixD]; exact hm) d H3 (s1.trans sm) hd, fun hm H3 sm3 => ?_⟩
    have sA := s1.trans sm3
    rw [mixD] at hm
    refine ⟨_, rfl, !ys.isEmpty, .inl ⟨ys, .inl (.inl (sA _ _ hD.hb)), rfl⟩, ?_⟩
    by_cases hF : FF = []
    · have hy : ys = [] := (ents_nil hD.g).mpr hF
      rw [hy]
      refine iteT (raiseZ XZ fun d H' s hd => qZ hm hF d H' (sA.trans s) hd)
    have hy : ys.isEmpty = false := by
      cases ys with
      | nil => exact absurd ((ents_nil hD.g).mp rfl) hF
      | cons _ _ => rfl
    rw [hy]
    refine iteF ?_
    obtain ⟨f0, F, rfl⟩ : ∃ f F, FF = f :: F := by
      cases FF with
      | nil => exact absurd rfl hF
      | cons f F => exact ⟨f, F, rfl⟩
    refine ⟨_, rfl, _, rfl, a, b, xs, ys, R, f0, F, m, C, U, rfl, hD.div sA hm, fun t p1 p2 ws1 ws2 part rest H4 s4 ht np hp1 hp2 hE1 hE2 v1 v2 d1 c1 c2 => ?_⟩
    have sB := sA.trans s4
    refine ⟨t, _, rfl, .inl (.inl ht), rfl, _, _, rfl, _, _, rfl, rfl, ?_⟩
    refine ⟨_, rfl, !ws2.isEmpty, .inl ⟨ws2, .inl (.inl hp2), rfl⟩, ?_⟩
    by_cases hr : rest = []
    · have hy : ws2 = [] := (ents_nil hE2).mpr hr
      rw [hy]
      refine iteF ⟨_, rfl, ?_⟩
      exact qQ hm hF part v1 d1 (c1 hr) p1 ws1 H4 sB (none_back sA np) hp1 hE1
    · have hy : ws2.isEmpty = false := by
        cases ws2 with
        | nil => exact absurd ((ents_nil hE2).mp rfl) hr
        | cons _ _ => rfl
      rw [hy]
      exact iteT (raiseN XN fun d H' s hd => qN hm hF (fun ⟨S, dS, e⟩ => c2 hr S dS e) d H' (sB.trans s) hd)
end
end OT

set_option Elab.async false
set_option linter.all false
set_option maxRecDepth 100000
set_option maxHeartbeats 2000000
namespace OT
open PySem PySem.Spec PyProof.Rows L2
/-- a def that is never reached -/
def spNo : Sp := fun _ _ _ _ => False
section
variable {P : Program} {w : World} {K : PySem.W.Frag} {mg : Str → Option Value} {base : Heap}
theorem c_no {k : Nat} {x : Str} {st : Stmt} {f : Addr} {fd : FuncData} {ps : List Str} (D : C8.Def K mg x st f fd) (b : Binds K fd ps []) : C8.Cal P w K mg base k x spNo [] :=
  ⟨f, fd, ps, [], ⟨fun _ _ _ _ h => h.elim, fun _ _ _ _ _ _ _ _ _ _ _ _ _ h => h.elim⟩, D.mgf, D.kp, b, .nil⟩
/-- few pairs of entries: not crowded -/
def spFew : Sp := fun vs H Q _ => ∃ (a b : Addr) (xs ys : List V), vs = [.ref a, .ref b] ∧ H a = some (.lst xs) ∧ H b = some (.lst ys) ∧ xs.length ≤ 1000 ∧ xs.length * ys.length < 2000 ∧ Q (.bl false) H
theorem c_is_crowded {f : Addr} {fd : FuncData} {tk : Tok} (D : C8.Def K mg "is_crowded" s_is_crowded f fd) (b : Binds K fd ["first", "second"] []) (T : Bi mg) (gF : mg "FEW_PAIRS" = some (.int 2000 tk)) (c_digit_bits : C8.Cal P w K mg base 1 "digit_bits" spNo []) (c_product_sizes : C8.Cal P w K mg base 1 "product_sizes" spNo []) : C8.Cal P w K mg base 2 "is_crowded" spFew [] := by
  refine C8.cal0 D b .nil sc_is_crowded (fun vs H Q E h => ?_) (fun cdv A outer s H vs Q E hr h => ?_)
  · obtain ⟨a, b, xs, ys, rfl, _⟩ := h
    rfl
  · obtain ⟨a, b, xs, ys, rfl, ha, hb, hx, hz, q⟩ := h
    refine ⟨_, (pss_cons (ps_set (i := 2) sc_is_crowded.nd rfl (Or.inl rfl) (pe_op op_mul (pe_callB call_len_seq (by rfl) T.n_len OT.b_len (pa_cons (pv 0) pa_nil)) (pe_callB call_len_seq (by rfl) T.n_len OT.b_len (pa_cons (pv 1) pa_nil))))
  (pss_cons (ps_if (pt_cmpR op_lt (pv 2) (pe_glob (v := .int 2000) (by rfl) gF ⟨_, rfl⟩) (nomark _)) (pss_one (ps_ret pe_bl)) pss_nil)
  (pss_cons (ps_set (i := 3) sc_is_crowded.nd rfl (Or.inl rfl) (C8.pe_c c_digit_bits hr (by decide) (by rfl) (pa_cons (pv 0) (pa_cons (pv 1) pa_nil))))
  (pss_cons (ps_for PassesOwn.never rfl (pi_list (C8.pe_c c_product_sizes hr (by decide) (by rfl) (pa_cons (pv 0) (pa_cons (pv 1) pa_nil)))) (pg_name (i := 4) sc_is_crowded.nd rfl (Or.inl rfl)) (pss_one (ps_set (i := 3) sc_is_crowded.nd rfl (Or.inl rfl) (pe_op op_mul (pv 3) (pv 4)))))
  (pss_one (ps_ret (pe_cmpR op_lt (pv 3) (pe_op op_mul pe_int (pv 2)) (nomark _)))))))), ?_⟩
    refine ⟨_, rfl, a, _, rfl, .inl (.inl (.inl ha)), _, rfl, b, _, rfl, .inl (.inl (.inl hb)), _, _, rfl, rfl, .inl (by constructor <;> omega), ?_⟩
    refine ⟨_, rfl, _, _, rfl, rfl, _, rfl, ?_⟩
    refine iteD (fun _ => q) (fun z => absurd ?_ z)
    show (xs.length : Int) * (ys.length : Int) < 2000
    rw [← Int.natCast_mul]
    omega
end
end OT

set_option Elab.async false
set_option linter.all false
set_option maxRecDepth 100000
set_option maxHeartbeats 2000000
namespace OT
open PySem PySem.Spec PyProof.Rows L2
theorem Kps.updK {H : Hp} {D : Addr} {l l' : List (Key × V)} {vs : List V} {es : List (Int × Int)} (hD : H D = some (.dK l)) (h : Kps H vs es) : Kps (upd H D (.dK l')) vs es := by
  induction h with
  | nil => exact .nil
  | cons h1 _ ih =>
    obtain ⟨t, rfl, h1⟩ := h1
    refine .cons ⟨t, rfl, ?_⟩ ih
    rw [upd_ne (fun z => by rw [z, hD] at h1; cases h1)]
    exact h1
theorem reach_le {es : List Ent} {h C : Nat} (hr : ReachIs es h) (hc : ∀ e ∈ es, ∀ x ∈ e.1, x.natAbs ≤ C) : h ≤ C := hr.2 C fun e he x hx => hc e he x hx
section
variable {P : Program} {w : World} {K : PySem.W.Frag} {mg : Str → Option Value} {base : Heap}
/-- two rows that are handed to a def of two rows -/
structure TwoR (K : PySem.W.Frag) (H : Hp) (a b : Addr) (xs ys : List V) (es fs : List Ent) (n m C : Nat) : Prop where
  ha : H a = some (.lst xs)
  hb : H b = some (.lst ys)
  e : Ents H xs es
  f : Ents H ys fs
  ze : es.length ≤ 1000
  zf : fs.length ≤ 1000
  de : ∀ e ∈ es, e.1.length = n
  df : ∀ e ∈ fs, e.1.length = m
  n3 : n ≤ 3
  m3 : m ≤ 3
  ce : ∀ e ∈ es, ∀ x ∈ e.1, x.natAbs ≤ C
  cf : ∀ e ∈ fs, ∀ x ∈ e.1, x.natAbs ≤ C
  c : C ≤ 1000000
theorem TwoR.mono {H H' : Hp} {a b : Addr} {xs ys : List V} {es fs : List Ent} {n m C : Nat} (s : Same H H') (h : TwoR K H a b xs ys es fs n m C) : TwoR K H' a b xs ys es fs n m C :=
  ⟨s _ _ h.ha, s _ _ h.hb, h.e.mono s, h.f.mono s, h.ze, h.zf, h.de, h.df, h.n3, h.m3, h.ce, h.cf, h.c⟩
def spMul (K : PySem.W.Frag) (M : Addr) : Sp := fun vs H Q E => ∃ (a b : Addr) (xs ys : List V) (es fs : List Ent) (n m C : Nat), vs = [.ref a, .ref b] ∧ TwoR K H a b xs ys es fs n m C ∧ es.length * fs.length < 2000 ∧ (∀ g ∈ fs, -(2 ^ 64) < g.2 ∧ g.2 < 2 ^ 64) ∧
  (mixL ((dims [es, fs]).filter nz) = true → ∀ d H', Same H H' → H' d = some (.xd errM) → E (.ref M) (some d) H') ∧
  (mixL ((dims [es, fs]).filter nz) = false → (es ≠ [] → fs ≠ [] → n = m) ∧ wantRow H (timesL es fs) Q)
theorem ok_multiply {f M fD A0 : Addr} {fd fdD : FuncData} {ds : List Value} (D : C8.Def K mg "multiply" s_multiply f fd) (T : Bi mg) (DD : C8.Def K mg "same_dimension" s_same_dimension fD fdD) (bD : Binds K fdD ["rows", "places"] ds) (hdv : Vals [V.ref A0] ds) (hA0 : ∀ H, SqT K H A0 [])
    (GD : FnOk P w K mg base (L2.CX P w) 4 fD fdD ["rows", "places"] (spSDT K M)) (c_key_base : C8.Cal P w K mg base 2 "key_base" (spKB K) []) (c_keyed : C8.Cal P w K mg base 2 "keyed" (spKeyed K) []) (c_unkeyed : C8.Cal P w K mg base 2 "unkeyed" spUnk []) (c_places_length : C8.Cal P w K mg base 1 "places_length" (spPLen K) []) (c_is_crowded : C8.Cal P w K mg base 2 "is_crowded" spFew []) (c_crowded_product : C8.Cal P w K mg base 1 "crowded_product" spNo []) : FnOk P w K mg base (L2.CX P w) 5 f fd ["first", "second"] (spMul K M) := by
  obtain ⟨oc, od, dV, kV, doc, pm, an, cdv, ct, osl, rfl, lk, hcd⟩ := D.fn.ex
  refine fn_of lk hcd sc_multiply (fun vs H Q E h => ?_) fun A outer s H vs Q E hr h => ?_
  · obtain ⟨a, b, xs, ys, es, fs, n, m, C, rfl, _⟩ := h
    rfl
  · obtain ⟨a, b, xs, ys, es, fs, n, m, C, rfl, R, hz, hnum, qE, qN⟩ := h
    refine ⟨_, (pss_cons (ps_expr (pe_callSD GD hr rfl DD.mgf DD.kp bD hdv (fun σ => passAt (takes_of rfl rfl rfl rfl) σ) (pa_cons (pe_lst (pa_cons (pv 0) (pa_cons (pv 1) pa_nil))) pa_nil)))
  (pss_cons (ps_if (pt_val (C8.pe_c c_is_crowded hr (by decide) (by rfl) (pa_cons (pv 0) (pa_cons (pv 1) pa_nil)))) (pss_one (ps_ret (C8.pe_c c_crowded_product hr (by decide) (by rfl) (pa_cons (pv 0) (pa_cons (pv 1) pa_nil))))) pss_nil)
  (pss_cons (ps_set (i := 2) sc_multiply.nd rfl (Or.inl rfl) (C8.pe_c c_key_base hr (by decide) (by rfl) (pa_cons (pv 0) (pa_cons (pv 1) pa_nil))))
  (pss_cons (ps_set (i := 3) sc_multiply.nd rfl (Or.inl rfl) (C8.pe_c c_keyed hr (by decide) (by rfl) (pa_cons (pv 1) (pa_cons (pv 2) pa_nil))))
  (pss_cons (ps_set (i := 4) sc_multiply.nd rfl (Or.inl rfl) pe_dnewK)
  (pss_cons (ps_for (passes_of rfl) rfl (pi_list (C8.pe_c c_keyed hr (by decide) (by rfl) (pa_cons (pv 0) (pa_cons (pv 2) pa_nil)))) (pg_tup rfl (pgs_cons (pg_name (i := 5) sc_multiply.nd rfl (Or.inl rfl)) (pgs_cons (pg_name (i := 6) sc_multiply.nd rfl (Or.inl rfl)) pgs_nil))) (pss_one (ps_for (passes_of rfl) rfl (pi_list (pv 3)) (pg_tup rfl (pgs_cons (pg_name (i := 7) sc_multiply.nd rfl (Or.inl rfl)) (pgs_cons (pg_name (i := 8) sc_multiply.nd rfl (Or.inl rfl)) pgs_nil))) (pss_one (ps_dput (hu_of hr) (pv 4) (pe_op op_add (pv 5) (pv 7)) (pe_op op_add (pe_dget2 (hu_of hr) (pv 4) (pe_op op_add (pv 5) (pv 7)) pe_int ⟨rfl, rfl, rfl, rfl⟩) (pe_op op_mul (pv 6) (pv 8))) rfl)))))
  (pss_one (ps_ret (C8.pe_c c_unkeyed hr (by decide) (by rfl) (pa_cons (pv 4) (pa_cons (pv 2) (pa_cons (C8.pe_c c_places_length hr (by decide) (by rfl) (pa_cons (pv 0) pa_nil)) pa_nil)))))))))))), ?_⟩
    refine ⟨_, rfl, _, rfl, (by show 2 ≤ sizeLine; decide), fun p1 np1 => ?_⟩
    have s1 : Same H (upd H p1 (.lst [.ref a, .ref b])) := same_upd np1
    refine ⟨p1, A0, [.ref a, .ref b], [es, fs], rfl, .inl (.inl upd_same), .cons (s1 _ _ R.ha) (R.e.mono s1) (.cons (s1 _ _ R.hb) (R.f.mono s1) .nil), hA0 _, (by show 2 ≤ 1000; decide), fun hm d H3 sm hd => qE hm d H3 (s1.trans sm) hd, fun hm H3 sm3 => ?_⟩
    have sA := s1.trans sm3
    obtain ⟨hnm, q⟩ := qN hm
    have R3 := R.mono sA
    clear hm qE qN
    refine ⟨_, rfl, _, rfl, a, b, xs, ys, rfl, R3.ha, R3.hb, by rw [R3.e.len]; exact R3.ze, by rw [R3.e.len, R3.f.len]; exact hz, _, rfl, ?_⟩
    refine iteF ?_
    refine ⟨_, rfl, _, rfl, a, b, xs, ys, es, fs, rfl, ⟨.inl (.inl R3.ha), R3.e, R3.ze, fun e he => by rw [R3.de e he]; exact R3.n3⟩, ⟨.inl (.inl R3.hb), R3.f, R3.zf, fun e he => by rw [R3.df e he]; exact R3.m3⟩, fun h g H4 hh hg s4 => ?_⟩
    have hN : h + g ≤ 2000000 := by
      have := reach_le hh R.ce
      have := reach_le hg R.cf
      have := R.c
      omega
    have hG : ∀ e ∈ es, ∀ z ∈ fs, Gd (h + g) (dimE es) (plusP e.1 z.1) ∧ e.1.length = z.1.length := fun e he z hz' => by
      have hne : es ≠ [] := fun y => by rw [y] at he; cases he
      have hnf : fs ≠ [] := fun y => by rw [y] at hz'; cases hz'
      have l1 := R.de e he
      have l2 := R.df z hz'
      have hl : e.1.length = z.1.length := l1.trans ((hnm hne hnf).trans l2.symm)
      refine ⟨⟨?_, fun x hx => ?_⟩, hl⟩
      · rw [plusP_len (Nat.le_of_eq hl), l1, dimE_eq R.de hne]
      · obtain ⟨u, hu, v, hv, rfl⟩ := plusP_mem hx
        have := hh.1 e he u hu
        have := hg.1 z hz' v hv
        omega
    have hd3 : dimE es ≤ 1000 := by
      by_cases hne : es = []
      · rw [hne]
        exact Nat.zero_le _
      · rw [dimE_eq R.de hne]
        have := R.n3
        omega
    have inj : ∀ k l, Gd (h + g) (dimE es) k → Gd (h + g) (dimE es) l → keyP (2 * ((h + g : Nat) : Int) + 1) k = keyP (2 * ((h + g : Nat) : Int) + 1) l → k = l := fun k l hk hl e => keyP_inj rfl (hk.1.trans hl.1.symm) hk.2 hl.2 e
    have hb64 : -(2 ^ 64) < 2 * ((h + g : Nat) : Int) + 1 ∧ 2 * ((h + g : Nat) : Int) + 1 < 2 ^ 64 := by
      have e1 : (2 : Int) ^ 64 = 18446744073709551616 := by decide
      omega
    clear hh hg
    have R4 := R3.mono s4
    have sB := sA.trans s4
    refine ⟨_, rfl, _, rfl, b, ys, fs, _, rfl, .inl (.inl R4.hb), R4.f, R4.zf, hb64, fun r ws2 H5 s5 nr hr5 hK2 => ?_⟩
    have R5 := R4.mono s5
    have sC := sB.trans s5
    refine fun d nd => ?_
    have s6 : Same H5 (upd H5 d (.dK [])) := same_upd nd
    have hd6 : (upd H5 d (.dK [])) d = some (.dK []) := upd_same
    generalize upd H5 d (.dK []) = H6 at s6 hd6 ⊢
    have R6 := R5.mono s6
    refine ⟨_, rfl, _, rfl, a, xs, es, _, rfl, .inl (.inl R6.ha), R6.e, R6.ze, hb64, fun p7 ws1 H7 s7 np7 hp7 hK1 => ?_⟩
    have s57 := s6.trans s7
    have hd7 := s7 _ _ hd6
    generalize hB : (2 * ((h + g : Nat) : Int) + 1) = B at inj hK1 hK2 hb64 ⊢
    have pne : p7 ≠ d := fun z => by
      rw [z, hd7] at hp7
      cases hp7
    refine ⟨p7, rfl, ⟨_, .inl (.inl hp7)⟩, ?_⟩
    refine for_list (K := K) (xs := ws1) (fun i σ H8 => ∃ (kvs : List (Key × V)) (ks : List Pl) (y5 y6 y7 y8 : Option V), σ = [some (.ref a), some (.ref b), some (.int B), some (.ref r), some (.ref d), y5, y6, y7, y8] ∧ Same H5 H8 ∧ H8 p7 = some (.lst ws1) ∧ Kps H8 ws1 (keyL B es) ∧ H8 d = some (.dK kvs) ∧ KSums B (Gd (h + g) (dimE es)) kvs ks (numAt (timesL (es.take i) fs)) ∧ ks.length ≤ i * fs.length) ?_ ?_ ?_ ?_
    · exact ⟨[], [], none, none, none, none, rfl, s57, hp7, hK1, hd7, KSums.nil, Nat.zero_le _⟩
    · rintro i σ H8 _ ⟨_, _, _, _, _, _, _, _, hp, _⟩
      exact .inl (.inl hp)
    · rintro i x σ H8 hx ⟨kvs, ks, y5, y6, y7, y8, rfl, sm, hp8, hK8, hd8, hs, hl⟩
      obtain ⟨ke, he', t, rfl, ht⟩ := hK8.get hx
      have hi : i < es.length := by
        have := (List.getElem?_eq_some_iff.mp he').1
        unfold keyL at this
        rwa [List.length_map] at this
      obtain ⟨e, hee⟩ : ∃ e, es[i]? = some e := ⟨_, List.getElem?_eq_getElem hi⟩
      have hem : e ∈ es := List.mem_of_getElem? hee
      have hke : ke = (keyP B e.1, e.2) := by
        unfold keyL at he'
        rw [List.getElem?_map, hee] at he'
        exact (Option.some.inj he').symm
      subst hke
      refine ⟨t, _, rfl, .inl (.inl ht), rfl, _, _, rfl, _, _, rfl, rfl, ?_⟩
      refine ⟨_, rfl, r, rfl, ⟨_, .inl (.inl (sm _ _ hr5))⟩, ?_⟩
      refine for_list (K := K) (xs := ws2) (fun j σ H9 => ∃ (kvs : List (Key × V)) (ks : List Pl) (y7 y8 : Option V), σ = [some (.ref a), some (.ref b), some (.int B), some (.ref r), some (.ref d), some (.int (keyP B e.1)), some (.int e.2), y7, y8] ∧ Same H5 H9 ∧ H9 p7 = some (.lst ws1) ∧ Kps H9 ws1 (keyL B es) ∧ H9 d = some (.dK kvs) ∧ KSums B (Gd (h + g) (dimE es)) kvs ks (numAt (timesL (es.take i) fs ++ rowT e (fs.take j))) ∧ ks.length ≤ i * fs.length + j) ?_ ?_ ?_ ?_
      · refine ⟨kvs, ks, y7, y8, rfl, sm, hp8, hK8, hd8, ?_, hl⟩
        rw [show rowT e (fs.take 0) = [] from rfl, List.append_nil]
        exact hs
      · rintro j σ H9 _ ⟨_, _, _, _, _, sm9, _⟩
        exact .inl (.inl (sm9 _ _ hr5))
      · rintro j x σ H9 hx ⟨kvs, ks, y7, y8, rfl, sm9, hp9, hK9, hd9, hs9, hl9⟩
        obtain ⟨kg, hg', t2, rfl, ht2⟩ := (hK2.mono sm9).get hx
        have hj : j < fs.length := by
          have := (List.getElem?_eq_some_iff.mp hg').1
          unfold keyL at this
          rwa [List.length_map] at this
        obtain ⟨z, hzz⟩ : ∃ z, fs[j]? = some z := ⟨_, List.getElem?_eq_getElem hj⟩
        have hzm : z ∈ fs := List.mem_of_getElem? hzz
        have hkg : kg = (keyP B z.1, z.2) := by
          unfold keyL at hg'
          rw [List.getElem?_map, hzz] at hg'
          exact (Option.some.inj hg').symm
        subst hkg
        obtain ⟨gd, gl⟩ := hG e hem z hzm
        have hk : keyP B (plusP e.1 z.1) = keyP B e.1 + keyP B z.1 := keyP_plus B gl
        have hget : DGet H9 d (.int (keyP B e.1 + keyP B z.1)) (valV kvs (Sum.inl (keyP B (plusP e.1 z.1)))) := by
          rw [← hk]
          exact DGet.k (k := Sum.inl (keyP B (plusP e.1 z.1))) hd9
        have hlt : kvs.length < sizeLine := by
          rw [hs9.len]
          have h1 : i * fs.length + fs.length ≤ es.length * fs.length := by
            rw [← Nat.succ_mul]
            exact Nat.mul_le_mul_right _ hi
          exact small100k (by omega)
        have hput : DPut H9 d (.int (keyP B e.1 + keyP B z.1)) (.int (numAt (timesL (es.take i) fs ++ rowT e (fs.take j)) (plusP e.1 z.1) + e.2 * z.2)) (upd H9 d (.dK (putK kvs (Sum.inl (keyP B (plusP e.1 z.1))) (.int (numAt (timesL (es.take i) fs ++ rowT e (fs.take j)) (plusP e.1 z.1) + e.2 * z.2))))) := by
          rw [← hk]
          exact DPut.k (k := Sum.inl (keyP B (plusP e.1 z.1))) hd9 hlt
        refine ⟨t2, _, rfl, .inl (.inl ht2), rfl, _, _, rfl, _, _, rfl, rfl, ?_⟩
        refine ⟨_, rfl, d, rfl, .inl ⟨kvs, .inl hd9⟩, _, rfl, _, rfl, _, _, rfl, rfl, _, hget, _, rfl, _, rfl, _, _, rfl, rfl, .inr (hnum z hzm), _, _, hs9.getD _ gd, rfl, _, rfl, _, rfl, _, rfl, _, _, rfl, rfl, d, _, rfl, hput, ?_⟩
        refine ⟨_, _, _, _, rfl, same_mut sm9 nd, ?_, hK9.updK hd9, upd_same, ?_, put_klen (e := plusP e.1 z.1) hl9⟩
        · rw [upd_ne pne]
          exact hp9
        · have hf : numAt (timesL (es.take i) fs ++ rowT e (fs.take (j + 1))) = fun q => numAt (timesL (es.take i) fs ++ rowT e (fs.take j)) q + if plusP e.1 z.1 = q then e.2 * z.2 else 0 := by
            funext q
            rw [take_snoc hzz]
            show numAt (timesL (es.take i) fs ++ List.map _ (fs.take j ++ [z])) q = _
            rw [List.map_append, ← List.append_assoc, numAt_app]
            show _ + ((if plusP e.1 z.1 = q then e.2 * z.2 else 0) + 0) = _
            rw [Int.add_zero]
            rfl
          rw [hf]
          exact hs9.put inj _ gd _
      · rintro σ H9 ⟨kvs, ks, y7, y8, rfl, sm9, hp9, hK9, hd9, hs9, hl9⟩
        have hw2 : ws2.length = fs.length := by
          have := hK2.len
          unfold keyL at this
          rwa [List.length_map] at this
        rw [hw2, List.take_length] at hs9
        refine ⟨kvs, ks, _, _, y7, y8, rfl, sm9, hp9, hK9, hd9, ?_, ?_⟩
        · rw [take_snoc hee, timesL_snoc]
          exact hs9
        · rw [hw2] at hl9
          rw [Nat.succ_mul]
          exact hl9
    · rintro σ H8 ⟨kvs, ks, y5, y6, y7, y8, rfl, sm, hp8, hK8, hd8, hs, hl⟩
      have hw1 : ws1.length = es.length := by
        have := hK1.len
        unfold keyL at this
        rwa [List.length_map] at this
      rw [hw1] at hs hl
      rw [List.take_length] at hs
      have R8 := R5.mono sm
      subst hB
      refine ⟨_, rfl, _, rfl, _, rfl, a, xs, es, rfl, .inl (.inl R8.ha), R8.e, d, h + g, dimE es, kvs, ks, timesL es fs, rfl, hd8, hs, by omega, hd3, by omega, ?_⟩
      exact wantRow.mono (sC.trans sm) q
end
end OT

set_option Elab.async false
set_option linter.all false
set_option maxRecDepth 100000
set_option maxHeartbeats 2000000
namespace OT
open PySem PySem.Spec PyProof.Rows L2
theorem Ents.rev {H : Hp} {vs : List V} {es : List Ent} (h : Ents H vs es) : Ents H vs.reverse es.reverse := by
  induction h with
  | nil => exact .nil
  | cons h1 _ ih =>
    rw [List.reverse_cons, List.reverse_cons]
    exact ih.app (.cons h1 .nil)
/-- tuple(xs) -/
def rTupOf (K : PySem.W.Frag) : List V → Hp → VK → Prop := fun args H Q => ∃ (b : Addr) (items : List V), args = [.ref b] ∧ ((SqL K H b items ∧ ∀ l, H l = none → Q (.ref l) (upd H l (.tup items))) ∨ (SqT K H b items ∧ Q (.ref b) H))
section
variable {P : Program} {w : World} {K : PySem.W.Frag} {mg : Str → Option Value} {base : Heap}
def spMirror : Sp := fun vs H Q _ => ∃ (a : Addr) (xs : List V) (es : List Ent), vs = [.ref a] ∧ H a = some (.lst xs) ∧ Ents H xs es ∧ es.length ≤ 1000 ∧ (∀ e ∈ es, e.1.length ≤ 1000) ∧ ∀ p ws H', Same H H' → H p = none → H' p = some (.lst ws) → Ents H' ws (mirP es) → Q (.ref p) H'
theorem c_mirror {f : Addr} {fd : FuncData} (D : C8.Def K mg "mirror" s_mirror f fd) (b : Binds K fd ["row"] []) (T : Bi mg) : C8.Cal P w K mg base 1 "mirror" spMirror [] := by
  refine C8.cal0 D b .nil sc_mirror (fun vs H Q E h => ?_) (fun cdv A outer s H vs Q E hr h => ?_)
  · obtain ⟨a, xs, es, rfl, _⟩ := h
    rfl
  · obtain ⟨a, xs, es, rfl, ha, hE, hz, hle, q⟩ := h
    refine ⟨_, (pss_one (ps_ret (pe_lc (own := [("place", 1), ("number", 2)]) (g := (gTup K 2 (gCons (gName 1) (gCons (gName 2) gNil)))) (tt := tYes) rfl sc_mirror.nd (pi_list (pe_revL (pv 0))) (blkOk_by (N := ["row", "place", "number", "x"]) (sc := C8.fnScope s_mirror) (by decide +kernel)) (fun _ _ _ _ _ => (pg_tup rfl (pgs_cons (pg_name (i := 1) sc_mirror.nd rfl (Or.inl rfl)) (pgs_cons (pg_name (i := 2) sc_mirror.nd rfl (Or.inl rfl)) pgs_nil)))) (fun _ _ _ _ _ => pts_nil) (fun _ _ _ _ _ => (pe_tup (pa_cons (pe_callTy (show CallR _ _ (rTupOf K) from call_tuple_of) (by rfl) T.n_tuple OT.b_tuple (pa_cons (pe_lc (own := [("x", 3)]) (g := (gName 3)) (tt := tYes) rfl sc_mirror.nd (show PI _ _ _ (iTup K (tVar 1)) from pi_tup (pe_var (i := 1) rfl (.inl rfl))) (blkOk_by (N := ["row", "place", "number", "x"]) (sc := { kind := .function, names := [(".0", .local), ("place", .local), ("number", .local), ("tuple", .globalImplicit)], isGenerator := false, isCoroutine := false }) (by decide +kernel)) (fun _ _ _ _ _ => (pg_name (i := 3) sc_mirror.nd rfl (Or.inl rfl))) (fun _ _ _ _ _ => pts_nil) (fun _ _ _ _ _ => (pe_un un_neg (pv 3)))) pa_nil)) (pa_cons (pv 2) pa_nil))))))), ?_⟩
    have hS : SqL K H a xs := .inl (.inl ha)
    have hx := hE.len
    refine ⟨_, rfl, a, xs, rfl, hS, fun ra nra => ?_⟩
    have s1 : Same H (upd H ra (.lst xs.reverse)) := same_upd nra
    have hra : (upd H ra (.lst xs.reverse)) ra = some (.lst xs.reverse) := upd_same
    generalize upd H ra (.lst xs.reverse) = H1 at s1 hra ⊢
    refine ⟨ra, rfl, ⟨_, .inl (.inl hra)⟩, fun p np => ?_⟩
    have hE1 : Ents H1 xs.reverse es.reverse := (hE.mono s1).rev
    refine lc_list (K := K) (xs := xs.reverse) (fun i H2 => Same H1 H2 ∧ ∃ ws, H2 p = some (.lst ws) ∧ Ents H2 ws ((es.reverse.take i).map fun e => (negP e.1, e.2))) ?_ ?_ ?_ ?_
    · exact ⟨same_upd np, [], upd_same, .nil⟩
    · rintro i H2 _ ⟨sm, _⟩
      exact .inl (.inl (sm _ _ hra))
    · rintro i x H2 hxi ⟨sm, ws, hp, hW⟩
      obtain ⟨e, he, t, pe, rfl, ht, hpe⟩ := (hE1.mono sm).get hxi
      obtain ⟨hi, hee⟩ := List.getElem?_eq_some_iff.mp he
      have hm := List.mem_reverse.mp (List.mem_of_getElem? he)
      rw [List.length_reverse] at hi
      refine ⟨t, _, rfl, .inl (.inl ht), rfl, _, _, rfl, _, _, rfl, rfl, rfl, tYes_of ?_⟩
      refine ⟨_, rfl, pe, rfl, ⟨_, .inl (.inl hpe)⟩, fun p3 np3 => ?_⟩
      refine lc_tup (K := K) (xs := e.1.map V.int) (fun j H3 => Same H2 H3 ∧ H3 p3 = some (.lst ((e.1.take j).map fun n => V.int (-n)))) ?_ ?_ ?_ ?_
      · exact ⟨same_upd np3, upd_same⟩
      · rintro j H3 _ ⟨sm3, _⟩
        exact .inl (.inl (sm3 _ _ hpe))
      · rintro j y H3 hy ⟨sm3, hp3⟩
        obtain ⟨hj, rfl⟩ := getm hy
        refine ⟨rfl, tYes_of ?_⟩
        refine ⟨_, rfl, _, rfl, _, hp3, ?_, same_mut sm3 np3, ?_⟩
        · rw [List.length_map, List.length_take]
          have := hle e hm
          exact small100k (by omega)
        · rw [upd_same, take_map_succ (fun n => V.int (-n)) hj]
      · rintro H3 ⟨sm3, hp3⟩
        rw [List.length_map, List.take_length] at hp3
        refine ⟨p3, _, rfl, .inl ⟨.inl (.inl hp3), fun l4 nl4 => ?_⟩⟩
        have sm4 : Same H3 (upd H3 l4 (.tup (e.1.map fun n => V.int (-n)))) := same_upd nl4
        have hl4 : (upd H3 l4 (.tup (e.1.map fun n => V.int (-n)))) l4 = some (.tup ((negP e.1).map V.int)) := by
          rw [upd_same]
          unfold negP
          rw [List.map_map]
          rfl
        generalize upd H3 l4 (.tup (e.1.map fun n => V.int (-n))) = H4 at sm4 hl4 ⊢
        refine ⟨_, rfl, (by show 2 ≤ sizeLine; decide), fun t6 nt6 => ?_⟩
        have sm6 : Same H4 (upd H4 t6 (.tup [.ref l4, .int e.2])) := same_upd nt6
        have smX := (sm3.trans sm4).trans sm6
        have hv : EntAt (upd H4 t6 (.tup [.ref l4, .int e.2])) (.ref t6) (negP e.1, e.2) := ⟨t6, l4, rfl, upd_same, sm6 _ _ hl4⟩
        have hD := smX _ _ hp
        have hwl := hW.len
        refine ⟨ws, hD, ?_, same_mut (sm.trans smX) np, ws ++ [.ref t6], upd_same, ?_⟩
        · rw [List.length_map, List.length_take, List.length_reverse] at hwl
          exact small100k (by omega)
        · rw [take_snoc he, List.map_append]
          exact ((hW.mono smX).app (.cons hv .nil)).updL hD
    · rintro H2 ⟨sm, ws, hp, hW⟩
      rw [List.length_reverse, hx, ← List.length_reverse, List.take_length] at hW
      refine q p ws H2 (s1.trans sm) ?_ hp hW
      cases z : H p with
      | none => rfl
      | some o =>
        rw [s1 _ _ z] at np
        cases np
end
end OT

set_option Elab.async false
set_option linter.all false
set_option maxRecDepth 100000
set_option maxHeartbeats 4000000
/-! steps of a reading, one lemma for each form -/
namespace AU
open PySem PySem.Spec PyProof.Rows L2
section
variable {K : PySem.W.Frag} {σ : L2.St} {H : Hp} {Q : VK} {D : Ends}
theorem climb {H1 H2 : Hp} {a : Addr} {o : HO} (s : Same H1 H2) (h : H1 a = some o) : H2 a = some o := s _ _ h
theorem sqL {a : Addr} {xs : List V} (h : H a = some (.lst xs)) : SqL K H a xs := .inl (.inl h)
theorem sqT {a : Addr} {xs : List V} (h : H a = some (.tup xs)) : SqT K H a xs := .inl (.inl h)
theorem newS {H H2 : Hp} {p : Addr} {o : HO} (h : H p = none) (e : upd H p o = H2) : Same H H2 := fun b x z => by
  rw [← e, upd_ne (ne_of_none z h)]
  exact z
theorem newH {H H2 : Hp} {p : Addr} {o : HO} (e : upd H p o = H2) : H2 p = some o := by rw [← e]; exact upd_same
theorem back {H H2 : Hp} {p : Addr} (s : Same H H2) (h : H2 p = none) : H p = none := by
  cases h1 : H p with
  | none => rfl
  | some o =>
    rw [s p o h1] at h
    cases h
theorem trueT {A B : Prop} (h : A) : if true = true then A else B := by rw [if_pos rfl]; exact h
theorem falseF {A B : Prop} (h : B) : if false = true then A else B := by rw [if_neg (by decide)]; exact h
theorem trueN {A B : Prop} (h : B) : if (!true) = true then A else B := by rw [if_neg (by decide)]; exact h
theorem falseN {A B : Prop} (h : A) : if (!false) = true then A else B := by rw [if_pos (by decide)]; exact h
theorem mutS {H H1 : Hp} {p : Addr} {o : HO} (e : Same H H1) (h : H p = none) : Same H (upd H1 p o) := fun b x z => by
  rw [upd_ne (ne_of_none z h)]
  exact e b x z
theorem sqLS {H1 H2 : Hp} {a : Addr} {xs : List V} (s : Same H1 H2) (h : SqL K H1 a xs) : SqL K H2 a xs := s.seq h
theorem sqTS {H1 H2 : Hp} {a : Addr} {xs : List V} (e : Same H1 H2) (h : SqT K H1 a xs) : SqT K H2 a xs := by
  rcases h with (h | ⟨o, h⟩) | h
  · exact .inl (.inl (e _ _ h))
  · exact .inl (.inr ⟨o, e _ _ h⟩)
  · exact .inr h
/- statements -/
theorem seq_ {t u : TS} (h : t { D with nx := u D } σ H) : tSeq t u D σ H := h
theorem asg_ {te : TE} {g : TG} (h : te σ H fun x H1 => g x σ H1 D.nx) : tAsg te g D σ H := h
theorem name_ {i : Nat} {v : V} {W : L2.St → Hp → Prop} (h : W (σ.set i (some v)) H) : gName i v σ H W := h
theorem drop_ {te : TE} (h : te σ H fun _ H1 => D.nx σ H1) : tDrop te D σ H := h
theorem ret_ {te : TE} (h : te σ H D.rt) : tRet te D σ H := h
theorem retN_ (h : D.rt .non H) : tRetN D σ H := h
theorem next_ (h : D.nx σ H) : tNext D σ H := h
theorem brk_ (h : D.bk σ H) : tBreak D σ H := h
theorem cont_ (h : D.ct σ H) : tCont D σ H := h
theorem ifs_ {c : TT} {t u : TS} (h : c σ H fun b H1 => if b = true then t D σ H1 else u D σ H1) : tIfS c t u D σ H := h
theorem aug_ {i : Nat} {te : TE} {ti : TIp} {x : V} (e : σ[i]? = some (some x)) (h : te σ H fun y H1 => ti x y H1 fun z H2 => D.nx (σ.set i (some z)) H2) : tAug i te ti D σ H := ⟨x, e, h⟩
theorem nxm {nx : L2.St → Hp → Prop} {rt : VK} {bk ct : L2.St → Hp → Prop} (h : nx σ H) : (Ends.mk nx rt bk ct).nx σ H := h
theorem rtm {nx : L2.St → Hp → Prop} {rt : VK} {bk ct : L2.St → Hp → Prop} {v : V} (h : rt v H) : (Ends.mk nx rt bk ct).rt v H := h
theorem bkm {nx : L2.St → Hp → Prop} {rt : VK} {bk ct : L2.St → Hp → Prop} (h : bk σ H) : (Ends.mk nx rt bk ct).bk σ H := h
theorem ctm {nx : L2.St → Hp → Prop} {rt : VK} {bk ct : L2.St → Hp → Prop} (h : ct σ H) : (Ends.mk nx rt bk ct).ct σ H := h
/- expressions -/
theorem var_ {i : Nat} {v : V} (e : σ[i]? = some (some v)) (q : Q v H) : tVar i σ H Q := ⟨v, e, q⟩
theorem c_ {v : V} (q : Q v H) : tC v σ H Q := q
theorem op_ {r : R2} {ta tb : TE} (h : ta σ H fun x H1 => tb σ H1 fun y H2 => r x y H2 Q) : tOp r ta tb σ H Q := h
theorem un_ {r : V → Hp → VK → Prop} {ta : TE} (h : ta σ H fun x H1 => r x H1 Q) : tUn r ta σ H Q := h
theorem u_ {g : Int → V} {i : Int} (q : Q (g i) H) : rU g (.int i) H Q := ⟨i, rfl, q⟩
theorem i0_ {g : Int → Int → V} {i j : Int} (q : Q (g i j) H) : rI0 g (.int i) (.int j) H Q := ⟨i, j, rfl, rfl, q⟩
theorem i_ {C : Int → Int → Prop} {g : Int → Int → V} {i j : Int} (c : C i j) (q : Q (g i j) H) : rI C g (.int i) (.int j) H Q := ⟨i, j, rfl, rfl, c, q⟩
theorem eq_ {x y : V} (c : scal x y = true) (q : Q (.bl (decide (x = y))) H) : rEq x y H Q := ⟨c, q⟩
theorem eqr_ {i : Int} (q : Q (.bl true) H) : rEq (.int i) (.int i) H Q := ⟨rfl, by
  rw [decide_eq_true rfl]; exact q⟩
theorem eqs_ {i : Str} (q : Q (.bl true) H) : rEq (.str i) (.str i) H Q := ⟨rfl, by
  rw [decide_eq_true rfl]; exact q⟩
theorem eqi_ {i j : Int} (q : Q (.bl (decide (i = j))) H) : rEq (.int i) (.int j) H Q := ⟨rfl, by
  have : decide (V.int i = V.int j) = decide (i = j) := decide_eq_decide.mpr ⟨fun h => by cases h; rfl, fun h => by rw [h]⟩
  rw [this]; exact q⟩
theorem nei_ {i j : Int} (q : Q (.bl (!decide (i = j))) H) : rNe (.int i) (.int j) H Q := ⟨rfl, by
  have : decide (V.int i = V.int j) = decide (i = j) := decide_eq_decide.mpr ⟨fun h => by cases h; rfl, fun h => by rw [h]⟩
  rw [this]; exact q⟩
theorem ne_ {x y : V} (c : scal x y = true) (q : Q (.bl (!decide (x = y))) H) : rNe x y H Q := ⟨c, q⟩
theorem test_ {t : TE} {R : Bool → Hp → Prop} (h : t σ H fun x H' => ∃ k, x = .bl k ∧ R k H') : tTest t σ H R := h
theorem bool_ {b : Bool} {A : Bool → Prop} (h : A b) : ∃ k, V.bl b = .bl k ∧ A k := ⟨b, rfl, h⟩
theorem b_ {t : TE} {R : Bool → Hp → Prop} (h : t σ H fun x H' => ∃ k, x = .bl k ∧ R k H') : tB t σ H R := h
theorem and_ {t u : TT} {R : Bool → Hp → Prop} (h : t σ H fun c H1 => if c = true then u σ H1 R else R false H1) : tAnd t u σ H R := h
theorem or_ {t u : TT} {R : Bool → Hp → Prop} (h : t σ H fun c H1 => if c = true then R true H1 else u σ H1 R) : tOr t u σ H R := h
theorem not_ {t : TT} {R : Bool → Hp → Prop} (h : t σ H fun c H1 => R (!c) H1) : tNot t σ H R := h
theorem andV_ {ta tb : TE} (h : ta σ H fun x H1 => ∃ c, x = .bl c ∧ if c = true then tb σ H1 Q else Q (.bl false) H1) : tAndV ta tb σ H Q := h
theorem orV_ {ta tb : TE} (h : ta σ H fun x H1 => ∃ c, x = .bl c ∧ if c = true then Q (.bl true) H1 else tb σ H1 Q) : tOrV ta tb σ H Q := h
theorem notV_ {ta : TE} (h : ta σ H fun x H1 => ∃ c, x = .bl c ∧ Q (.bl (!c)) H1) : tNotV ta σ H Q := h
theorem if_ {t : TT} {ta tb : TE} (h : t σ H fun c H1 => if c = true then ta σ H1 Q else tb σ H1 Q) : tIf t ta tb σ H Q := h
theorem nil_ {R : List V → Hp → Prop} (h : R [] H) : tNil σ H R := h
theorem cons_ {ta : TE} {tr : TA} {R : List V → Hp → Prop} (h : ta σ H fun x H1 => tr σ H1 fun xs H2 => R (x :: xs) H2) : tCons ta tr σ H R := h
theorem lst_ {t : TA} (h : t σ H fun xs H1 => xs.length ≤ sizeLine ∧ ∀ p, H1 p = none → Q (.ref p) (upd H1 p (.lst xs))) : tLst t σ H Q := h
theorem tup_ {t : TA} (h : t σ H fun xs H1 => xs.length ≤ sizeLine ∧ ∀ p, H1 p = none → Q (.ref p) (upd H1 p (.tup xs))) : tTup t σ H Q := h
theorem call_ {sp : Sp} {dvs : List V} {E : XK} {t : TA} (h : t σ H fun vs H1 => sp (vs ++ dvs) H1 Q E) : tCall sp dvs E t σ H Q := h
theorem callS_ {sp : Sp} {E : L2.St → XK} {t : TA} (h : t σ H fun vs H1 => sp vs H1 Q (E σ)) : tCallS sp E t σ H Q := h
theorem cb_ {r : List V → Hp → VK → Prop} {t : TA} (h : t σ H fun vs H1 => r vs H1 Q) : tCB r t σ H Q := h
theorem bm_ {T : String} {r : V → List V → Hp → VK → Prop} {to : TE} {t : TA} (h : to σ H fun x H1 => tyV K T x H1 ∧ t σ H1 fun xs H2 => r x xs H2 Q) : tBM K T r to t σ H Q := h
theorem ixL_ {p : Addr} {xs : List V} {i : Int} {v : V} (h : SqL K H p xs) (e : atI xs i = some v) (q : Q v H) : rIxL K (.ref p) (.int i) H Q := ⟨p, xs, i, v, rfl, rfl, h, e, q⟩
theorem ixT_ {p : Addr} {xs : List V} {i : Int} {v : V} (h : SqT K H p xs) (e : atI xs i = some v) (q : Q v H) : rIxT K (.ref p) (.int i) H Q := ⟨p, xs, i, v, rfl, rfl, h, e, q⟩
theorem lenL_ {p : Addr} {xs : List V} (h : SqL K H p xs) (q : Q (.int xs.length) H) : _root_.Evl.rLenS K [.ref p] H Q := ⟨p, xs, rfl, .inl h, q⟩
theorem lenT_ {p : Addr} {xs : List V} (h : SqT K H p xs) (q : Q (.int xs.length) H) : _root_.Evl.rLenS K [.ref p] H Q := ⟨p, xs, rfl, .inr h, q⟩
theorem app_ {l : Addr} {xs : List V} {y : V} (h : H l = some (.lst xs)) (z : xs.length < sizeLine) (q : Q .non (upd H l (.lst (xs ++ [y])))) : rAppend (.ref l) [y] H Q := ⟨l, xs, y, rfl, rfl, h, z, q⟩
theorem listof_ {p : Addr} {ys : List V} {A : List V → Prop} (h : SqL K H p ys) (q : A ys) : ∃ p' ys', [V.ref p] = [.ref p'] ∧ (SqL K H p' ys' ∨ SqT K H p' ys') ∧ A ys' := ⟨p, ys, rfl, .inl h, q⟩
theorem listofT_ {p : Addr} {ys : List V} {A : List V → Prop} (h : SqT K H p ys) (q : A ys) : ∃ p' ys', [V.ref p] = [.ref p'] ∧ (SqL K H p' ys' ∨ SqT K H p' ys') ∧ A ys' := ⟨p, ys, rfl, .inr h, q⟩
theorem tupleofT_ {p : Addr} {ys : List V} {A : List V → Prop} {B : Addr → Prop} (h : SqT K H p ys) (q : B p) : ∃ p' ys', [V.ref p] = [.ref p'] ∧ ((SqL K H p' ys' ∧ A ys') ∨ (SqT K H p' ys' ∧ B p')) := ⟨p, ys, rfl, .inr ⟨h, q⟩⟩
theorem eqD_ {x y : V} {d e : PyData} (hx : Dp K H x d) (hy : Dp K H y e) (hd : SeqAt.shaped d = true) (he : SeqAt.shaped e = true) (q : Q (.bl (PyData.eqv d e)) H) : rEqD K x y H Q := ⟨d, e, hx, hy, hd, he, q⟩
theorem neD_ {x y : V} {d e : PyData} (hx : Dp K H x d) (hy : Dp K H y e) (hd : SeqAt.shaped d = true) (he : SeqAt.shaped e = true) (q : Q (.bl (!PyData.eqv d e)) H) : rNeD K x y H Q := ⟨d, e, hx, hy, hd, he, q⟩
theorem wAs_ {c cls : Value} {i : Nat} {ts : Addr → Value → Option Addr → TS} {Wout : WX} {d : Option Addr} (e : PySem.W.exmOne K cls c = some true) (h : ∀ a, H a = none → ts a cls d { nx := fun σ' H' => D.nx (σ'.set i none) H', rt := D.rt, bk := fun σ' H' => D.bk (σ'.set i none) H', ct := fun σ' H' => D.ct (σ'.set i none) H' } (σ.set i (some (.ref a))) H) : wAs K c i ts Wout D cls d σ H := ⟨true, e, fun _ => h, fun z => by cases z⟩
theorem cat_ {l b : Addr} {xs zs : List V} (h : H l = some (.lst xs)) (k : H b = some (.lst zs)) (z : xs.length + zs.length ≤ sizeLine) (q : ∀ p, H p = none → Q (.ref p) (upd H p (.lst (xs ++ zs)))) : rCat (.ref l) (.ref b) H Q := ⟨l, b, xs, zs, rfl, rfl, h, k, z, q⟩
theorem intb_ {b : Bool} {A : Int → Prop} {B : Bool → Prop} (q : B b) : (∃ i, [V.bl b] = [.int i] ∧ A i) ∨ ∃ k, [V.bl b] = [.bl k] ∧ B k := .inr ⟨b, rfl, q⟩
theorem inti_ {i : Int} {A : Int → Prop} {B : Prop} (q : A i) : (∃ i', [V.int i] = [.int i'] ∧ A i') ∨ B := .inl ⟨i, rfl, q⟩
theorem b01 (b : Bool) : -(2 ^ 64) < (if b = true then (1 : Int) else 0) ∧ (if b = true then (1 : Int) else 0) < 2 ^ 64 := by cases b <;> decide
theorem rng1_ {ta : TA} {R : It → Hp → Prop} (h : ta σ H fun vs H1 => ∃ j : Int, vs = [.int j] ∧ -(2 ^ 62) ≤ j ∧ j < 2 ^ 62 ∧ R (Itr 0 j.toNat) H1) : iRng1 ta σ H R := h
theorem list_ {tl : TE} {R : It → Hp → Prop} (h : tl σ H fun x H1 => ∃ a, x = .ref a ∧ (∃ xs, SqL K H1 a xs) ∧ R (Itl K a) H1) : iList K tl σ H R := h
theorem itup_ {tl : TE} {R : It → Hp → Prop} (h : tl σ H fun x H1 => ∃ a, x = .ref a ∧ (∃ xs, SqT K H1 a xs) ∧ R (Itt K a) H1) : iTup K tl σ H R := h
theorem for_ {wi : TI} {g : TG} {tb : TS} (h : wi σ H fun J H1 => ∃ W : Nat → Nat → L2.St → Hp → Prop, (∃ m, W 0 m σ H1) ∧ ∀ i m σ H, W i m σ H →
  (J.stop i H ∧ D.nx σ H) ∨ (J.go i H ∧ ∃ N : L2.St → Hp → Prop, (∀ σ' H', N σ' H' → ∃ m', m' < m ∧ W (i + 1) m' σ' H') ∧ ∀ x H', J.yld i H x H' → g x σ H' fun σ2 H2 => tb { D with nx := N, ct := N, bk := D.nx } σ2 H2)) : tFor wi g tb D σ H := h
theorem lc_ {wi : TI} {g : TG} {tt : TT} {te : TE} {vs : List Nat} (h : wi σ H fun J H1 => ∀ D, H1 D = none → ∃ W : Nat → Nat → Hp → Prop, (∃ m, W 0 m (upd H1 D (.lst []))) ∧ ∀ i m H, W i m H →
  (J.stop i H ∧ Q (.ref D) H) ∨ (J.go i H ∧ ∃ Nx : Hp → Prop, (∀ H', Nx H' → ∃ m', m' < m ∧ W (i + 1) m' H') ∧ ∀ x H', J.yld i H x H' → g x (wipe σ vs) H' fun σ2 H2 => wipe σ2 vs = wipe σ vs ∧ tt σ2 H2 fun b H3 =>
    if b = true then te σ2 H3 fun y H4 => ∃ acc, H4 D = some (.lst acc) ∧ acc.length < sizeLine ∧ Nx (upd H4 D (.lst (acc ++ [y]))) else Nx H3)) : tLc wi g tt te vs σ H Q := h
theorem yes_ {A B : Hp → Prop} (h : A H) : tYes σ H (fun b H3 => if b = true then A H3 else B H3) := by
  show (if true = true then A H else B H)
  rw [if_pos rfl]
  exact h
theorem refNon {p : Addr} {A B : Prop} (h : B) : if decide (V.ref p = V.non) = true then A else B := by rw [if_neg (by intro z; have := of_decide_eq_true z; cases this)]; exact h
theorem nonNon {A B : Prop} (h : A) : if decide (V.non = V.non) = true then A else B := by rw [if_pos (decide_eq_true rfl)]; exact h
theorem line {n : Nat} (h : n ≤ 20000) : n < sizeLine := Nat.lt_of_lt_of_le (Nat.lt_of_le_of_lt h (by decide : 20000 < 100000)) (by decide)
theorem tyl_ {p : Addr} {xs : List V} {A : Prop} (h : SqL K H p xs) (q : A) : tyV K "list" (.ref p) H ∧ A := ⟨.inl ⟨rfl, xs, h⟩, q⟩
theorem tupleof_ {p : Addr} {ys : List V} {A : List V → Prop} {B : Addr → List V → Prop} (h : SqL K H p ys) (q : A ys) : ∃ p' ys', [V.ref p] = [.ref p'] ∧ ((SqL K H p' ys' ∧ A ys') ∨ B p' ys') := ⟨p, ys, rfl, .inl ⟨h, q⟩⟩
/-- a list of ints that grows at D, H0 without D -/
def IntsAt (H0 : Hp) (D : Addr) (Pr : Nat → Int → Prop) (i : Nat) (H : Hp) : Prop := Same H0 H ∧ ∃ zs : List Int, H D = some (.lst (zs.map V.int)) ∧ zs.length = i ∧ ∀ (k : Nat) (z : Int), zs[k]? = some z → Pr k z
theorem IntsAt.start {H0 : Hp} {D : Addr} {Pr : Nat → Int → Prop} (nD : H0 D = none) : IntsAt H0 D Pr 0 (upd H0 D (.lst [])) := ⟨newS nD rfl, [], upd_same, rfl, fun k z h => by simp at h⟩
theorem IntsAt.step {H0 H H4 : Hp} {D : Addr} {Pr : Nat → Int → Prop} {i : Nat} {z : Int} (nD : H0 D = none) (h : IntsAt H0 D Pr i H) (s : Same H H4) (hi : i < 10000) (pz : Pr i z) : ∃ acc, H4 D = some (.lst acc) ∧ acc.length < sizeLine ∧ IntsAt H0 D Pr (i + 1) (upd H4 D (.lst (acc ++ [.int z]))) := by
  obtain ⟨s0, zs, hD, hl, hp⟩ := h
  refine ⟨_, s _ _ hD, by rw [List.length_map]; exact line (by omega), mutS (s0.trans s) nD, zs ++ [z], by rw [upd_same, List.map_append]; rfl, by rw [List.length_append, hl]; rfl, fun k x hk => ?_⟩
  by_cases c : k < zs.length
  · rw [List.getElem?_append_left c] at hk
    exact hp k x hk
  · have hkl := (List.getElem?_eq_some_iff.mp hk).1
    rw [List.length_append, List.length_singleton] at hkl
    obtain rfl : k = zs.length := by omega
    rw [List.getElem?_append_right (Nat.le_refl _), Nat.sub_self] at hk
    cases hk
    rw [hl]
    exact pz
/-- entries that grow at D, H0 without D -/
def EntsG (H0 : Hp) (D : Addr) (Pe : Nat → OT.Ent → Prop) (i : Nat) (H : Hp) : Prop := Same H0 H ∧ ∃ (ws : List V) (es : List OT.Ent), H D = some (.lst ws) ∧ OT.Ents H ws es ∧ es.length = i ∧ ∀ (k : Nat) (e : OT.Ent), es[k]? = some e → Pe k e
theorem EntsG.start {H0 : Hp} {D : Addr} {Pe : Nat → OT.Ent → Prop} (nD : H0 D = none) : EntsG H0 D Pe 0 (upd H0 D (.lst [])) := ⟨newS nD rfl, [], [], upd_same, .nil, rfl, fun k z h => by simp at h⟩
theorem ne_ltup {a D : Addr} {xs l : List V} (h : H a = some (.tup xs)) (hD : H D = some (.lst l)) : a ≠ D := fun e => by
  rw [e, hD] at h
  cases h
theorem ents_upd {H : Hp} {D : Addr} {l l' : List V} {vs : List V} {es : List OT.Ent} (hD : H D = some (.lst l)) (h : OT.Ents H vs es) : OT.Ents (upd H D (.lst l')) vs es := by
  induction h with
  | nil => exact .nil
  | cons h1 _ ih =>
    obtain ⟨t, p, rfl, ht, hp⟩ := h1
    refine .cons ⟨t, p, rfl, ?_, ?_⟩ ih
    · rw [upd_ne (ne_ltup ht hD)]; exact ht
    · rw [upd_ne (ne_ltup hp hD)]; exact hp
theorem EntsG.step {H0 H H4 : Hp} {D : Addr} {Pe : Nat → OT.Ent → Prop} {i : Nat} {v : V} {e : OT.Ent} (nD : H0 D = none) (h : EntsG H0 D Pe i H) (s : Same H H4) (hi : i < 10000) (hv : OT.EntAt H4 v e) (pz : Pe i e) : ∃ acc, H4 D = some (.lst acc) ∧ acc.length < sizeLine ∧ EntsG H0 D Pe (i + 1) (upd H4 D (.lst (acc ++ [v]))) := by
  obtain ⟨s0, ws, es, hD, hE, hl, hp⟩ := h
  have hw := hE.len
  refine ⟨_, s _ _ hD, line (by omega), mutS (s0.trans s) nD, ws ++ [v], es ++ [e], upd_same, ents_upd (s _ _ hD) ((hE.mono s).app (.cons hv .nil)), by rw [List.length_append, hl]; rfl, fun k x hk => ?_⟩
  by_cases c : k < es.length
  · rw [List.getElem?_append_left c] at hk
    exact hp k x hk
  · have hkl := (List.getElem?_eq_some_iff.mp hk).1
    rw [List.length_append, List.length_singleton] at hkl
    obtain rfl : k = es.length := by omega
    rw [List.getElem?_append_right (Nat.le_refl _), Nat.sub_self] at hk
    cases hk
    rw [hl]
    exact pz
theorem atN {xs : List V} {k : Int} {j : Nat} {v : V} (e : k = (j : Int)) (h : xs[j]? = some v) : atI xs k = some v := by rw [e]; exact atI_nat h
end
end AU

set_option Elab.async false
set_option linter.all false
set_option maxRecDepth 100000
set_option maxHeartbeats 4000000
/-! xs.count(y) of a list of flat items -/
namespace OA
open PySem PySem.Spec PyProof.Rows PySem.W PySem.Calls L2
theorem count_vals {y : V} : ∀ {ys : List V} {its : List Value}, Vals ys its → ys.all flatV = true → its.countP (eqU y) = ys.countP fun z => eqV z y
  | [], _, .nil, _ => rfl
  | z :: r, _, .cons rz rt, f => by
    rw [List.all_cons, Bool.and_eq_true] at f
    rw [List.countP_cons, List.countP_cons, count_vals rt f.2, eqU_of rz f.1]
section
variable {X : Cx}
def rCntV (K : PySem.W.Frag) : V → List V → Hp → VK → Prop := fun x xs H Q => ∃ (p : Addr) (ys : List V) (y : V), x = .ref p ∧ xs = [y] ∧ SqL K H p ys ∧ flatV y = true ∧ ys.all flatV = true ∧ Q (.int ((ys.countP fun z => eqV z y : Nat) : Int)) H
theorem mt_lcountV : MtR X "list.count" (rCntV X.K) := by
  intro pins s σ H x xs v us Q I rx rxs h
  obtain ⟨p, ys, y, rfl, rfl, hs, fy, fys, q⟩ := h
  cases rx
  cases rxs with
  | cons ry rt =>
    rename_i uy ut
    cases rt
    obtain ⟨its, rv, ⟨⟨cls, dd, data, sl⟩, n, ho, hc, hdn, hd⟩, hlen⟩ := I.list hs
    simp only at hc hd
    subst hc hd
    refine call_meets PySem.F.slot_list_count ⟨_, ho, rfl⟩ PySem.F.entry_list_count (PySem.F.args_list_count_2 _ _)
      (SeqAt.list_countAt p its.toArray n dd sl uy (eqU y)) ⟨ho, fun u' hu' => mem_eqAt ry fy rv fys u' (by simpa using hu'), ?_⟩
    refine ⟨.int ((ys.countP fun z => eqV z y : Nat) : Int), H, I.tok _, ⟨s.toks, ?_⟩, q⟩
    show Value.int ((its.toArray.toList.countP (eqU y) : Nat) : Int) s.toks = Value.int ((ys.countP fun z => eqV z y : Nat) : Int) s.toks
    have e : its.toArray.toList = its := rfl
    rw [e, count_vals rv fys]
end
end OA

set_option Elab.async false
set_option linter.all false
set_option maxRecDepth 100000
set_option maxHeartbeats 2000000
/-! data in the heap: kept where the heap grows; what is shaped -/
namespace OT
open PySem PySem.Spec PyProof.Rows L2
theorem same_tD {K : PySem.W.Frag} {H H' : Hp} {a : Addr} {xs : List V} (e : Same H H') (h : SqT K H a xs) : SqT K H' a xs := by
  rcases h with (h | ⟨o, h⟩) | h
  · exact .inl (.inl (e _ _ h))
  · exact .inl (.inr ⟨o, e _ _ h⟩)
  · exact .inr h
mutual
theorem Dp.mono {K : PySem.W.Frag} {H H' : Hp} (s : Same H H') : ∀ {v : V} {d : PyData}, Dp K H v d → Dp K H' v d
  | _, _, .non => .non
  | _, _, .bl b => .bl b
  | _, _, .int i => .int i
  | _, _, .str x => .str x
  | _, _, .lst h1 h2 => .lst (s.seq h1) (DpAll.mono s h2)
  | _, _, .tup h1 h2 => .tup (same_tD s h1) (DpAll.mono s h2)
theorem DpAll.mono {K : PySem.W.Frag} {H H' : Hp} (s : Same H H') : ∀ {vs : List V} {ds : List PyData}, DpAll K H vs ds → DpAll K H' vs ds
  | _, _, .nil => .nil
  | _, _, .cons h1 h2 => .cons (Dp.mono s h1) (DpAll.mono s h2)
end
theorem DpAll.len {K : PySem.W.Frag} {H : Hp} {vs : List V} {ds : List PyData} (h : DpAll K H vs ds) : vs.length = ds.length := by
  induction vs generalizing ds with
  | nil =>
    cases h
    rfl
  | cons v r ih =>
    cases h with
    | cons _ h2 => rw [List.length_cons, List.length_cons, ih h2]
theorem DpAll.snoc {K : PySem.W.Frag} {H : Hp} {v : V} {d : PyData} : ∀ {vs : List V} {ds : List PyData}, DpAll K H vs ds → Dp K H v d → DpAll K H (vs ++ [v]) (ds ++ [d])
  | [], _, h, k => by
    cases h
    exact .cons k .nil
  | _ :: r, _, h, k => by
    cases h with
    | cons h1 h2 => exact .cons h1 (DpAll.snoc h2 k)
/-- data that is shaped, of a depth -/
structure DOk (n : Nat) (d : PyData) : Prop where
  lay : d.canLay0 = true
  dep : d.depth ≤ n
theorem DOk.le {n m : Nat} {d : PyData} (h : DOk n d) (k : n ≤ m) : DOk m d := ⟨h.lay, Nat.le_trans h.dep k⟩
theorem layAll {ds : List PyData} {n : Nat} : (∀ d ∈ ds, DOk n d) → PyData.canLayAll0 ds = true ∧ PyData.depthAll ds ≤ n := by
  induction ds with
  | nil =>
    intro _
    exact ⟨by simp only [PyData.canLayAll0], by simp only [PyData.depthAll]; omega⟩
  | cons d r ih =>
    intro h
    obtain ⟨h1, h2⟩ := ih fun x hx => h x (List.mem_cons_of_mem _ hx)
    have hd := h d List.mem_cons_self
    refine ⟨?_, ?_⟩
    · simp only [PyData.canLayAll0, hd.lay, h1, Bool.and_self]
    · have := hd.dep
      simp only [PyData.depthAll]
      omega
theorem DOk.list {n : Nat} {ds : List PyData} (h : ∀ d ∈ ds, DOk n d) : DOk (n + 1) (.list ds) := by
  obtain ⟨h1, h2⟩ := layAll h
  exact ⟨h1, by simp only [PyData.depth]; omega⟩
theorem DOk.tuple {n : Nat} {ds : List PyData} (h : ∀ d ∈ ds, DOk n d) : DOk (n + 1) (.tuple ds) := by
  obtain ⟨h1, h2⟩ := layAll h
  exact ⟨h1, by simp only [PyData.depth]; omega⟩
theorem DOk.int (i : Int) : DOk 1 (.int i) := ⟨rfl, by simp only [PyData.depth]; omega⟩
theorem DOk.shaped {n : Nat} {d : PyData} (h : DOk n d) (hn : n ≤ 64) : SeqAt.shaped d = true := by
  unfold SeqAt.shaped
  rw [h.lay, Bool.true_and]
  exact decide_eq_true (Nat.le_trans h.dep hn)
theorem eqvD {d : PyData} (h : SeqAt.shaped d = true) : PyData.eqv d d = true := SeqAt.eqv_refl _ (SeqAt.canLay_of_shaped h)
theorem DOk.pl (k : Pl) : DOk 2 (.tuple (k.map PyData.int)) := DOk.tuple fun d hd => by
  obtain ⟨x, _, rfl⟩ := List.mem_map.mp hd
  exact DOk.int x
theorem DOk.ent (e : Ent) : DOk 3 (dEnt e) := DOk.tuple (n := 2) fun d hd => by
  rcases List.mem_cons.mp hd with rfl | hd
  · exact DOk.pl e.1
  · rcases List.mem_cons.mp hd with rfl | hd
    · exact (DOk.int _).le (by decide)
    · cases hd
theorem DOk.row (es : List Ent) : DOk 4 (dRow es) := DOk.list fun d hd => by
  obtain ⟨x, _, rfl⟩ := List.mem_map.mp hd
  exact DOk.ent x
/-- places as data -/
def dMat (M : List Pl) : PyData := .list (M.map fun l => .tuple (l.map PyData.int))
theorem DOk.mat (M : List Pl) : DOk 3 (dMat M) := DOk.list fun d hd => by
  obtain ⟨x, _, rfl⟩ := List.mem_map.mp hd
  exact DOk.pl x
theorem DOk.ints (ns : List Int) : DOk 2 (.list (ns.map PyData.int)) := DOk.list fun d hd => by
  obtain ⟨x, _, rfl⟩ := List.mem_map.mp hd
  exact DOk.int x
end OT

set_option Elab.async false
set_option linter.all false
set_option maxRecDepth 100000
set_option maxHeartbeats 4000000
/-! a held error: isinstance, fields, calls with it -/
namespace OT
open PySem PySem.Spec PyProof.Rows L2
def rIsX (K : PySem.W.Frag) (a : Addr) (c : Value) (d : Option Addr) : List V → Hp → VK → Prop := fun xs H Q => ∃ (C dd : Addr) (fs : List (Str × V)) (y : V) (u : Value) (b : Bool),
    xs = [.ref a, y] ∧ c = .ref C ∧ d = some dd ∧ PySem.W.OtCls K C ∧ H dd = some (.xd fs) ∧ ClsV y u ∧ PySem.W.kitOne K (.ref C) u = some b ∧ Q (.bl b) H
theorem call_isA {X : Cx} {a : Addr} {oe : Obj} {c : Value} {d : Option Addr} (hp : (a, oe) ∈ X.pn) (zc : Zc c d oe) (fld : ∃ fs, oe.data = .fields fs) : CallR X (.builtin "isinstance") (rIsX X.K a c d) := call_isX (p := (a, oe)) hp zc fld
def tCallE (sp : SpE) (a : Addr) (c : Value) (d : Option Addr) (t : TA) : TE := fun σ H Q => t σ H fun vs H1 => sp a c d vs H1 Q E0
theorem pe_callA {X : Cx} {a : Addr} {oe : Obj} {c : Value} {d : Option Addr} {k : Nat} {f : Addr} {fd : FuncData} {ps : List Str} {sp : SpE} {x : Str} {q pos : Pos} {e : Expr} {es : List Expr} {t : TA} (F : FnE X.prog X.w X.K X.mg X.base k f fd ps sp) (hr : L2H.RoomH k X.A) (hp : (a, oe) ∈ X.pn) (zc : Zc c d oe) (fld : ∃ fs, oe.data = .fields fs) (hg : Gl X x) (hm : X.mg x = some (.ref f)) (hk : PySem.W.keepIn X.K (.ref f) = true) (hb : Binds X.K fd ps [])
    (ha : PA X (e :: es) t) (hdb : (x == ("__debug__" : Str)) = false := by decide) (he : starEach (e :: es) X.env = (false, eval e X.env) :: starEach es X.env := by rfl) (hpl : (backTo pos (starEach es X.env)).any (·.1) = false := by rfl) :
    PE X (.Call (.Name x q) (e :: es) [] pos) (tCallE sp a c d t) := pe_callE (p := (a, oe)) F hr hp zc fld hg hm hk hb ha hdb he hpl
def tFA (K : PySem.W.Frag) (a : Addr) (c : Value) (d : Option Addr) (n : Str) (te : TE) : TE := fun σ H Q => te σ H fun y H1 => ∃ (C dd : Addr) (fs : List (Str × V)) (v : V), y = .ref a ∧ c = .ref C ∧ d = some dd ∧ PySem.W.OtCls K C ∧ PySem.W.findIn K (.ref C) n = some none ∧ H1 dd = some (.xd fs) ∧ fs.lookup n = some v ∧ Q v H1
theorem pe_fA {X : Cx} {a : Addr} {oe : Obj} {c : Value} {d : Option Addr} {n : Str} {e : Expr} {te : TE} {pos : Pos} (hp : (a, oe) ∈ X.pn) (zc : Zc c d oe) (fld : ∃ fs, oe.data = .fields fs) (he : PE X e te) (hb : attributeBase e n X.env (eval e X.env) = eval e X.env := by rfl) :
    PE X (.Attribute e n pos) (tFA X.K a c d n te) := pe_fX (p := (a, oe)) hp zc fld he hb
structure HeldF (K : PySem.W.Frag) (H : Hp) (C dd : Addr) (c : Value) (d : Option Addr) (fs : List (Str × V)) : Prop where
  c : c = .ref C
  d : d = some dd
  t : PySem.W.OtCls K C
  h : H dd = some (.xd fs)
structure KitE (K : PySem.W.Frag) (B C : Addr) : Prop where
  b : PySem.W.kitOne K (.ref C) (.ref B) = some true
  v : PySem.W.kitOne K (.ref C) (.type "ValueError") = some true
theorem roomH_m {k : Nat} {A : Around} {v : Option Value} (r : Room k A) : L2H.RoomH k (A.mark v) := ⟨r.dp, r.un⟩
theorem HeldF.mono {K : PySem.W.Frag} {H H' : Hp} {C dd : Addr} {c : Value} {d : Option Addr} {fs : List (Str × V)} (s : Same H H') (h : HeldF K H C dd c d fs) : HeldF K H' C dd c d fs := { h with h := s _ _ h.h }
theorem isX_ {K : PySem.W.Frag} {a : Addr} {c : Value} {d : Option Addr} {H : Hp} {Q : VK} {C dd : Addr} {fs : List (Str × V)} {y : V} {u : Value} {b : Bool} (h : HeldF K H C dd c d fs) (v : ClsV y u) (k : PySem.W.kitOne K (.ref C) u = some b) (q : Q (.bl b) H) : rIsX K a c d [.ref a, y] H Q := ⟨C, dd, fs, y, u, b, rfl, h.c, h.d, h.t, h.h, v, k, q⟩
theorem fA_ {K : PySem.W.Frag} {a : Addr} {c : Value} {d : Option Addr} {n : Str} {te : TE} {σ : L2.St} {H : Hp} {Q : VK} (h : te σ H fun y H1 => ∃ (C dd : Addr) (fs : List (Str × V)) (v : V), y = .ref a ∧ c = .ref C ∧ d = some dd ∧ PySem.W.OtCls K C ∧ PySem.W.findIn K (.ref C) n = some none ∧ H1 dd = some (.xd fs) ∧ fs.lookup n = some v ∧ Q v H1) : tFA K a c d n te σ H Q := h
theorem fB_ {K : PySem.W.Frag} {a : Addr} {c : Value} {d : Option Addr} {n : Str} {H : Hp} {A : V → Prop} {C dd : Addr} {fs : List (Str × V)} {v : V} (h : HeldF K H C dd c d fs) (f : PySem.W.findIn K (.ref C) n = some none) (l : fs.lookup n = some v) (q : A v) : ∃ (C dd : Addr) (fs : List (Str × V)) (v : V), V.ref a = .ref a ∧ c = .ref C ∧ d = some dd ∧ PySem.W.OtCls K C ∧ PySem.W.findIn K (.ref C) n = some none ∧ H dd = some (.xd fs) ∧ fs.lookup n = some v ∧ A v := ⟨C, dd, fs, v, rfl, h.c, h.d, h.t, f, h.h, l, q⟩
theorem callE_ {sp : SpE} {a : Addr} {c : Value} {d : Option Addr} {t : TA} {σ : L2.St} {H : Hp} {Q : VK} (h : t σ H fun vs H1 => sp a c d vs H1 Q E0) : tCallE sp a c d t σ H Q := h
theorem isi_ {K : PySem.W.Frag} {H : Hp} {Q : VK} {x c : V} {t u : Value} {b : Bool} (hc : ClsV c u) (hx : TyX K H x t) (hk : PySem.W.kitOne K t u = some b) (q : Q (.bl b) H) : rIsi K [x, c] H Q := ⟨x, c, t, u, b, rfl, hc, hx, hk, q⟩
theorem isin_ {K : PySem.W.Frag} {H : Hp} {Q : VK} {x c : V} {t u : Value} {b : Bool} (hc : ClsV c u) (hx : TyX K H x t) (hk : PySem.W.kitOne K t u = some b) (q : Q (.bl b) H) : ∃ (x' c' : V) (t' u' : Value) (b' : Bool), [x, c] = [x', c'] ∧ ClsV c' u' ∧ TyX K H x' t' ∧ PySem.W.kitOne K t' u' = some b' ∧ Q (.bl b') H := ⟨x, c, t, u, b, rfl, hc, hx, hk, q⟩
theorem kt {K : PySem.W.Frag} {a b : String} {r : Bool} (h : kitB a b = some r) : PySem.W.kitOne K (.type a) (.type b) = some r := kit_ty h
theorem kq_int_int : kitB "int" "int" = some true := by decide +kernel
theorem kq_int_bool : kitB "int" "bool" = some false := by decide +kernel
theorem kq_bool_bool : kitB "bool" "bool" = some true := by decide +kernel
theorem kq_bool_int : kitB "bool" "int" = some true := by decide +kernel
theorem kq_str_str : kitB "str" "str" = some true := by decide +kernel
theorem kq_tuple_tuple : kitB "tuple" "tuple" = some true := by decide +kernel
theorem kq_list_list : kitB "list" "list" = some true := by decide +kernel
theorem kq_list_tuple : kitB "list" "tuple" = some false := by decide +kernel
theorem kq_tuple_list : kitB "tuple" "list" = some false := by decide +kernel
theorem kq_list_int : kitB "list" "int" = some false := by decide +kernel
theorem kq_tuple_int : kitB "tuple" "int" = some false := by decide +kernel
theorem kq_list_bool : kitB "list" "bool" = some false := by decide +kernel
theorem kq_tuple_bool : kitB "tuple" "bool" = some false := by decide +kernel
theorem kq_str_int : kitB "str" "int" = some false := by decide +kernel
theorem kq_int_str : kitB "int" "str" = some false := by decide +kernel
theorem kq_int_list : kitB "int" "list" = some false := by decide +kernel
theorem kq_int_tuple : kitB "int" "tuple" = some false := by decide +kernel
theorem kq_bool_list : kitB "bool" "list" = some false := by decide +kernel
theorem kq_bool_tuple : kitB "bool" "tuple" = some false := by decide +kernel
end OT

set_option Elab.async false
set_option linter.all false
set_option maxRecDepth 100000
set_option maxHeartbeats 4000000
namespace OT
open PySem PySem.Spec PyProof.Rows L2
local macro_rules | `(tactic| walk_at "sm") => `(tactic| first | assumption | exact AU.mutS (by walk_at "sm") (by assumption))
local macro_rules | `(tactic| walk_at "le") => `(tactic| first | (refine Nat.le_of_lt (AU.line ?_); (try simp only [List.length_append, List.length_map, List.length_cons, List.length_nil, List.length_take, List.length_replicate]); omega))
local macro_rules | `(tactic| walk_at "ll") => `(tactic| first | (show 0 < sizeLine; decide) | (show 1 < sizeLine; decide) | (show 2 < sizeLine; decide) | (show 3 < sizeLine; decide) | (refine AU.line ?_; (try simp only [List.length_append, List.length_map, List.length_cons, List.length_nil, List.length_take, List.length_replicate]); omega))
local macro_rules | `(tactic| walk_at "hl") => `(tactic| first | assumption | exact upd_same | exact AU.climb (by walk_at "sm") (by walk_at "hl"))
local macro_rules | `(tactic| walk_at "sl") => `(tactic| first | assumption | exact AU.sqL (by walk_at "hl") | exact AU.sqLS (by walk_at "sm") (by walk_at "sl"))
local macro_rules | `(tactic| walk_at "tl") => `(tactic| first | assumption | exact AU.sqT (by walk_at "hl") | exact AU.sqTS (by walk_at "sm") (by walk_at "tl"))
local macro_rules | `(tactic| walk_at "sz") => `(tactic| first | (show 0 ≤ sizeLine; decide) | (show 1 ≤ sizeLine; decide) | (show 2 ≤ sizeLine; decide) | (show 3 ≤ sizeLine; decide) | (show 4 ≤ sizeLine; decide) | (show 5 ≤ sizeLine; decide) | (show 6 ≤ sizeLine; decide) | (show 7 ≤ sizeLine; decide) | (show 8 ≤ sizeLine; decide) | (show 9 ≤ sizeLine; decide) | (show 10 ≤ sizeLine; decide))
local macro_rules | `(tactic| walk_at "ci") => `(tactic| first | exact trivial | omega | (show (0 : Int) < _; omega) | (show CMul _ _; exact .inl ⟨by omega, by omega⟩) | (show CMul _ _; exact .inr ⟨by omega, by omega⟩) | (show CMul _ _; exact .inr (AU.b01 _)) | (show CMul _ _; exact .inl (AU.b01 _)) | (show CDiv _ _; exact ⟨by omega, by omega⟩) | (show _ ≠ (0 : Int); omega) | (show CDiv _ _; exact ⟨by decide, by decide⟩))
local macro_rules | `(tactic| walk_at "hh") => `(tactic| first | assumption | exact OT.HeldF.mono (by walk_at "sm") (by walk_at "hh"))
local macro_rules | `(tactic| walk_at "tyx") => `(tactic| first | exact .base (.int _) | exact .base (.bl _) | exact .base (.str _) | exact .base (.lst (by walk_at "hl")) | exact .base (.tup (by walk_at "hl")))
local macro_rules | `(tactic| walk_at "st1") => `(tactic| first | ((with_reducible show tSeq _ _ _ _ _); (try simp only [List.set_cons_zero, List.set_cons_succ]); refine AU.seq_ ?_) | ((with_reducible show tAsg _ _ _ _ _); refine AU.asg_ ?_) | ((with_reducible show gName _ _ _ _ _); refine AU.name_ ?_) | ((with_reducible show tDrop _ _ _ _); refine AU.drop_ ?_) | ((with_reducible show tRet _ _ _ _); refine AU.ret_ ?_) | ((with_reducible show tRetN _ _ _); refine AU.retN_ ?_) | ((with_reducible show tNext _ _ _); refine AU.next_ ?_) | ((with_reducible show tBreak _ _ _); refine AU.brk_ ?_) | ((with_reducible show tCont _ _ _); refine AU.cont_ ?_) | ((with_reducible show tIfS _ _ _ _ _ _); refine AU.ifs_ ?_) | ((with_reducible show tAug _ _ _ _ _ _); refine AU.aug_ rfl ?_) | ((with_reducible show Ends.nx (Ends.mk _ _ _ _) _ _); refine AU.nxm ?_) | ((with_reducible show Ends.rt (Ends.mk _ _ _ _) _ _); refine AU.rtm ?_) | ((with_reducible show Ends.bk (Ends.mk _ _ _ _) _ _); refine AU.bkm ?_) | ((with_reducible show Ends.ct (Ends.mk _ _ _ _) _ _); refine AU.ctm ?_) | ((with_reducible show tVar _ _ _ _); refine AU.var_ rfl ?_) | ((with_reducible show tC _ _ _ _); refine AU.c_ ?_) | ((with_reducible show tOp _ _ _ _ _ _); refine AU.op_ ?_) | ((with_reducible show tUn _ _ _ _ _); refine AU.un_ ?_) | ((with_reducible show rU _ _ _ _); refine AU.u_ ?_) | ((with_reducible show rI0 _ _ _ _ _); refine AU.i0_ ?_) | ((with_reducible show rI _ _ _ _ _ _); refine AU.i_ (by walk_at "ci") ?_) | ((with_reducible show rEq (V.int _) (V.int _) _ _); first | (with_reducible refine AU.eqr_ ?_) | refine AU.eqi_ ?_) | ((with_reducible show rEq (V.str _) (V.str _) _ _); (with_reducible refine AU.eqs_ ?_)) | ((with_reducible show rNe (V.int _) (V.int _) _ _); refine AU.nei_ ?_) | ((with_reducible show rEq _ _ _ _); refine AU.eq_ rfl ?_) | ((with_reducible show rNe _ _ _ _); refine AU.ne_ rfl ?_) | ((with_reducible show tTest _ _ _ _); refine AU.test_ ?_) | ((with_reducible show tB _ _ _ _); refine AU.b_ ?_) | ((with_reducible show tAnd _ _ _ _ _); refine AU.and_ ?_) | ((with_reducible show tOr _ _ _ _ _); refine AU.or_ ?_) | ((with_reducible show tNot _ _ _ _); refine AU.not_ ?_) | ((with_reducible show tAndV _ _ _ _ _); refine AU.andV_ ?_) | ((with_reducible show tOrV _ _ _ _ _); refine AU.orV_ ?_) | ((with_reducible show tNotV _ _ _ _); refine AU.notV_ ?_) | ((with_reducible show tIf _ _ _ _ _ _); refine AU.if_ ?_) | ((with_reducible show tNil _ _ _); refine AU.nil_ ?_) | ((with_reducible show tCons _ _ _ _ _); refine AU.cons_ ?_) | ((with_reducible show tLst _ _ _ _); refine AU.lst_ ?_) | ((with_reducible show tTup _ _ _ _); refine AU.tup_ ?_) | ((with_reducible show tCall _ _ _ _ _ _ _); refine AU.call_ ?_) | ((with_reducible show tCallS _ _ _ _ _ _); refine AU.callS_ ?_) | ((with_reducible show tCB _ _ _ _ _); refine AU.cb_ ?_) | ((with_reducible show tBM _ _ _ _ _ _ _ _); refine AU.bm_ ?_) | ((with_reducible show rIxL _ _ _ _ _); refine AU.ixL_ (by walk_at "sl") (by first | assumption | rfl) ?_) | ((with_reducible show rIxT _ _ _ _ _); refine AU.ixT_ (by walk_at "tl") (by first | assumption | rfl) ?_) | ((with_reducible show Evl.rLenS _ _ _ _); first | refine AU.lenL_ (by walk_at "sl") ?_ | refine AU.lenT_ (by walk_at "tl") ?_) | ((with_reducible show rAppend (V.ref _) [_] _ _); refine AU.app_ (by walk_at "hl") (by walk_at "ll") ?_) | ((with_reducible show tyV _ _ (V.ref _) _ ∧ _); refine AU.tyl_ (by walk_at "sl") ?_) | ((with_reducible show rCat (V.ref _) (V.ref _) _ _); refine AU.cat_ (by walk_at "hl") (by walk_at "hl") (by walk_at "le") ?_) | ((with_reducible show tFor _ _ _ _ _ _); refine AU.for_ ?_) | ((with_reducible show tLc _ _ _ _ _ _ _ _); refine AU.lc_ ?_) | ((with_reducible show iRng1 _ _ _ _); refine AU.rng1_ ?_) | ((with_reducible show iList _ _ _ _ _); refine AU.list_ ?_) | ((with_reducible show iTup _ _ _ _ _); refine AU.itup_ ?_) | ((with_reducible show (∃ i, [V.bl _] = [V.int i] ∧ _) ∨ _); refine AU.intb_ ?_) | ((with_reducible show (∃ i, [V.int _] = [V.int i] ∧ _) ∨ _); refine AU.inti_ ?_) | ((with_reducible show tYes _ _ _); refine AU.yes_ ?_) | ((with_reducible show ∃ p ys, [V.ref _] = [V.ref p] ∧ (SqL _ _ p ys ∨ SqT _ _ p ys) ∧ _); first | refine AU.listof_ (by walk_at "sl") ?_ | refine AU.listofT_ (by walk_at "tl") ?_) | ((with_reducible show ∃ p ys, [V.ref _] = [V.ref p] ∧ ((SqL _ _ p ys ∧ _) ∨ (SqT _ _ p ys ∧ _))); first | refine AU.tupleof_ (by walk_at "sl") ?_ | refine AU.tupleofT_ (by walk_at "tl") ?_) | ((with_reducible show V.non = V.non ∧ _); refine ⟨rfl, ?_⟩) | ((with_reducible show OT.rIsX _ _ _ _ [V.ref _, _] _ _); refine OT.isX_ (by walk_at "hh") (by first | exact .own _ | exact .ty _) (by assumption) ?_) | ((with_reducible show OT.tFA _ _ _ _ _ _ _ _ _); refine OT.fA_ ?_) | ((with_reducible show OT.tCallE _ _ _ _ _ _ _ _); refine OT.callE_ ?_) | ((with_reducible show rIsi _ [_, _] _ _); refine OT.isi_ (by first | exact .own _ | exact .ty _) (by walk_at "tyx") (by first | assumption | exact kit_ty OT.kq_int_int | exact kit_ty OT.kq_int_bool | exact kit_ty OT.kq_bool_bool | exact kit_ty OT.kq_bool_int | exact kit_ty OT.kq_str_str | exact kit_ty OT.kq_tuple_tuple | exact kit_ty OT.kq_list_list | exact kit_ty OT.kq_list_tuple | exact kit_ty OT.kq_tuple_list | exact kit_ty OT.kq_list_int | exact kit_ty OT.kq_tuple_int | exact kit_ty OT.kq_list_bool | exact kit_ty OT.kq_tuple_bool | exact kit_ty OT.kq_str_int | exact kit_ty OT.kq_int_str | exact kit_ty OT.kq_int_list | exact kit_ty OT.kq_int_tuple | exact kit_ty OT.kq_bool_list | exact kit_ty OT.kq_bool_tuple) ?_) | ((with_reducible show ∃ k, V.bl _ = V.bl k ∧ _); refine AU.bool_ ?_) | ((with_reducible refine AU.trueT ?_)) | ((with_reducible refine AU.refNon ?_)) | ((with_reducible refine AU.nonNon ?_)) | ((with_reducible refine AU.trueN ?_)) | ((with_reducible refine AU.falseN ?_)) | ((with_reducible refine AU.falseF ?_)))
local macro_rules | `(tactic| walk_at "st") => `(tactic| repeat walk_at "st1")
/-- a quotient that is there -/
structure QS (R FF S : List Ent) (m : Nat) : Prop where
  v : Valid S
  d : DimN m S
  e : ∀ q, numAt R q = numAt (timesL FF S) q
  z : FF.length * S.length < 2000
  l : S.length ≤ 1000
  nb : ∀ g ∈ S, -(2 ^ 64) < g.2 ∧ g.2 < 2 ^ 64
  c : ∀ e ∈ S, ∀ x ∈ e.1, x.natAbs ≤ 1000000
theorem mirP_dim {n : Nat} {es : List Ent} (h : DimN n es) : DimN n (mirP es) := fun e he => by
  obtain ⟨y, hy, rfl⟩ := List.mem_map.mp he
  show (negP y.1).length = n
  rw [negP_len, h y (List.mem_reverse.mp hy)]
theorem mirP_len (es : List Ent) : (mirP es).length = es.length := by
  unfold mirP
  rw [List.length_map, List.length_reverse]
theorem mirP_c {C : Nat} {es : List Ent} (h : ∀ e ∈ es, ∀ x ∈ e.1, x.natAbs ≤ C) : ∀ e ∈ mirP es, ∀ x ∈ e.1, x.natAbs ≤ C := fun e he x hx => by
  obtain ⟨y, hy, rfl⟩ := List.mem_map.mp he
  obtain ⟨z, hz, rfl⟩ := List.mem_map.mp hx
  have := h y (List.mem_reverse.mp hy) z hz
  omega
theorem mirP_u {P : Int → Prop} {es : List Ent} (h : ∀ e ∈ es, P e.2) : ∀ e ∈ mirP es, P e.2 := fun e he => by
  obtain ⟨y, hy, rfl⟩ := List.mem_map.mp he
  exact h y (List.mem_reverse.mp hy)
theorem mirP_nil {es : List Ent} : mirP es = [] ↔ es = [] := by
  unfold mirP
  rw [List.map_eq_nil_iff, List.reverse_eq_nil_iff]
section
variable {P : Program} {w : World} {K : PySem.W.Frag} {mg : Str → Option Value} {base : Heap}
def spFlip (K : PySem.W.Frag) (M Z N : Addr) : Sp := fun vs H Q E => ∃ (a b : Addr) (xs ys : List V) (R FF : List Ent) (n m C : Nat) (U : List Pl), vs = [.ref a, .ref b] ∧ QuoR K H a b xs ys R FF n m C U ∧
  (mixB R FF = true → ∀ d H', Same H H' → H' d = some (.xd errM) → E (.ref M) (some d) H') ∧
  (mixB R FF = false → FF = [] → ∀ d H', Same H H' → H' d = some (.xd errZ) → E (.ref Z) (some d) H') ∧
  (mixB R FF = false → FF ≠ [] → (¬ Fac R FF m ∧ ∀ d H', Same H H' → H' d = some (.xd errNF) → E (.ref N) (some d) H') ∨ ∃ S, QS R FF S m ∧ wantRow H (timesL (mirL FF) S) Q)
theorem ok_flip {f M Z N fQ fX : Addr} {fd fdQ fdX : FuncData} (D : C8.Def K mg "flip" s_flip f fd) (T : Bi mg)
    (DQ : C8.Def K mg "quotient" s_quotient fQ fdQ) (bQ : Binds K fdQ ["row", "factor"] []) (GQ : FnOk P w K mg base (L2.CX P w) 6 fQ fdQ ["row", "factor"] (spQuo K M Z N))
    (DX : C8.Def K mg "multiply" s_multiply fX fdX) (bX : Binds K fdX ["first", "second"] []) (GX : FnOk P w K mg base (L2.CX P w) 5 fX fdX ["first", "second"] (spMul K M))
    (c_mirror : C8.Cal P w K mg base 1 "mirror" spMirror []) : FnOk P w K mg base (L2.CX P w) 7 f fd ["row", "factor"] (spFlip K M Z N) := by
  obtain ⟨oc, od, dV, kV, doc, pm, an, cdv, ct, osl, rfl, lk, hcd⟩ := D.fn.ex
  refine fn_of lk hcd sc_flip (fun vs H Q E h => ?_) fun A outer s H vs Q E hr h => ?_
  · obtain ⟨a, b, xs, ys, R, FF, n, m, C, U, rfl, _⟩ := h
    rfl
  · obtain ⟨a, b, xs, ys, R, FF, n, m, C, U, rfl, hD, qM, qZ, qQ⟩ := h
    refine ⟨_, (pss_one (ps_ret (pe_callS (GX.mono (by decide : 5 ≤ 6)) hr rfl DX.mgf DX.kp bX (fun σ => passAt (takes_of rfl rfl rfl rfl) σ) (pa_cons (C8.pe_c c_mirror hr (by decide) (by rfl) (pa_cons (pv 1) pa_nil)) (pa_cons (pe_callS GQ hr rfl DQ.mgf DQ.kp bQ (fun σ => passAt (takes_of rfl rfl rfl rfl) σ) (pa_cons (pv 0) (pa_cons (pv 1) pa_nil))) pa_nil))))), ?_⟩
    walk_at "st"
    have hm0 := hD.m0
    have hm3 := hD.m3
    refine ⟨b, ys, FF, rfl, hD.hb, hD.g, hD.zF, fun e he => by rw [hD.dF e he]; omega, fun p ws H1 s1 np hp hE => ?_⟩
    walk_at "st"
    have D1 : QuoR K H1 a b xs ys R FF n m C U := { hD with ha := s1 _ _ hD.ha, hb := s1 _ _ hD.hb, e := hD.e.mono s1, g := hD.g.mono s1 }
    refine ⟨a, b, xs, ys, R, FF, n, m, C, U, rfl, D1, fun hm d H2 s2 hd => qM hm d H2 (s1.trans s2) hd, fun hm hF d H2 s2 hd => qZ hm hF d H2 (s1.trans s2) hd, fun hm hF hN d H2 s2 hd => ?_, fun hm hF S vS dS eS p2 ws2 H2 s2 np2 hp2 hE2 => ?_⟩
    · rcases qQ hm hF with ⟨_, q⟩ | ⟨S, hQ, _⟩
      · exact q d H2 (s1.trans s2) hd
      · exact absurd ⟨S, hQ.d, hQ.e⟩ hN
    · rcases qQ hm hF with ⟨hn, _⟩ | ⟨S', hQ, q⟩
      · exact absurd ⟨S, dS, eS⟩ hn
      have hSS : S = S' := quot_one hD.vF vS hQ.v hD.dF dS hQ.d hF fun q => by rw [← eS, hQ.e]
      subst hSS
      walk_at "st"
      refine ⟨p, p2, ws, ws2, mirP FF, S, m, m, 1000000, rfl, ⟨s2 _ _ hp, hp2, hE.mono s2, hE2, by rw [mirP_len]; exact hD.zF, hQ.l, mirP_dim hD.dF, dS, hm3, hm3, fun e he x hx => Nat.le_trans (mirP_c hD.cF e he x hx) hD.c, fun e he x hx => hQ.c e he x hx, Nat.le_refl _⟩, by rw [mirP_len]; exact hQ.z, hQ.nb, fun hm => ?_, fun _ => ⟨fun _ _ => rfl, ?_⟩⟩
      · rw [mixD, mixB_same (n := m) (m := m) (fun _ _ => rfl) (mirP_dim hD.dF) dS] at hm
        cases hm
      · refine wantRow.mono (s1.trans s2) fun r p3 ws3 H3 hr s3 np3 hp3 hE3 => q r p3 ws3 H3 ⟨hr.v, fun k => ?_⟩ s3 np3 hp3 hE3
        rw [hr.s, timesL_eq1 S (mirP_is hD.vF hD.dF).s]
end
end OT

set_option Elab.async false
set_option linter.all false
set_option maxRecDepth 100000
set_option maxHeartbeats 4000000
namespace OT
open PySem PySem.Spec PyProof.Rows L2
local macro_rules | `(tactic| walk_at "sm") => `(tactic| first | assumption | exact AU.mutS (by walk_at "sm") (by assumption))
local macro_rules | `(tactic| walk_at "le") => `(tactic| first | (refine Nat.le_of_lt (AU.line ?_); (try simp only [List.length_append, List.length_map, List.length_cons, List.length_nil, List.length_take, List.length_replicate]); omega))
local macro_rules | `(tactic| walk_at "ll") => `(tactic| first | (show 0 < sizeLine; decide) | (show 1 < sizeLine; decide) | (show 2 < sizeLine; decide) | (show 3 < sizeLine; decide) | (refine AU.line ?_; (try simp only [List.length_append, List.length_map, List.length_cons, List.length_nil, List.length_take, List.length_replicate]); omega))
local macro_rules | `(tactic| walk_at "hl") => `(tactic| first | assumption | exact upd_same | exact AU.climb (by walk_at "sm") (by walk_at "hl"))
local macro_rules | `(tactic| walk_at "sl") => `(tactic| first | assumption | exact AU.sqL (by walk_at "hl") | exact AU.sqLS (by walk_at "sm") (by walk_at "sl"))
local macro_rules | `(tactic| walk_at "tl") => `(tactic| first | assumption | exact AU.sqT (by walk_at "hl") | exact AU.sqTS (by walk_at "sm") (by walk_at "tl"))
local macro_rules | `(tactic| walk_at "sz") => `(tactic| first | (show 0 ≤ sizeLine; decide) | (show 1 ≤ sizeLine; decide) | (show 2 ≤ sizeLine; decide) | (show 3 ≤ sizeLine; decide) | (show 4 ≤ sizeLine; decide) | (show 5 ≤ sizeLine; decide) | (show 6 ≤ sizeLine; decide) | (show 7 ≤ sizeLine; decide) | (show 8 ≤ sizeLine; decide) | (show 9 ≤ sizeLine; decide) | (show 10 ≤ sizeLine; decide))
local macro_rules | `(tactic| walk_at "ci") => `(tactic| first | exact trivial | omega | (show (0 : Int) < _; omega) | (show CMul _ _; exact .inl ⟨by omega, by omega⟩) | (show CMul _ _; exact .inr ⟨by omega, by omega⟩) | (show CMul _ _; exact .inr (AU.b01 _)) | (show CMul _ _; exact .inl (AU.b01 _)) | (show CDiv _ _; exact ⟨by omega, by omega⟩) | (show _ ≠ (0 : Int); omega) | (show CDiv _ _; exact ⟨by decide, by decide⟩))
local macro_rules | `(tactic| walk_at "hh") => `(tactic| first | assumption | exact OT.HeldF.mono (by walk_at "sm") (by walk_at "hh"))
local macro_rules | `(tactic| walk_at "tyx") => `(tactic| first | exact .base (.int _) | exact .base (.bl _) | exact .base (.str _) | exact .base (.lst (by walk_at "hl")) | exact .base (.tup (by walk_at "hl")))
local macro_rules | `(tactic| walk_at "st1") => `(tactic| first | ((with_reducible show tSeq _ _ _ _ _); (try simp only [List.set_cons_zero, List.set_cons_succ]); refine AU.seq_ ?_) | ((with_reducible show tAsg _ _ _ _ _); refine AU.asg_ ?_) | ((with_reducible show gName _ _ _ _ _); refine AU.name_ ?_) | ((with_reducible show tDrop _ _ _ _); refine AU.drop_ ?_) | ((with_reducible show tRet _ _ _ _); refine AU.ret_ ?_) | ((with_reducible show tRetN _ _ _); refine AU.retN_ ?_) | ((with_reducible show tNext _ _ _); refine AU.next_ ?_) | ((with_reducible show tBreak _ _ _); refine AU.brk_ ?_) | ((with_reducible show tCont _ _ _); refine AU.cont_ ?_) | ((with_reducible show tIfS _ _ _ _ _ _); refine AU.ifs_ ?_) | ((with_reducible show tAug _ _ _ _ _ _); refine AU.aug_ rfl ?_) | ((with_reducible show Ends.nx (Ends.mk _ _ _ _) _ _); refine AU.nxm ?_) | ((with_reducible show Ends.rt (Ends.mk _ _ _ _) _ _); refine AU.rtm ?_) | ((with_reducible show Ends.bk (Ends.mk _ _ _ _) _ _); refine AU.bkm ?_) | ((with_reducible show Ends.ct (Ends.mk _ _ _ _) _ _); refine AU.ctm ?_) | ((with_reducible show tVar _ _ _ _); refine AU.var_ rfl ?_) | ((with_reducible show tC _ _ _ _); refine AU.c_ ?_) | ((with_reducible show tOp _ _ _ _ _ _); refine AU.op_ ?_) | ((with_reducible show tUn _ _ _ _ _); refine AU.un_ ?_) | ((with_reducible show rU _ _ _ _); refine AU.u_ ?_) | ((with_reducible show rI0 _ _ _ _ _); refine AU.i0_ ?_) | ((with_reducible show rI _ _ _ _ _ _); refine AU.i_ (by walk_at "ci") ?_) | ((with_reducible show rEq (V.int _) (V.int _) _ _); first | (with_reducible refine AU.eqr_ ?_) | refine AU.eqi_ ?_) | ((with_reducible show rEq (V.str _) (V.str _) _ _); (with_reducible refine AU.eqs_ ?_)) | ((with_reducible show rNe (V.int _) (V.int _) _ _); refine AU.nei_ ?_) | ((with_reducible show rEq _ _ _ _); refine AU.eq_ rfl ?_) | ((with_reducible show rNe _ _ _ _); refine AU.ne_ rfl ?_) | ((with_reducible show tTest _ _ _ _); refine AU.test_ ?_) | ((with_reducible show tB _ _ _ _); refine AU.b_ ?_) | ((with_reducible show tAnd _ _ _ _ _); refine AU.and_ ?_) | ((with_reducible show tOr _ _ _ _ _); refine AU.or_ ?_) | ((with_reducible show tNot _ _ _ _); refine AU.not_ ?_) | ((with_reducible show tAndV _ _ _ _ _); refine AU.andV_ ?_) | ((with_reducible show tOrV _ _ _ _ _); refine AU.orV_ ?_) | ((with_reducible show tNotV _ _ _ _); refine AU.notV_ ?_) | ((with_reducible show tIf _ _ _ _ _ _); refine AU.if_ ?_) | ((with_reducible show tNil _ _ _); refine AU.nil_ ?_) | ((with_reducible show tCons _ _ _ _ _); refine AU.cons_ ?_) | ((with_reducible show tLst _ _ _ _); refine AU.lst_ ?_) | ((with_reducible show tTup _ _ _ _); refine AU.tup_ ?_) | ((with_reducible show tCall _ _ _ _ _ _ _); refine AU.call_ ?_) | ((with_reducible show tCallS _ _ _ _ _ _); refine AU.callS_ ?_) | ((with_reducible show tCB _ _ _ _ _); refine AU.cb_ ?_) | ((with_reducible show tBM _ _ _ _ _ _ _ _); refine AU.bm_ ?_) | ((with_reducible show rIxL _ _ _ _ _); refine AU.ixL_ (by walk_at "sl") (by first | assumption | rfl) ?_) | ((with_reducible show rIxT _ _ _ _ _); refine AU.ixT_ (by walk_at "tl") (by first | assumption | rfl) ?_) | ((with_reducible show Evl.rLenS _ _ _ _); first | refine AU.lenL_ (by walk_at "sl") ?_ | refine AU.lenT_ (by walk_at "tl") ?_) | ((with_reducible show rAppend (V.ref _) [_] _ _); refine AU.app_ (by walk_at "hl") (by walk_at "ll") ?_) | ((with_reducible show tyV _ _ (V.ref _) _ ∧ _); refine AU.tyl_ (by walk_at "sl") ?_) | ((with_reducible show rCat (V.ref _) (V.ref _) _ _); refine AU.cat_ (by walk_at "hl") (by walk_at "hl") (by walk_at "le") ?_) | ((with_reducible show tFor _ _ _ _ _ _); refine AU.for_ ?_) | ((with_reducible show tLc _ _ _ _ _ _ _ _); refine AU.lc_ ?_) | ((with_reducible show iRng1 _ _ _ _); refine AU.rng1_ ?_) | ((with_reducible show iList _ _ _ _ _); refine AU.list_ ?_) | ((with_reducible show iTup _ _ _ _ _); refine AU.itup_ ?_) | ((with_reducible show (∃ i, [V.bl _] = [V.int i] ∧ _) ∨ _); refine AU.intb_ ?_) | ((with_reducible show (∃ i, [V.int _] = [V.int i] ∧ _) ∨ _); refine AU.inti_ ?_) | ((with_reducible show tYes _ _ _); refine AU.yes_ ?_) | ((with_reducible show ∃ p ys, [V.ref _] = [V.ref p] ∧ (SqL _ _ p ys ∨ SqT _ _ p ys) ∧ _); first | refine AU.listof_ (by walk_at "sl") ?_ | refine AU.listofT_ (by walk_at "tl") ?_) | ((with_reducible show ∃ p ys, [V.ref _] = [V.ref p] ∧ ((SqL _ _ p ys ∧ _) ∨ (SqT _ _ p ys ∧ _))); first | refine AU.tupleof_ (by walk_at "sl") ?_ | refine AU.tupleofT_ (by walk_at "tl") ?_) | ((with_reducible show V.non = V.non ∧ _); refine ⟨rfl, ?_⟩) | ((with_reducible show OT.rIsX _ _ _ _ [V.ref _, _] _ _); refine OT.isX_ (by walk_at "hh") (by first | exact .own _ | exact .ty _) (by assumption) ?_) | ((with_reducible show OT.tFA _ _ _ _ _ _ _ _ _); refine OT.fA_ ?_) | ((with_reducible show OT.tCallE _ _ _ _ _ _ _ _); refine OT.callE_ ?_) | ((with_reducible show rIsi _ [_, _] _ _); refine OT.isi_ (by first | exact .own _ | exact .ty _) (by walk_at "tyx") (by first | assumption | exact kit_ty OT.kq_int_int | exact kit_ty OT.kq_int_bool | exact kit_ty OT.kq_bool_bool | exact kit_ty OT.kq_bool_int | exact kit_ty OT.kq_str_str | exact kit_ty OT.kq_tuple_tuple | exact kit_ty OT.kq_list_list | exact kit_ty OT.kq_list_tuple | exact kit_ty OT.kq_tuple_list | exact kit_ty OT.kq_list_int | exact kit_ty OT.kq_tuple_int | exact kit_ty OT.kq_list_bool | exact kit_ty OT.kq_tuple_bool | exact kit_ty OT.kq_str_int | exact kit_ty OT.kq_int_str | exact kit_ty OT.kq_int_list | exact kit_ty OT.kq_int_tuple | exact kit_ty OT.kq_bool_list | exact kit_ty OT.kq_bool_tuple) ?_) | ((with_reducible show ∃ k, V.bl _ = V.bl k ∧ _); refine AU.bool_ ?_) | ((with_reducible refine AU.trueT ?_)) | ((with_reducible refine AU.refNon ?_)) | ((with_reducible refine AU.nonNon ?_)) | ((with_reducible refine AU.trueN ?_)) | ((with_reducible refine AU.falseN ?_)) | ((with_reducible refine AU.falseF ?_)))
local macro_rules | `(tactic| walk_at "st") => `(tactic| repeat walk_at "st1")
section
variable {P : Program} {w : World} {K : PySem.W.Frag} {mg : Str → Option Value} {base : Heap}
def spMir : Sp := fun vs H Q _ => ∃ (a : Addr) (xs : List V) (es : List Ent), vs = [.ref a] ∧ Lst H a xs es ∧ (∀ e ∈ es, e.1.length ≤ 1000) ∧ wantRow H (mirL es) Q
theorem c__law_mirror {f : Addr} {fd : FuncData} (D : C8.Def K mg "_law_mirror" s__law_mirror f fd) (b : Binds K fd ["_law_row_here"] []) (T : Bi mg) (c__law_row : C8.Cal P w K mg base 1 "_law_row" (spGather K) []) (c__law_back : C8.Cal P w K mg base 1 "_law_back" (spBack K) []) : C8.Cal P w K mg base 2 "_law_mirror" spMir [] := by
  refine C8.cal0 D b .nil sc__law_mirror (fun vs H Q E h => ?_) (fun cdv A outer s H vs Q E hr h => ?_)
  · obtain ⟨a, xs, es, rfl, _⟩ := h
    rfl
  · obtain ⟨a, xs, es, rfl, hA, hle, q⟩ := h
    refine ⟨_, (pss_one (ps_ret (C8.pe_c c__law_row hr (by decide) (by rfl) (pa_cons (pe_lc (own := [("_law_entry", 1)]) (g := (gName 1)) (tt := tYes) rfl sc__law_mirror.nd (pi_list (pv 0)) (blkOk_by (N := ["_law_row_here", "_law_entry"]) (sc := C8.fnScope s__law_mirror) (by decide +kernel)) (fun _ _ _ _ _ => (pg_name (i := 1) sc__law_mirror.nd rfl (Or.inl rfl))) (fun _ _ _ _ _ => pts_nil) (fun _ _ _ _ _ => (pe_tup (pa_cons (C8.pe_c c__law_back hr (by decide) (by rfl) (pa_cons (pe_ix (show IxR _ (rIxT K) from ix_tup) (pv 1) pe_int (fun _ _ => rfl)) pa_nil)) (pa_cons (pe_ix (show IxR _ (rIxT K) from ix_tup) (pv 1) pe_int (fun _ _ => rfl)) pa_nil))))) pa_nil)))), ?_⟩
    have hS : SqL K H a xs := .inl (.inl hA.l)
    have hx := hA.e.len
    have hz := hA.z
    refine ⟨_, rfl, a, rfl, ⟨_, hS⟩, fun p np => ?_⟩
    refine lc_list (K := K) (xs := xs) (fun i H2 => Same H H2 ∧ ∃ ws, H2 p = some (.lst ws) ∧ Ents H2 ws (mirL (es.take i))) ?_ ?_ ?_ ?_
    · exact ⟨same_upd np, [], upd_same, .nil⟩
    · rintro i H2 _ ⟨sm, _⟩
      exact sm.seq hS
    · rintro i x H2 hxi ⟨sm, ws, hp, hW⟩
      obtain ⟨e, he, t, pe, rfl, ht, hpe⟩ := (hA.e.mono sm).get hxi
      obtain ⟨hi, hee⟩ := List.getElem?_eq_some_iff.mp he
      have hm := List.mem_of_getElem? he
      have hT : SqT K H2 t [.ref pe, .int e.2] := .inl (.inl ht)
      refine ⟨rfl, tYes_of ?_⟩
      refine ⟨_, rfl, t, _, 0, _, rfl, rfl, hT, atI_nat (j := 0) rfl, pe, e.1, rfl, .inl (.inl hpe), hle e hm, fun p3 H3 sm3 hp3 => ?_⟩
      refine ⟨_, rfl, t, _, 1, _, rfl, rfl, same_t sm3 hT, atI_nat (j := 1) rfl, (by show 2 ≤ sizeLine; decide), fun t4 nt4 => ?_⟩
      have sm4 : Same H3 (upd H3 t4 (.tup [.ref p3, .int e.2])) := same_upd nt4
      have smA := sm3.trans sm4
      have hv : EntAt (upd H3 t4 (.tup [.ref p3, .int e.2])) (.ref t4) (negP e.1, e.2) := ⟨t4, p3, rfl, upd_same, sm4 _ _ hp3⟩
      have hD := smA _ _ hp
      have hwl := hW.len
      refine ⟨ws, hD, ?_, same_mut (sm.trans smA) np, ws ++ [.ref t4], upd_same, ?_⟩
      · unfold mirL at hwl
        rw [List.length_map, List.length_take] at hwl
        exact small100k (by omega)
      · unfold mirL
        rw [take_snoc he, List.map_append]
        exact ((hW.mono smA).app (.cons hv .nil)).updL hD
    · rintro H2 ⟨sm, ws, hp, hW⟩
      rw [hx, List.take_length] at hW
      refine ⟨p, ws, mirL es, rfl, ⟨.inl (.inl hp), hW, by unfold mirL; rw [List.length_map]; exact small100k (by omega)⟩, fun e he z => ?_, q.mono sm⟩
      obtain ⟨y, hy, rfl⟩ := List.mem_map.mp he
      have z2 : (negP y.1).length = 0 := by
        have z3 : negP y.1 = [] := z
        rw [z3]
        rfl
      rw [negP_len] at z2
      exact hA.p y hy (List.length_eq_zero_iff.mp z2)
def spCross (K : PySem.W.Frag) : Sp := fun vs H Q _ => ∃ (a b : Addr) (xs ys : List V) (es fs : List Ent) (n : Nat), vs = [.ref a, .ref b] ∧ Lst H a xs es ∧ Lst H b ys fs ∧ Valid fs ∧ DimN n es ∧ DimN n fs ∧ n ≤ 1000 ∧ es.length * fs.length ≤ 10000 ∧ (∀ g ∈ fs, -(2 ^ 64) < g.2 ∧ g.2 < 2 ^ 64) ∧ wantRow H (timesL es (mirL fs)) Q
theorem c__law_cross {f : Addr} {fd : FuncData} (D : C8.Def K mg "_law_cross" s__law_cross f fd) (b : Binds K fd ["_law_first", "_law_second"] []) (T : Bi mg) (c__law_times : C8.Cal P w K mg base 2 "_law_times" (spTimes K) []) (c__law_mirror : C8.Cal P w K mg base 2 "_law_mirror" spMir []) : C8.Cal P w K mg base 3 "_law_cross" (spCross K) [] := by
  refine C8.cal0 D b .nil sc__law_cross (fun vs H Q E h => ?_) (fun cdv A outer s H vs Q E hr h => ?_)
  · obtain ⟨a, b, xs, ys, es, fs, n, rfl, _⟩ := h
    rfl
  · obtain ⟨a, b, xs, ys, es, fs, n, rfl, R, S, vS, dR, dS, hn, hl, hb, q⟩ := h
    refine ⟨_, (pss_one (ps_ret (C8.pe_c c__law_times hr (by decide) (by rfl) (pa_cons (pv 0) (pa_cons (C8.pe_c c__law_mirror hr (by decide) (by rfl) (pa_cons (pv 1) pa_nil)) pa_nil))))), ?_⟩
    walk_at "st"
    refine ⟨b, ys, fs, rfl, S, fun e he => by rw [dS e he]; exact hn, fun m p ws H2 hm s2 np hp hE => ?_⟩
    have hmm : m = mirP fs := hm.one (mirP_is vS dS)
    walk_at "st"
    refine ⟨a, p, xs, ws, es, m, rfl, .inl (.inl (s2 _ _ R.l)), .inl (.inl hp), R.e.mono s2, hE, by rw [hmm, mirP_len]; exact hl, fun e he g hg => ?_, fun e he => ⟨R.p e he, by rw [dR e he]; exact hn⟩, by rw [hmm]; exact mirP_u (P := fun z => -(2 ^ 64) < z ∧ z < 2 ^ 64) hb, ?_⟩
    · rw [hmm] at hg
      rw [dR e he, mirP_dim dS g hg]
    · intro r p3 ws3 H3 hr s3 np3 hp3 hE3
      exact q r p3 ws3 H3 ⟨hr.v, fun k => by rw [hr.s, timesL_eq2 es hm.s]⟩ (s2.trans s3) (none_back s2 np3) hp3 hE3
def spOwn (K : PySem.W.Frag) : Sp := fun vs H Q _ => ∃ (a : Addr) (xs : List V) (es : List Ent) (n : Nat), vs = [.ref a] ∧ Lst H a xs es ∧ Valid es ∧ DimN n es ∧ n ≤ 1000 ∧ es.length * es.length ≤ 10000 ∧ (∀ g ∈ es, -(2 ^ 64) < g.2 ∧ g.2 < 2 ^ 64) ∧ wantRow H (timesL es (mirL es)) Q
theorem c__law_own {f : Addr} {fd : FuncData} (D : C8.Def K mg "_law_own" s__law_own f fd) (b : Binds K fd ["_law_row_here"] []) (T : Bi mg) (c__law_cross : C8.Cal P w K mg base 3 "_law_cross" (spCross K) []) : C8.Cal P w K mg base 4 "_law_own" (spOwn K) [] := by
  refine C8.cal0 D b .nil sc__law_own (fun vs H Q E h => ?_) (fun cdv A outer s H vs Q E hr h => ?_)
  · obtain ⟨a, xs, es, n, rfl, _⟩ := h
    rfl
  · obtain ⟨a, xs, es, n, rfl, R, vR, dR, hn, hl, hb, q⟩ := h
    refine ⟨_, (pss_one (ps_ret (C8.pe_c c__law_cross hr (by decide) (by rfl) (pa_cons (pv 0) (pa_cons (pv 0) pa_nil))))), ?_⟩
    walk_at "st"
    exact ⟨a, a, xs, xs, es, es, n, rfl, R, R, vR, dR, dR, hn, hl, hb, q⟩
end
end OT

set_option Elab.async false
set_option linter.all false
set_option maxRecDepth 100000
set_option maxHeartbeats 4000000
namespace OT
open PySem PySem.Spec PyProof.Rows L2
local macro_rules | `(tactic| walk_at "sm") => `(tactic| first | assumption | exact AU.mutS (by walk_at "sm") (by assumption))
local macro_rules | `(tactic| walk_at "le") => `(tactic| first | (refine Nat.le_of_lt (AU.line ?_); (try simp only [List.length_append, List.length_map, List.length_cons, List.length_nil, List.length_take, List.length_replicate]); omega))
local macro_rules | `(tactic| walk_at "ll") => `(tactic| first | (show 0 < sizeLine; decide) | (show 1 < sizeLine; decide) | (show 2 < sizeLine; decide) | (show 3 < sizeLine; decide) | (refine AU.line ?_; (try simp only [List.length_append, List.length_map, List.length_cons, List.length_nil, List.length_take, List.length_replicate]); omega))
local macro_rules | `(tactic| walk_at "hl") => `(tactic| first | assumption | exact upd_same | exact AU.climb (by walk_at "sm") (by walk_at "hl"))
local macro_rules | `(tactic| walk_at "sl") => `(tactic| first | assumption | exact AU.sqL (by walk_at "hl") | exact AU.sqLS (by walk_at "sm") (by walk_at "sl"))
local macro_rules | `(tactic| walk_at "tl") => `(tactic| first | assumption | exact AU.sqT (by walk_at "hl") | exact AU.sqTS (by walk_at "sm") (by walk_at "tl"))
local macro_rules | `(tactic| walk_at "sz") => `(tactic| first | (show 0 ≤ sizeLine; decide) | (show 1 ≤ sizeLine; decide) | (show 2 ≤ sizeLine; decide) | (show 3 ≤ sizeLine; decide) | (show 4 ≤ sizeLine; decide) | (show 5 ≤ sizeLine; decide) | (show 6 ≤ sizeLine; decide) | (show 7 ≤ sizeLine; decide) | (show 8 ≤ sizeLine; decide) | (show 9 ≤ sizeLine; decide) | (show 10 ≤ sizeLine; decide))
local macro_rules | `(tactic| walk_at "ci") => `(tactic| first | exact trivial | omega | (show (0 : Int) < _; omega) | (show CMul _ _; exact .inl ⟨by omega, by omega⟩) | (show CMul _ _; exact .inr ⟨by omega, by omega⟩) | (show CMul _ _; exact .inr (AU.b01 _)) | (show CMul _ _; exact .inl (AU.b01 _)) | (show CDiv _ _; exact ⟨by omega, by omega⟩) | (show _ ≠ (0 : Int); omega) | (show CDiv _ _; exact ⟨by decide, by decide⟩))
local macro_rules | `(tactic| walk_at "hh") => `(tactic| first | assumption | exact OT.HeldF.mono (by walk_at "sm") (by walk_at "hh"))
local macro_rules | `(tactic| walk_at "tyx") => `(tactic| first | exact .base (.int _) | exact .base (.bl _) | exact .base (.str _) | exact .base (.lst (by walk_at "hl")) | exact .base (.tup (by walk_at "hl")))
local macro_rules | `(tactic| walk_at "st1") => `(tactic| first | ((with_reducible show tSeq _ _ _ _ _); (try simp only [List.set_cons_zero, List.set_cons_succ]); refine AU.seq_ ?_) | ((with_reducible show tAsg _ _ _ _ _); refine AU.asg_ ?_) | ((with_reducible show gName _ _ _ _ _); refine AU.name_ ?_) | ((with_reducible show tDrop _ _ _ _); refine AU.drop_ ?_) | ((with_reducible show tRet _ _ _ _); refine AU.ret_ ?_) | ((with_reducible show tRetN _ _ _); refine AU.retN_ ?_) | ((with_reducible show tNext _ _ _); refine AU.next_ ?_) | ((with_reducible show tBreak _ _ _); refine AU.brk_ ?_) | ((with_reducible show tCont _ _ _); refine AU.cont_ ?_) | ((with_reducible show tIfS _ _ _ _ _ _); refine AU.ifs_ ?_) | ((with_reducible show tAug _ _ _ _ _ _); refine AU.aug_ rfl ?_) | ((with_reducible show Ends.nx (Ends.mk _ _ _ _) _ _); refine AU.nxm ?_) | ((with_reducible show Ends.rt (Ends.mk _ _ _ _) _ _); refine AU.rtm ?_) | ((with_reducible show Ends.bk (Ends.mk _ _ _ _) _ _); refine AU.bkm ?_) | ((with_reducible show Ends.ct (Ends.mk _ _ _ _) _ _); refine AU.ctm ?_) | ((with_reducible show tVar _ _ _ _); refine AU.var_ rfl ?_) | ((with_reducible show tC _ _ _ _); refine AU.c_ ?_) | ((with_reducible show tOp _ _ _ _ _ _); refine AU.op_ ?_) | ((with_reducible show tUn _ _ _ _ _); refine AU.un_ ?_) | ((with_reducible show rU _ _ _ _); refine AU.u_ ?_) | ((with_reducible show rI0 _ _ _ _ _); refine AU.i0_ ?_) | ((with_reducible show rI _ _ _ _ _ _); refine AU.i_ (by walk_at "ci") ?_) | ((with_reducible show rEq (V.int _) (V.int _) _ _); first | (with_reducible refine AU.eqr_ ?_) | refine AU.eqi_ ?_) | ((with_reducible show rEq (V.str _) (V.str _) _ _); (with_reducible refine AU.eqs_ ?_)) | ((with_reducible show rNe (V.int _) (V.int _) _ _); refine AU.nei_ ?_) | ((with_reducible show rEq _ _ _ _); refine AU.eq_ rfl ?_) | ((with_reducible show rNe _ _ _ _); refine AU.ne_ rfl ?_) | ((with_reducible show tTest _ _ _ _); refine AU.test_ ?_) | ((with_reducible show tB _ _ _ _); refine AU.b_ ?_) | ((with_reducible show tAnd _ _ _ _ _); refine AU.and_ ?_) | ((with_reducible show tOr _ _ _ _ _); refine AU.or_ ?_) | ((with_reducible show tNot _ _ _ _); refine AU.not_ ?_) | ((with_reducible show tAndV _ _ _ _ _); refine AU.andV_ ?_) | ((with_reducible show tOrV _ _ _ _ _); refine AU.orV_ ?_) | ((with_reducible show tNotV _ _ _ _); refine AU.notV_ ?_) | ((with_reducible show tIf _ _ _ _ _ _); refine AU.if_ ?_) | ((with_reducible show tNil _ _ _); refine AU.nil_ ?_) | ((with_reducible show tCons _ _ _ _ _); refine AU.cons_ ?_) | ((with_reducible show tLst _ _ _ _); refine AU.lst_ ?_) | ((with_reducible show tTup _ _ _ _); refine AU.tup_ ?_) | ((with_reducible show tCall _ _ _ _ _ _ _); refine AU.call_ ?_) | ((with_reducible show tCallS _ _ _ _ _ _); refine AU.callS_ ?_) | ((with_reducible show tCB _ _ _ _ _); refine AU.cb_ ?_) | ((with_reducible show tBM _ _ _ _ _ _ _ _); refine AU.bm_ ?_) | ((with_reducible show rIxL _ _ _ _ _); refine AU.ixL_ (by walk_at "sl") (by first | assumption | rfl) ?_) | ((with_reducible show rIxT _ _ _ _ _); refine AU.ixT_ (by walk_at "tl") (by first | assumption | rfl) ?_) | ((with_reducible show Evl.rLenS _ _ _ _); first | refine AU.lenL_ (by walk_at "sl") ?_ | refine AU.lenT_ (by walk_at "tl") ?_) | ((with_reducible show rAppend (V.ref _) [_] _ _); refine AU.app_ (by walk_at "hl") (by walk_at "ll") ?_) | ((with_reducible show tyV _ _ (V.ref _) _ ∧ _); refine AU.tyl_ (by walk_at "sl") ?_) | ((with_reducible show rCat (V.ref _) (V.ref _) _ _); refine AU.cat_ (by walk_at "hl") (by walk_at "hl") (by walk_at "le") ?_) | ((with_reducible show tFor _ _ _ _ _ _); refine AU.for_ ?_) | ((with_reducible show tLc _ _ _ _ _ _ _ _); refine AU.lc_ ?_) | ((with_reducible show iRng1 _ _ _ _); refine AU.rng1_ ?_) | ((with_reducible show iList _ _ _ _ _); refine AU.list_ ?_) | ((with_reducible show iTup _ _ _ _ _); refine AU.itup_ ?_) | ((with_reducible show (∃ i, [V.bl _] = [V.int i] ∧ _) ∨ _); refine AU.intb_ ?_) | ((with_reducible show (∃ i, [V.int _] = [V.int i] ∧ _) ∨ _); refine AU.inti_ ?_) | ((with_reducible show tYes _ _ _); refine AU.yes_ ?_) | ((with_reducible show ∃ p ys, [V.ref _] = [V.ref p] ∧ (SqL _ _ p ys ∨ SqT _ _ p ys) ∧ _); first | refine AU.listof_ (by walk_at "sl") ?_ | refine AU.listofT_ (by walk_at "tl") ?_) | ((with_reducible show ∃ p ys, [V.ref _] = [V.ref p] ∧ ((SqL _ _ p ys ∧ _) ∨ (SqT _ _ p ys ∧ _))); first | refine AU.tupleof_ (by walk_at "sl") ?_ | refine AU.tupleofT_ (by walk_at "tl") ?_) | ((with_reducible show V.non = V.non ∧ _); refine ⟨rfl, ?_⟩) | ((with_reducible show OT.rIsX _ _ _ _ [V.ref _, _] _ _); refine OT.isX_ (by walk_at "hh") (by first | exact .own _ | exact .ty _) (by assumption) ?_) | ((with_reducible show OT.tFA _ _ _ _ _ _ _ _ _); refine OT.fA_ ?_) | ((with_reducible show OT.tCallE _ _ _ _ _ _ _ _); refine OT.callE_ ?_) | ((with_reducible show rIsi _ [_, _] _ _); refine OT.isi_ (by first | exact .own _ | exact .ty _) (by walk_at "tyx") (by first | assumption | exact kit_ty OT.kq_int_int | exact kit_ty OT.kq_int_bool | exact kit_ty OT.kq_bool_bool | exact kit_ty OT.kq_bool_int | exact kit_ty OT.kq_str_str | exact kit_ty OT.kq_tuple_tuple | exact kit_ty OT.kq_list_list | exact kit_ty OT.kq_list_tuple | exact kit_ty OT.kq_tuple_list | exact kit_ty OT.kq_list_int | exact kit_ty OT.kq_tuple_int | exact kit_ty OT.kq_list_bool | exact kit_ty OT.kq_tuple_bool | exact kit_ty OT.kq_str_int | exact kit_ty OT.kq_int_str | exact kit_ty OT.kq_int_list | exact kit_ty OT.kq_int_tuple | exact kit_ty OT.kq_bool_list | exact kit_ty OT.kq_bool_tuple) ?_) | ((with_reducible show ∃ k, V.bl _ = V.bl k ∧ _); refine AU.bool_ ?_) | ((with_reducible refine AU.trueT ?_)) | ((with_reducible refine AU.refNon ?_)) | ((with_reducible refine AU.nonNon ?_)) | ((with_reducible refine AU.trueN ?_)) | ((with_reducible refine AU.falseN ?_)) | ((with_reducible refine AU.falseF ?_)))
local macro_rules | `(tactic| walk_at "st") => `(tactic| repeat walk_at "st1")
section
variable {P : Program} {w : World} {K : PySem.W.Frag} {mg : Str → Option Value} {base : Heap}
def spErrE (K : PySem.W.Frag) (B : Addr) : SpE := fun a c d vs H Q _ => ∃ (C dd : Addr) (fs : List (Str × V)) (nm : Str), vs = [.ref a, .str nm] ∧ HeldF K H C dd c d fs ∧ PySem.W.findIn K (.ref C) "word" = some none ∧ fs.lookup ("word" : Str) = some (V.str nm) ∧
  PySem.W.kitOne K (.ref C) (.ref B) = some true ∧ PySem.W.kitOne K (.ref C) (.type "ValueError") = some true ∧ Q (.bl true) H
theorem h__law_is_error {f B : Addr} {fd : FuncData} (D : C8.Def K mg "_law_is_error" s__law_is_error f fd) (T : Bi mg) (gB : mg "TableError" = some (.ref B)) (nV : mg "ValueError" = none) : FnE P w K mg base 1 f fd ["_law_e", "_law_word"] (spErrE K B) := by
  refine fnE_of D.fn sc__law_is_error (fun a c d vs H Q E h => ?_) (fun cdv A outer s H vs Q p c d zc fld hr h => ?_)
  · obtain ⟨C, dd, fs, nm, rfl, _⟩ := h
    rfl
  · obtain ⟨C, dd, fs, nm, rfl, hh, nw, lw, kB, kV, q⟩ := h
    have hp : p ∈ (L2H.cxH L2.CX0 P w K mg base ["_law_e", "_law_word"] "_law_is_error" (C8.fnScope s__law_is_error) f cdv A outer s H E0 p).pn := List.mem_cons_self
    refine ⟨_, (pss_one (ps_ret (pe_and (pe_callB (show CallR _ _ (rIsX K p.1 c d) from call_isX hp zc fld) (by rfl) T.n_isinstance OT.b_isinstance (pa_cons (pv 0) (pa_cons (pe_glob (v := .ref B) (by rfl) gB rfl) pa_nil))) (pe_and (pe_callB (show CallR _ _ (rIsX K p.1 c d) from call_isX hp zc fld) (by rfl) T.n_isinstance OT.b_isinstance (pa_cons (pv 0) (pa_cons (pe_bltn (v := .ty "ValueError") (by rfl) nV OT.b_ValueError rfl) pa_nil))) (pe_and (pe_callB call_isi (by rfl) T.n_isinstance OT.b_isinstance (pa_cons (show PE _ _ (tFA K p.1 c d _ _) from pe_fX hp zc fld (pv 0)) (pa_cons (pe_bltn (v := .ty "str") (by rfl) T.n_str OT.b_str rfl) pa_nil))) (pe_one (pe_cmpR op_eq (show PE _ _ (tFA K p.1 c d _ _) from pe_fX hp zc fld (pv 0)) (pv 1) (nomark _)))))))), ?_⟩
    walk_at "st"
    refine fB_ hh nw lw ?_
    walk_at "st"
    refine fB_ hh nw lw ?_
    walk_at "st"
    exact q
def spIntE : SpE := fun _ _ _ vs H Q _ => ∃ i : Int, vs = [.int i] ∧ Q (.bl true) H
theorem h__law_is_integer {f : Addr} {fd : FuncData} (D : C8.Def K mg "_law_is_integer" s__law_is_integer f fd) (T : Bi mg) : FnE P w K mg base 1 f fd ["_law_actual"] spIntE := by
  refine fnE_of D.fn sc__law_is_integer (fun a c d vs H Q E h => ?_) (fun cdv A outer s H vs Q p c d zc fld hr h => ?_)
  · obtain ⟨i, rfl, _⟩ := h
    rfl
  · obtain ⟨i, rfl, q⟩ := h
    refine ⟨_, (pss_one (ps_ret (pe_and (pe_callB call_isi (by rfl) T.n_isinstance OT.b_isinstance (pa_cons (pv 0) (pa_cons (pe_bltn (v := .ty "int") (by rfl) T.n_int OT.b_int rfl) pa_nil))) (pe_one (pe_not (pe_callB call_isi (by rfl) T.n_isinstance OT.b_isinstance (pa_cons (pv 0) (pa_cons (pe_bltn (v := .ty "bool") (by rfl) T.n_bool OT.b_bool rfl) pa_nil)))))))), ?_⟩
    walk_at "st"
    exact q
def wordL (bM bN bZ : Bool) : List V := (if bM then [V.str "MixedDimensions"] else []) ++ (if bN then [V.str "NotAFactor"] else []) ++ (if bZ then [V.str "ZeroRow"] else [])
def spWordsE (K : PySem.W.Frag) (M N Z : Addr) : SpE := fun a c d vs H Q _ => ∃ (C dd : Addr) (fs : List (Str × V)) (bM bN bZ : Bool), vs = [.ref a] ∧ HeldF K H C dd c d fs ∧ PySem.W.kitOne K (.ref C) (.ref M) = some bM ∧ PySem.W.kitOne K (.ref C) (.ref N) = some bN ∧ PySem.W.kitOne K (.ref C) (.ref Z) = some bZ ∧
  ∀ t H', Same H H' → H' t = some (.lst (wordL bM bN bZ)) → Q (.ref t) H'
theorem h__law_words {f M N Z : Addr} {fd : FuncData} (D : C8.Def K mg "_law_words" s__law_words f fd) (T : Bi mg) (gM : mg "MixedDimensions" = some (.ref M)) (gN : mg "NotAFactor" = some (.ref N)) (gZ : mg "ZeroRow" = some (.ref Z)) : FnE P w K mg base 1 f fd ["_law_e"] (spWordsE K M N Z) := by
  refine fnE_of D.fn sc__law_words (fun a c d vs H Q E h => ?_) (fun cdv A outer s H vs Q p c d zc fld hr h => ?_)
  · obtain ⟨C, dd, fs, bM, bN, bZ, rfl, _⟩ := h
    rfl
  · obtain ⟨C, dd, fs, bM, bN, bZ, rfl, hh, kM, kN, kZ, q⟩ := h
    have hp : p ∈ (L2H.cxH L2.CX0 P w K mg base ["_law_e", "_law_words_here"] "_law_words" (C8.fnScope s__law_words) f cdv A outer s H E0 p).pn := List.mem_cons_self
    refine ⟨_, (pss_cons (ps_set (i := 1) sc__law_words.nd rfl (Or.inl rfl) (pe_lst pa_nil))
  (pss_cons (ps_if (pt_val (pe_callB (show CallR _ _ (rIsX K p.1 c d) from call_isX hp zc fld) (by rfl) T.n_isinstance OT.b_isinstance (pa_cons (pv 0) (pa_cons (pe_glob (v := .ref M) (by rfl) gM rfl) pa_nil)))) (pss_one (ps_expr (pe_bm PySem.F.plainAttrs_list PySem.F.slot_list_append PySem.F.type_list_append mt_append (pv 1) (pa_cons pe_str pa_nil)))) pss_nil)
  (pss_cons (ps_if (pt_val (pe_callB (show CallR _ _ (rIsX K p.1 c d) from call_isX hp zc fld) (by rfl) T.n_isinstance OT.b_isinstance (pa_cons (pv 0) (pa_cons (pe_glob (v := .ref N) (by rfl) gN rfl) pa_nil)))) (pss_one (ps_expr (pe_bm PySem.F.plainAttrs_list PySem.F.slot_list_append PySem.F.type_list_append mt_append (pv 1) (pa_cons pe_str pa_nil)))) pss_nil)
  (pss_cons (ps_if (pt_val (pe_callB (show CallR _ _ (rIsX K p.1 c d) from call_isX hp zc fld) (by rfl) T.n_isinstance OT.b_isinstance (pa_cons (pv 0) (pa_cons (pe_glob (v := .ref Z) (by rfl) gZ rfl) pa_nil)))) (pss_one (ps_expr (pe_bm PySem.F.plainAttrs_list PySem.F.slot_list_append PySem.F.type_list_append mt_append (pv 1) (pa_cons pe_str pa_nil)))) pss_nil)
  (pss_one (ps_ret (pv 1))))))), ?_⟩
    walk_at "st"
    refine ⟨by walk_at "sz", fun l nl => ?_⟩; generalize eH1 : upd _ l _ = H1; have s1 := AU.newS nl eH1; have hl := AU.newH eH1; clear eH1
    cases bM <;> cases bN <;> cases bZ
    all_goals
      walk_at "st"
      exact q _ _ (by walk_at "sm") (by walk_at "hl")
end
end OT

set_option Elab.async false
set_option linter.all false
set_option maxRecDepth 100000
set_option maxHeartbeats 4000000
namespace OT
open PySem PySem.Spec PyProof.Rows L2
local macro_rules | `(tactic| walk_at "sm") => `(tactic| first | assumption | exact AU.mutS (by walk_at "sm") (by assumption))
local macro_rules | `(tactic| walk_at "le") => `(tactic| first | (refine Nat.le_of_lt (AU.line ?_); (try simp only [List.length_append, List.length_map, List.length_cons, List.length_nil, List.length_take, List.length_replicate]); omega))
local macro_rules | `(tactic| walk_at "ll") => `(tactic| first | (show 0 < sizeLine; decide) | (show 1 < sizeLine; decide) | (show 2 < sizeLine; decide) | (show 3 < sizeLine; decide) | (refine AU.line ?_; (try simp only [List.length_append, List.length_map, List.length_cons, List.length_nil, List.length_take, List.length_replicate]); omega))
local macro_rules | `(tactic| walk_at "hl") => `(tactic| first | assumption | exact upd_same | exact AU.climb (by walk_at "sm") (by walk_at "hl"))
local macro_rules | `(tactic| walk_at "sl") => `(tactic| first | assumption | exact AU.sqL (by walk_at "hl") | exact AU.sqLS (by walk_at "sm") (by walk_at "sl"))
local macro_rules | `(tactic| walk_at "tl") => `(tactic| first | assumption | exact AU.sqT (by walk_at "hl") | exact AU.sqTS (by walk_at "sm") (by walk_at "tl"))
local macro_rules | `(tactic| walk_at "sz") => `(tactic| first | (show 0 ≤ sizeLine; decide) | (show 1 ≤ sizeLine; decide) | (show 2 ≤ sizeLine; decide) | (show 3 ≤ sizeLine; decide) | (show 4 ≤ sizeLine; decide) | (show 5 ≤ sizeLine; decide) | (show 6 ≤ sizeLine; decide) | (show 7 ≤ sizeLine; decide) | (show 8 ≤ sizeLine; decide) | (show 9 ≤ sizeLine; decide) | (show 10 ≤ sizeLine; decide))
local macro_rules | `(tactic| walk_at "ci") => `(tactic| first | exact trivial | omega | (show (0 : Int) < _; omega) | (show CMul _ _; exact .inl ⟨by omega, by omega⟩) | (show CMul _ _; exact .inr ⟨by omega, by omega⟩) | (show CMul _ _; exact .inr (AU.b01 _)) | (show CMul _ _; exact .inl (AU.b01 _)) | (show CDiv _ _; exact ⟨by omega, by omega⟩) | (show _ ≠ (0 : Int); omega) | (show CDiv _ _; exact ⟨by decide, by decide⟩))
local macro_rules | `(tactic| walk_at "hh") => `(tactic| first | assumption | exact OT.HeldF.mono (by walk_at "sm") (by walk_at "hh"))
local macro_rules | `(tactic| walk_at "tyx") => `(tactic| first | exact .base (.int _) | exact .base (.bl _) | exact .base (.str _) | exact .base (.lst (by walk_at "hl")) | exact .base (.tup (by walk_at "hl")))
local macro_rules | `(tactic| walk_at "st1") => `(tactic| first | ((with_reducible show tSeq _ _ _ _ _); (try simp only [List.set_cons_zero, List.set_cons_succ]); refine AU.seq_ ?_) | ((with_reducible show tAsg _ _ _ _ _); refine AU.asg_ ?_) | ((with_reducible show gName _ _ _ _ _); refine AU.name_ ?_) | ((with_reducible show tDrop _ _ _ _); refine AU.drop_ ?_) | ((with_reducible show tRet _ _ _ _); refine AU.ret_ ?_) | ((with_reducible show tRetN _ _ _); refine AU.retN_ ?_) | ((with_reducible show tNext _ _ _); refine AU.next_ ?_) | ((with_reducible show tBreak _ _ _); refine AU.brk_ ?_) | ((with_reducible show tCont _ _ _); refine AU.cont_ ?_) | ((with_reducible show tIfS _ _ _ _ _ _); refine AU.ifs_ ?_) | ((with_reducible show tAug _ _ _ _ _ _); refine AU.aug_ rfl ?_) | ((with_reducible show Ends.nx (Ends.mk _ _ _ _) _ _); refine AU.nxm ?_) | ((with_reducible show Ends.rt (Ends.mk _ _ _ _) _ _); refine AU.rtm ?_) | ((with_reducible show Ends.bk (Ends.mk _ _ _ _) _ _); refine AU.bkm ?_) | ((with_reducible show Ends.ct (Ends.mk _ _ _ _) _ _); refine AU.ctm ?_) | ((with_reducible show tVar _ _ _ _); refine AU.var_ rfl ?_) | ((with_reducible show tC _ _ _ _); refine AU.c_ ?_) | ((with_reducible show tOp _ _ _ _ _ _); refine AU.op_ ?_) | ((with_reducible show tUn _ _ _ _ _); refine AU.un_ ?_) | ((with_reducible show rU _ _ _ _); refine AU.u_ ?_) | ((with_reducible show rI0 _ _ _ _ _); refine AU.i0_ ?_) | ((with_reducible show rI _ _ _ _ _ _); refine AU.i_ (by walk_at "ci") ?_) | ((with_reducible show rEq (V.int _) (V.int _) _ _); first | (with_reducible refine AU.eqr_ ?_) | refine AU.eqi_ ?_) | ((with_reducible show rEq (V.str _) (V.str _) _ _); (with_reducible refine AU.eqs_ ?_)) | ((with_reducible show rNe (V.int _) (V.int _) _ _); refine AU.nei_ ?_) | ((with_reducible show rEq _ _ _ _); refine AU.eq_ rfl ?_) | ((with_reducible show rNe _ _ _ _); refine AU.ne_ rfl ?_) | ((with_reducible show tTest _ _ _ _); refine AU.test_ ?_) | ((with_reducible show tB _ _ _ _); refine AU.b_ ?_) | ((with_reducible show tAnd _ _ _ _ _); refine AU.and_ ?_) | ((with_reducible show tOr _ _ _ _ _); refine AU.or_ ?_) | ((with_reducible show tNot _ _ _ _); refine AU.not_ ?_) | ((with_reducible show tAndV _ _ _ _ _); refine AU.andV_ ?_) | ((with_reducible show tOrV _ _ _ _ _); refine AU.orV_ ?_) | ((with_reducible show tNotV _ _ _ _); refine AU.notV_ ?_) | ((with_reducible show tIf _ _ _ _ _ _); refine AU.if_ ?_) | ((with_reducible show tNil _ _ _); refine AU.nil_ ?_) | ((with_reducible show tCons _ _ _ _ _); refine AU.cons_ ?_) | ((with_reducible show tLst _ _ _ _); refine AU.lst_ ?_) | ((with_reducible show tTup _ _ _ _); refine AU.tup_ ?_) | ((with_reducible show tCall _ _ _ _ _ _ _); refine AU.call_ ?_) | ((with_reducible show tCallS _ _ _ _ _ _); refine AU.callS_ ?_) | ((with_reducible show tCB _ _ _ _ _); refine AU.cb_ ?_) | ((with_reducible show tBM _ _ _ _ _ _ _ _); refine AU.bm_ ?_) | ((with_reducible show rIxL _ _ _ _ _); refine AU.ixL_ (by walk_at "sl") (by first | assumption | rfl) ?_) | ((with_reducible show rIxT _ _ _ _ _); refine AU.ixT_ (by walk_at "tl") (by first | assumption | rfl) ?_) | ((with_reducible show Evl.rLenS _ _ _ _); first | refine AU.lenL_ (by walk_at "sl") ?_ | refine AU.lenT_ (by walk_at "tl") ?_) | ((with_reducible show rAppend (V.ref _) [_] _ _); refine AU.app_ (by walk_at "hl") (by walk_at "ll") ?_) | ((with_reducible show tyV _ _ (V.ref _) _ ∧ _); refine AU.tyl_ (by walk_at "sl") ?_) | ((with_reducible show rCat (V.ref _) (V.ref _) _ _); refine AU.cat_ (by walk_at "hl") (by walk_at "hl") (by walk_at "le") ?_) | ((with_reducible show tFor _ _ _ _ _ _); refine AU.for_ ?_) | ((with_reducible show tLc _ _ _ _ _ _ _ _); refine AU.lc_ ?_) | ((with_reducible show iRng1 _ _ _ _); refine AU.rng1_ ?_) | ((with_reducible show iList _ _ _ _ _); refine AU.list_ ?_) | ((with_reducible show iTup _ _ _ _ _); refine AU.itup_ ?_) | ((with_reducible show (∃ i, [V.bl _] = [V.int i] ∧ _) ∨ _); refine AU.intb_ ?_) | ((with_reducible show (∃ i, [V.int _] = [V.int i] ∧ _) ∨ _); refine AU.inti_ ?_) | ((with_reducible show tYes _ _ _); refine AU.yes_ ?_) | ((with_reducible show ∃ p ys, [V.ref _] = [V.ref p] ∧ (SqL _ _ p ys ∨ SqT _ _ p ys) ∧ _); first | refine AU.listof_ (by walk_at "sl") ?_ | refine AU.listofT_ (by walk_at "tl") ?_) | ((with_reducible show ∃ p ys, [V.ref _] = [V.ref p] ∧ ((SqL _ _ p ys ∧ _) ∨ (SqT _ _ p ys ∧ _))); first | refine AU.tupleof_ (by walk_at "sl") ?_ | refine AU.tupleofT_ (by walk_at "tl") ?_) | ((with_reducible show V.non = V.non ∧ _); refine ⟨rfl, ?_⟩) | ((with_reducible show OT.rIsX _ _ _ _ [V.ref _, _] _ _); refine OT.isX_ (by walk_at "hh") (by first | exact .own _ | exact .ty _) (by assumption) ?_) | ((with_reducible show OT.tFA _ _ _ _ _ _ _ _ _); refine OT.fA_ ?_) | ((with_reducible show OT.tCallE _ _ _ _ _ _ _ _); refine OT.callE_ ?_) | ((with_reducible show rIsi _ [_, _] _ _); refine OT.isi_ (by first | exact .own _ | exact .ty _) (by walk_at "tyx") (by first | assumption | exact kit_ty OT.kq_int_int | exact kit_ty OT.kq_int_bool | exact kit_ty OT.kq_bool_bool | exact kit_ty OT.kq_bool_int | exact kit_ty OT.kq_str_str | exact kit_ty OT.kq_tuple_tuple | exact kit_ty OT.kq_list_list | exact kit_ty OT.kq_list_tuple | exact kit_ty OT.kq_tuple_list | exact kit_ty OT.kq_list_int | exact kit_ty OT.kq_tuple_int | exact kit_ty OT.kq_list_bool | exact kit_ty OT.kq_tuple_bool | exact kit_ty OT.kq_str_int | exact kit_ty OT.kq_int_str | exact kit_ty OT.kq_int_list | exact kit_ty OT.kq_int_tuple | exact kit_ty OT.kq_bool_list | exact kit_ty OT.kq_bool_tuple) ?_) | ((with_reducible show ∃ k, V.bl _ = V.bl k ∧ _); refine AU.bool_ ?_) | ((with_reducible refine AU.trueT ?_)) | ((with_reducible refine AU.refNon ?_)) | ((with_reducible refine AU.nonNon ?_)) | ((with_reducible refine AU.trueN ?_)) | ((with_reducible refine AU.falseN ?_)) | ((with_reducible refine AU.falseF ?_)))
local macro_rules | `(tactic| walk_at "st") => `(tactic| repeat walk_at "st1")
structure ErrC (K : PySem.W.Frag) (B M N Z C : Addr) (nm : String) (bM bN bZ : Bool) : Prop where
  t : OtErr K C nm
  x : PySem.W.exmOne K (.ref C) (.ref B) = some true
  b : PySem.W.kitOne K (.ref C) (.ref B) = some true
  v : PySem.W.kitOne K (.ref C) (.type "ValueError") = some true
  m : PySem.W.kitOne K (.ref C) (.ref M) = some bM
  n : PySem.W.kitOne K (.ref C) (.ref N) = some bN
  z : PySem.W.kitOne K (.ref C) (.ref Z) = some bZ
section
variable {P : Program} {w : World} {K : PySem.W.Frag} {mg : Str → Option Value} {base : Heap}
theorem QuoR.mono {H H' : Hp} {a b : Addr} {xs ys : List V} {R FF : List Ent} {n m C : Nat} {U : List Pl} (s : Same H H') (h : QuoR K H a b xs ys R FF n m C U) : QuoR K H' a b xs ys R FF n m C U :=
  { h with ha := s _ _ h.ha, hb := s _ _ h.hb, e := h.e.mono s, g := h.g.mono s }
theorem QuoR.at_ {H : Hp} {a b a2 b2 : Addr} {xs ys : List V} {R FF : List Ent} {n m C : Nat} {U : List Pl} (h : QuoR K H a b xs ys R FF n m C U) (ha : H a2 = some (.lst xs)) (hb : H b2 = some (.lst ys)) : QuoR K H a2 b2 xs ys R FF n m C U := { h with ha := ha, hb := hb }
/-- which refusal is due -/
def DueW (R FF : List Ent) (m : Nat) (wd : Str) : Prop := (mixB R FF = true ∧ wd = "MixedDimensions") ∨ (mixB R FF = false ∧ FF = [] ∧ wd = "ZeroRow") ∨ (mixB R FF = false ∧ FF ≠ [] ∧ ¬ Fac R FF m ∧ wd = "NotAFactor")
def spRefuses (K : PySem.W.Frag) : Sp := fun vs H Q _ => ∃ (a b : Addr) (wd : Str) (xs ys : List V) (R FF : List Ent) (n m C : Nat) (U : List Pl), vs = [.ref a, .ref b, .str wd] ∧ QuoR K H a b xs ys R FF n m C U ∧ DueW R FF m wd ∧ ∀ H', Same H H' → Q (.bl true) H'
theorem c__law_refuses {f B M N Z fF fE fW fI : Addr} {fd fdF fdE fdW fdI : FuncData} (D : C8.Def K mg "_law_refuses" s__law_refuses f fd) (b : Binds K fd ["_law_row_here", "_law_factor", "_law_word"] []) (T : Bi mg) (gB : mg "TableError" = some (.ref B)) (gN : mg "NotAFactor" = some (.ref N))
    (xM : ErrC K B M N Z M "MixedDimensions" true false false) (xN : ErrC K B M N Z N "NotAFactor" false true false) (xZ : ErrC K B M N Z Z "ZeroRow" false false true) (hni : PySem.W.findIn K (.ref N) "index" = some none)
    (DF : C8.Def K mg "flip" s_flip fF fdF) (bF : Binds K fdF ["row", "factor"] []) (GF : FnOk P w K mg base (L2.CX P w) 7 fF fdF ["row", "factor"] (spFlip K M Z N))
    (DE : C8.Def K mg "_law_is_error" s__law_is_error fE fdE) (bE : Binds K fdE ["_law_e", "_law_word"] []) (GE : FnE P w K mg base 1 fE fdE ["_law_e", "_law_word"] (spErrE K B))
    (DW : C8.Def K mg "_law_words" s__law_words fW fdW) (bW : Binds K fdW ["_law_e"] []) (GW : FnE P w K mg base 1 fW fdW ["_law_e"] (spWordsE K M N Z))
    (DI : C8.Def K mg "_law_is_integer" s__law_is_integer fI fdI) (bI : Binds K fdI ["_law_actual"] []) (GI : FnE P w K mg base 1 fI fdI ["_law_actual"] spIntE)
    (c__law_same : C8.Cal P w K mg base 4 "_law_same" (spSame K) []) : C8.Cal P w K mg base 8 "_law_refuses" (spRefuses K) [] := by
  refine C8.cal0 D b .nil sc__law_refuses (fun vs H Q E h => ?_) (fun cdv A outer s H vs Q E hr h => ?_)
  · obtain ⟨a, b, wd, xs, ys, R, FF, n, m, C, U, rfl, _⟩ := h
    rfl
  · obtain ⟨a, b, wd, xs, ys, R, FF, n, m, C, U, rfl, hD, hd, q⟩ := h
    refine ⟨_, (pss_cons (ps_set (i := 3) sc__law_refuses.nd rfl (Or.inl rfl) (pe_lst (pa_cons (pe_callTy call_list_of (by rfl) T.n_list OT.b_list (pa_cons (pv 0) pa_nil)) (pa_cons (pe_callTy call_list_of (by rfl) T.n_list OT.b_list (pa_cons (pv 1) pa_nil)) pa_nil))))
  (pss_cons (ps_for PassesOwn.never rfl (pi_range1 rfl T.n_range (pa_cons pe_int pa_nil)) (pg_name (i := 4) sc__law_refuses.nd rfl (Or.inl rfl)) (pss_cons (ps_set (i := 5) sc__law_refuses.nd rfl (Or.inl rfl) pe_bl)
  (pss_cons (ps_try_as (i := 6) (tb := fun W => _) (ts := fun a cls d => _) (Wout := fun _ _ _ _ => False) rfl rfl sc__law_refuses.nd rfl rfl ⟨rfl, by decide, Or.inl gB⟩ takes0 (fun W pn xe tk _ => (pss_one (ps_expr (pe_callS GF hr rfl DF.mgf DF.kp bF (fun σ => passAt tk σ) (pa_cons (pe_ix (show IxR _ (rIxL K) from ix_list) (pv 3) pe_int (fun _ _ => rfl)) (pa_cons (pe_ix (show IxR _ (rIxL K) from ix_list) (pv 3) pe_int (fun _ _ => rfl)) pa_nil)))))) (fun a oe cls d pn hz hf => by exact (pss_cons (ps_set (i := 5) sc__law_refuses.nd rfl (Or.inl rfl) (pe_and (by exact pe_callA GE (roomH_m (hr.mono (by decide : 1 ≤ 7))) List.mem_cons_self hz hf (by rfl) DE.mgf DE.kp bE (pa_cons (pv 6) (pa_cons (pv 2) pa_nil))) (pe_one (by exact (pe_cmpR (show OpR _ _ (rEqD K) from op_eqD hr.units) (by exact pe_callA GW (roomH_m (hr.mono (by decide : 1 ≤ 7))) List.mem_cons_self hz hf (by rfl) DW.mgf DW.kp bW (pa_cons (pv 6) pa_nil)) (pe_lst (pa_cons (pv 2) pa_nil)) (nomark _))))))   (pss_one (ps_if (pt_val (pe_callB (show CallR _ _ (rIsX K a cls d) from call_isA List.mem_cons_self hz hf) (by rfl) T.n_isinstance OT.b_isinstance (pa_cons (pv 6) (pa_cons (pe_glob (v := .ref N) (by rfl) gN rfl) pa_nil)))) (pss_one (ps_set (i := 5) sc__law_refuses.nd rfl (Or.inl rfl) (pe_and (by exact (pv 5)) (pe_and (by exact pe_callA GI (roomH_m (hr.mono (by decide : 1 ≤ 7))) List.mem_cons_self hz hf (by rfl) DI.mgf DI.kp bI (pa_cons (show PE _ _ (tFA K a cls d _ _) from pe_fA List.mem_cons_self hz hf (pv 6)) pa_nil)) (pe_one (by exact (pe_cmpR op_eq (show PE _ _ (tFA K a cls d _ _) from pe_fA List.mem_cons_self hz hf (pv 6)) pe_int (nomark _)))))))) pss_nil)))))
  (pss_one (ps_if (PW.pt (pw_or (pt_not (pt_val (pv 5))) (pw_or (pt_not (pt_val (C8.pe_c c__law_same hr (by decide) (by rfl) (pa_cons (pe_ix ix_list (pv 3) pe_int (fun _ _ => rfl)) (pa_cons (pv 0) pa_nil))))) (pw_or1 (pt_not (pt_val (C8.pe_c c__law_same hr (by decide) (by rfl) (pa_cons (pe_ix ix_list (pv 3) pe_int (fun _ _ => rfl)) (pa_cons (pv 1) pa_nil))))))))) (pss_one (ps_ret pe_bl)) pss_nil)))))
  (pss_one (ps_ret pe_bl)))), ?_⟩
    have hDa := hD.ha
    have hDb := hD.hb
    walk_at "st"
    intro l1 nl1; generalize eH1 : upd _ l1 _ = H1; have s1 := AU.newS nl1 eH1; have hl1 := AU.newH eH1; clear eH1
    walk_at "st"
    intro l2 nl2; generalize eH2 : upd _ l2 _ = H2; have s2 := AU.newS nl2 eH2; have hl2 := AU.newH eH2; clear eH2
    walk_at "st"
    refine ⟨by walk_at "sz", fun gv ngv => ?_⟩; generalize eH3 : upd _ gv _ = H3; have s3 := AU.newS ngv eH3; have hgv := AU.newH eH3; clear eH3
    have s03 := (s1.trans s2).trans s3
    have hl1 := (s2.trans s3) _ _ hl1
    have hl2 := s3 _ _ hl2
    have D3 := hD.mono s03
    have L3 := D3.at_ hl1 hl2
    clear nl1 nl2 ngv s1 s2 s3 hDa hDb
    walk_at "st"
    refine ⟨2, rfl, by decide, by decide, ?_⟩
    refine for_range (lo := 0) (n := 2) (fun i σ H4 => ∃ y4 y5, σ = [some (.ref a), some (.ref b), some (.str wd), some (.ref gv), y4, y5, none] ∧ Same H3 H4) ⟨none, none, rfl, Same.refl _⟩ ?_ ?_
    · rintro i σ H4 hi ⟨y4, y5, rfl, s4⟩
      walk_at "st"
      refine ⟨l1, l2, xs, ys, R, FF, n, m, C, U, rfl, L3.mono s4, fun hm dd H5 s5 hdd => ?_, fun hm hF dd H5 s5 hdd => ?_, fun hm hF => ?_⟩
      · have hwd : wd = "MixedDimensions" := by
          rcases hd with ⟨_, e⟩ | ⟨z, _⟩ | ⟨z, _⟩
          · exact e
          · rw [hm] at z; cases z
          · rw [hm] at z; cases z
        subst hwd
        refine AU.wAs_ xM.x fun ea nea => ?_
        have hh : HeldF K H5 M dd (.ref M) (some dd) errM := ⟨rfl, rfl, xM.t.oc, hdd⟩
        have lw : errM.lookup ("word" : Str) = some (V.str "MixedDimensions") := rfl
        walk_at "st"
        refine ⟨M, dd, _, _, rfl, hh, xM.t.nw, lw, xM.b, xM.v, ?_⟩
        walk_at "st"
        refine ⟨M, dd, _, _, _, _, rfl, hh, xM.m, xM.n, xM.z, fun t6 H6 s6 ht6 => ?_⟩
        walk_at "st"
        refine ⟨by walk_at "sz", fun t7 nt7 => ?_⟩; generalize eH7 : upd _ t7 _ = H7; have s7 := AU.newS nt7 eH7; have ht7 := AU.newH eH7; clear eH7
        refine AU.eqD_ (d := .list [.str "MixedDimensions"]) (e := .list [.str "MixedDimensions"]) (.lst (by walk_at "sl") (.cons (.str _) .nil)) (.lst (by walk_at "sl") (.cons (.str _) .nil)) (by decide +kernel) (by decide +kernel) ?_
        rw [eqvD (by decide +kernel)]
        have kn := xM.n
        walk_at "st"
        have s36 := (s4.trans (s5.trans (s6.trans s7)))
        have D7 := D3.mono s36
        have L7 := L3.mono s36
        walk_at "st"
        refine ⟨l1, a, xs, xs, R, n, rfl, L7.ha, L7.e, D7.ha, D7.e, ⟨hD.vR, hD.n0, hD.n3, hD.dR⟩, by have := hD.zR; omega, ?_⟩
        walk_at "st"
        refine ⟨l2, b, ys, ys, FF, m, rfl, L7.hb, L7.g, D7.hb, D7.g, ⟨hD.vF, hD.m0, hD.m3, hD.dF⟩, by have := hD.zF; omega, ?_⟩
        walk_at "st"
        exact ⟨_, _, rfl, s36⟩
      · have hwd : wd = "ZeroRow" := by
          rcases hd with ⟨z, _⟩ | ⟨z, _, e⟩ | ⟨z, z2, _⟩
          · rw [hm] at z; cases z
          · exact e
          · exact absurd hF z2
        subst hwd
        refine AU.wAs_ xZ.x fun ea nea => ?_
        have hh : HeldF K H5 Z dd (.ref Z) (some dd) errZ := ⟨rfl, rfl, xZ.t.oc, hdd⟩
        have lw : errZ.lookup ("word" : Str) = some (V.str "ZeroRow") := rfl
        walk_at "st"
        refine ⟨Z, dd, _, _, rfl, hh, xZ.t.nw, lw, xZ.b, xZ.v, ?_⟩
        walk_at "st"
        refine ⟨Z, dd, _, _, _, _, rfl, hh, xZ.m, xZ.n, xZ.z, fun t6 H6 s6 ht6 => ?_⟩
        walk_at "st"
        refine ⟨by walk_at "sz", fun t7 nt7 => ?_⟩; generalize eH7 : upd _ t7 _ = H7; have s7 := AU.newS nt7 eH7; have ht7 := AU.newH eH7; clear eH7
        refine AU.eqD_ (d := .list [.str "ZeroRow"]) (e := .list [.str "ZeroRow"]) (.lst (by walk_at "sl") (.cons (.str _) .nil)) (.lst (by walk_at "sl") (.cons (.str _) .nil)) (by decide +kernel) (by decide +kernel) ?_
        rw [eqvD (by decide +kernel)]
        have kn := xZ.n
        walk_at "st"
        have s36 := (s4.trans (s5.trans (s6.trans s7)))
        have D7 := D3.mono s36
        have L7 := L3.mono s36
        walk_at "st"
        refine ⟨l1, a, xs, xs, R, n, rfl, L7.ha, L7.e, D7.ha, D7.e, ⟨hD.vR, hD.n0, hD.n3, hD.dR⟩, by have := hD.zR; omega, ?_⟩
        walk_at "st"
        refine ⟨l2, b, ys, ys, FF, m, rfl, L7.hb, L7.g, D7.hb, D7.g, ⟨hD.vF, hD.m0, hD.m3, hD.dF⟩, by have := hD.zF; omega, ?_⟩
        walk_at "st"
        exact ⟨_, _, rfl, s36⟩
      · have hwd : wd = "NotAFactor" ∧ ¬ Fac R FF m := by
          rcases hd with ⟨z, _⟩ | ⟨z, z2, e⟩ | ⟨z, z2, z3, e⟩
          · rw [hm] at z; cases z
          · exact absurd z2 hF
          · exact ⟨e, z3⟩
        obtain ⟨rfl, hno⟩ := hwd
        refine .inl ⟨hno, fun dd H5 s5 hdd => ?_⟩
        refine AU.wAs_ xN.x fun ea nea => ?_
        have hh : HeldF K H5 N dd (.ref N) (some dd) errNF := ⟨rfl, rfl, xN.t.oc, hdd⟩
        have lw : errNF.lookup ("word" : Str) = some (V.str "NotAFactor") := rfl
        walk_at "st"
        refine ⟨N, dd, _, _, rfl, hh, xN.t.nw, lw, xN.b, xN.v, ?_⟩
        walk_at "st"
        refine ⟨N, dd, _, _, _, _, rfl, hh, xN.m, xN.n, xN.z, fun t6 H6 s6 ht6 => ?_⟩
        walk_at "st"
        refine ⟨by walk_at "sz", fun t7 nt7 => ?_⟩; generalize eH7 : upd _ t7 _ = H7; have s7 := AU.newS nt7 eH7; have ht7 := AU.newH eH7; clear eH7
        refine AU.eqD_ (d := .list [.str "NotAFactor"]) (e := .list [.str "NotAFactor"]) (.lst (by walk_at "sl") (.cons (.str _) .nil)) (.lst (by walk_at "sl") (.cons (.str _) .nil)) (by decide +kernel) (by decide +kernel) ?_
        rw [eqvD (by decide +kernel)]
        have kn := xN.n
        walk_at "st"
        have li : errNF.lookup ("index" : Str) = some (V.int 0) := rfl
        refine fB_ (by walk_at "hh") hni li ?_
        walk_at "st"
        refine ⟨_, rfl, ?_⟩
        walk_at "st"
        refine fB_ (by walk_at "hh") hni li ?_
        walk_at "st"
        have s36 := (s4.trans (s5.trans (s6.trans s7)))
        have D7 := D3.mono s36
        have L7 := L3.mono s36
        walk_at "st"
        refine ⟨l1, a, xs, xs, R, n, rfl, L7.ha, L7.e, D7.ha, D7.e, ⟨hD.vR, hD.n0, hD.n3, hD.dR⟩, by have := hD.zR; omega, ?_⟩
        walk_at "st"
        refine ⟨l2, b, ys, ys, FF, m, rfl, L7.hb, L7.g, D7.hb, D7.g, ⟨hD.vF, hD.m0, hD.m3, hD.dF⟩, by have := hD.zF; omega, ?_⟩
        walk_at "st"
        exact ⟨_, _, rfl, s36⟩
    · rintro σ H4 ⟨y4, y5, rfl, s4⟩
      walk_at "st"
      exact q _ (s03.trans s4)
end
end OT

set_option Elab.async false
set_option linter.all false
set_option maxRecDepth 100000
set_option maxHeartbeats 4000000
namespace OT
open PySem PySem.Spec PyProof.Rows L2
/-! ### the algebra of products -/
theorem timesL_prod (es fs : List Ent) : timesL es fs = prodL plusP es fs := rfl
theorem mirL_map (es : List Ent) : mirL es = mapF negP es := rfl
theorem plusP_comm : ∀ k l : Pl, plusP k l = plusP l k
  | [], [] => rfl
  | [], _ :: _ => rfl
  | _ :: _, [] => rfl
  | x :: k, y :: l => by
    show (x + y) :: plusP k l = (y + x) :: plusP l k
    rw [plusP_comm k l, Int.add_comm]
theorem plusP_assoc : ∀ k l m : Pl, plusP (plusP k l) m = plusP k (plusP l m)
  | [], l, m => by cases l <;> cases m <;> rfl
  | _ :: _, [], m => by cases m <;> rfl
  | _ :: _, _ :: _, [] => rfl
  | x :: k, y :: l, z :: m => by
    show (x + y + z) :: plusP (plusP k l) m = (x + (y + z)) :: plusP k (plusP l m)
    rw [plusP_assoc k l m, Int.add_assoc]
theorem negP_plus : ∀ k l : Pl, negP (plusP k l) = plusP (negP k) (negP l)
  | [], l => by cases l <;> rfl
  | _ :: _, [] => rfl
  | x :: k, y :: l => by
    show (-(x + y)) :: negP (plusP k l) = (-x + -y) :: plusP (negP k) (negP l)
    rw [negP_plus k l, Int.neg_add]
theorem negP_neg : ∀ k : Pl, negP (negP k) = k
  | [] => rfl
  | x :: k => by
    show (- -x) :: negP (negP k) = x :: k
    rw [negP_neg k, Int.neg_neg]
theorem mirL_mir (es : List Ent) : mirL (mirL es) = es := by
  show (es.map _).map _ = es
  rw [List.map_map]
  have : es.map id = es := List.map_id es
  conv => rhs; rw [← this]
  refine List.map_congr_left fun e _ => ?_
  show (negP (negP e.1), e.2) = e
  rw [negP_neg]
theorem mirL_times (es fs : List Ent) : mirL (timesL es fs) = timesL (mirL es) (mirL fs) := prodL_map negP_plus fs es
theorem times_comm (es fs : List Ent) (q : Pl) : numAt (timesL es fs) q = numAt (timesL fs es) q := prodL_comm plusP_comm es fs q
theorem times_congr {a b c d : List Ent} (h : ∀ q, numAt a q = numAt b q) (k : ∀ q, numAt c q = numAt d q) (q : Pl) : numAt (timesL a c) q = numAt (timesL b d) q := numAt_prodL_eq plusP h k q
theorem mir_congr {a b : List Ent} (h : ∀ q, numAt a q = numAt b q) (q : Pl) : numAt (mirL a) q = numAt (mirL b) q := numAt_mapF_eq negP h q
/-- sums of products: the cross table -/
def crossL (es fs : List Ent) : List Ent := timesL es (mirL fs)
theorem cross_congr {a b c d : List Ent} (h : ∀ q, numAt a q = numAt b q) (k : ∀ q, numAt c q = numAt d q) (q : Pl) : numAt (crossL a c) q = numAt (crossL b d) q := times_congr h (mir_congr k) q
/-- the mirror of a cross table is the other one -/
theorem cross_mir (es fs : List Ent) (q : Pl) : numAt (mirL (crossL es fs)) q = numAt (crossL fs es) q := by
  unfold crossL
  rw [mirL_times, mirL_mir]
  exact times_comm _ _ q
theorem own_mir (es : List Ent) (q : Pl) : numAt (crossL (mirL es) (mirL es)) q = numAt (crossL es es) q := by
  unfold crossL
  rw [mirL_mir]
  exact times_comm _ _ q
theorem own_times (a b : List Ent) (q : Pl) : numAt (crossL (timesL a b) (timesL a b)) q = numAt (timesL (crossL a a) (crossL b b)) q := by
  unfold crossL
  rw [mirL_times]
  exact prodL_four plusP_comm plusP_assoc a b (mirL a) (mirL b) q
theorem own_flip (F S : List Ent) {R EX : List Ent} (hR : ∀ q, numAt R q = numAt (timesL F S) q) (hE : ∀ q, numAt EX q = numAt (timesL (mirL F) S) q) (q : Pl) : numAt (crossL EX EX) q = numAt (crossL R R) q := by
  rw [cross_congr hE hE, cross_congr hR hR, own_times, own_times]
  exact times_congr (own_mir F) (fun _ => rfl) q
end OT

set_option Elab.async false
set_option linter.all false
set_option maxRecDepth 100000
set_option maxHeartbeats 4000000
namespace OT
open PySem PySem.Spec PyProof.Rows L2
local macro_rules | `(tactic| walk_at "sm") => `(tactic| first | assumption | exact AU.mutS (by walk_at "sm") (by assumption))
local macro_rules | `(tactic| walk_at "le") => `(tactic| first | (refine Nat.le_of_lt (AU.line ?_); (try simp only [List.length_append, List.length_map, List.length_cons, List.length_nil, List.length_take, List.length_replicate]); omega))
local macro_rules | `(tactic| walk_at "ll") => `(tactic| first | (show 0 < sizeLine; decide) | (show 1 < sizeLine; decide) | (show 2 < sizeLine; decide) | (show 3 < sizeLine; decide) | (refine AU.line ?_; (try simp only [List.length_append, List.length_map, List.length_cons, List.length_nil, List.length_take, List.length_replicate]); omega))
local macro_rules | `(tactic| walk_at "hl") => `(tactic| first | assumption | exact upd_same | exact AU.climb (by walk_at "sm") (by walk_at "hl"))
local macro_rules | `(tactic| walk_at "sl") => `(tactic| first | assumption | exact AU.sqL (by walk_at "hl") | exact AU.sqLS (by walk_at "sm") (by walk_at "sl"))
local macro_rules | `(tactic| walk_at "tl") => `(tactic| first | assumption | exact AU.sqT (by walk_at "hl") | exact AU.sqTS (by walk_at "sm") (by walk_at "tl"))
local macro_rules | `(tactic| walk_at "sz") => `(tactic| first | (show 0 ≤ sizeLine; decide) | (show 1 ≤ sizeLine; decide) | (show 2 ≤ sizeLine; decide) | (show 3 ≤ sizeLine; decide) | (show 4 ≤ sizeLine; decide) | (show 5 ≤ sizeLine; decide) | (show 6 ≤ sizeLine; decide) | (show 7 ≤ sizeLine; decide) | (show 8 ≤ sizeLine; decide) | (show 9 ≤ sizeLine; decide) | (show 10 ≤ sizeLine; decide))
local macro_rules | `(tactic| walk_at "ci") => `(tactic| first | exact trivial | omega | (show (0 : Int) < _; omega) | (show CMul _ _; exact .inl ⟨by omega, by omega⟩) | (show CMul _ _; exact .inr ⟨by omega, by omega⟩) | (show CMul _ _; exact .inr (AU.b01 _)) | (show CMul _ _; exact .inl (AU.b01 _)) | (show CDiv _ _; exact ⟨by omega, by omega⟩) | (show _ ≠ (0 : Int); omega) | (show CDiv _ _; exact ⟨by decide, by decide⟩))
local macro_rules | `(tactic| walk_at "hh") => `(tactic| first | assumption | exact OT.HeldF.mono (by walk_at "sm") (by walk_at "hh"))
local macro_rules | `(tactic| walk_at "tyx") => `(tactic| first | exact .base (.int _) | exact .base (.bl _) | exact .base (.str _) | exact .base (.lst (by walk_at "hl")) | exact .base (.tup (by walk_at "hl")))
local macro_rules | `(tactic| walk_at "st1") => `(tactic| first | ((with_reducible show tSeq _ _ _ _ _); (try simp only [List.set_cons_zero, List.set_cons_succ]); refine AU.seq_ ?_) | ((with_reducible show tAsg _ _ _ _ _); refine AU.asg_ ?_) | ((with_reducible show gName _ _ _ _ _); refine AU.name_ ?_) | ((with_reducible show tDrop _ _ _ _); refine AU.drop_ ?_) | ((with_reducible show tRet _ _ _ _); refine AU.ret_ ?_) | ((with_reducible show tRetN _ _ _); refine AU.retN_ ?_) | ((with_reducible show tNext _ _ _); refine AU.next_ ?_) | ((with_reducible show tBreak _ _ _); refine AU.brk_ ?_) | ((with_reducible show tCont _ _ _); refine AU.cont_ ?_) | ((with_reducible show tIfS _ _ _ _ _ _); refine AU.ifs_ ?_) | ((with_reducible show tAug _ _ _ _ _ _); refine AU.aug_ rfl ?_) | ((with_reducible show Ends.nx (Ends.mk _ _ _ _) _ _); refine AU.nxm ?_) | ((with_reducible show Ends.rt (Ends.mk _ _ _ _) _ _); refine AU.rtm ?_) | ((with_reducible show Ends.bk (Ends.mk _ _ _ _) _ _); refine AU.bkm ?_) | ((with_reducible show Ends.ct (Ends.mk _ _ _ _) _ _); refine AU.ctm ?_) | ((with_reducible show tVar _ _ _ _); refine AU.var_ rfl ?_) | ((with_reducible show tC _ _ _ _); refine AU.c_ ?_) | ((with_reducible show tOp _ _ _ _ _ _); refine AU.op_ ?_) | ((with_reducible show tUn _ _ _ _ _); refine AU.un_ ?_) | ((with_reducible show rU _ _ _ _); refine AU.u_ ?_) | ((with_reducible show rI0 _ _ _ _ _); refine AU.i0_ ?_) | ((with_reducible show rI _ _ _ _ _ _); refine AU.i_ (by walk_at "ci") ?_) | ((with_reducible show rEq (V.int _) (V.int _) _ _); first | (with_reducible refine AU.eqr_ ?_) | refine AU.eqi_ ?_) | ((with_reducible show rEq (V.str _) (V.str _) _ _); (with_reducible refine AU.eqs_ ?_)) | ((with_reducible show rNe (V.int _) (V.int _) _ _); refine AU.nei_ ?_) | ((with_reducible show rEq _ _ _ _); refine AU.eq_ rfl ?_) | ((with_reducible show rNe _ _ _ _); refine AU.ne_ rfl ?_) | ((with_reducible show tTest _ _ _ _); refine AU.test_ ?_) | ((with_reducible show tB _ _ _ _); refine AU.b_ ?_) | ((with_reducible show tAnd _ _ _ _ _); refine AU.and_ ?_) | ((with_reducible show tOr _ _ _ _ _); refine AU.or_ ?_) | ((with_reducible show tNot _ _ _ _); refine AU.not_ ?_) | ((with_reducible show tAndV _ _ _ _ _); refine AU.andV_ ?_) | ((with_reducible show tOrV _ _ _ _ _); refine AU.orV_ ?_) | ((with_reducible show tNotV _ _ _ _); refine AU.notV_ ?_) | ((with_reducible show tIf _ _ _ _ _ _); refine AU.if_ ?_) | ((with_reducible show tNil _ _ _); refine AU.nil_ ?_) | ((with_reducible show tCons _ _ _ _ _); refine AU.cons_ ?_) | ((with_reducible show tLst _ _ _ _); refine AU.lst_ ?_) | ((with_reducible show tTup _ _ _ _); refine AU.tup_ ?_) | ((with_reducible show tCall _ _ _ _ _ _ _); refine AU.call_ ?_) | ((with_reducible show tCallS _ _ _ _ _ _); refine AU.callS_ ?_) | ((with_reducible show tCB _ _ _ _ _); refine AU.cb_ ?_) | ((with_reducible show tBM _ _ _ _ _ _ _ _); refine AU.bm_ ?_) | ((with_reducible show rIxL _ _ _ _ _); refine AU.ixL_ (by walk_at "sl") (by first | assumption | rfl) ?_) | ((with_reducible show rIxT _ _ _ _ _); refine AU.ixT_ (by walk_at "tl") (by first | assumption | rfl) ?_) | ((with_reducible show Evl.rLenS _ _ _ _); first | refine AU.lenL_ (by walk_at "sl") ?_ | refine AU.lenT_ (by walk_at "tl") ?_) | ((with_reducible show rAppend (V.ref _) [_] _ _); refine AU.app_ (by walk_at "hl") (by walk_at "ll") ?_) | ((with_reducible show tyV _ _ (V.ref _) _ ∧ _); refine AU.tyl_ (by walk_at "sl") ?_) | ((with_reducible show rCat (V.ref _) (V.ref _) _ _); refine AU.cat_ (by walk_at "hl") (by walk_at "hl") (by walk_at "le") ?_) | ((with_reducible show tFor _ _ _ _ _ _); refine AU.for_ ?_) | ((with_reducible show tLc _ _ _ _ _ _ _ _); refine AU.lc_ ?_) | ((with_reducible show iRng1 _ _ _ _); refine AU.rng1_ ?_) | ((with_reducible show iList _ _ _ _ _); refine AU.list_ ?_) | ((with_reducible show iTup _ _ _ _ _); refine AU.itup_ ?_) | ((with_reducible show (∃ i, [V.bl _] = [V.int i] ∧ _) ∨ _); refine AU.intb_ ?_) | ((with_reducible show (∃ i, [V.int _] = [V.int i] ∧ _) ∨ _); refine AU.inti_ ?_) | ((with_reducible show tYes _ _ _); refine AU.yes_ ?_) | ((with_reducible show ∃ p ys, [V.ref _] = [V.ref p] ∧ (SqL _ _ p ys ∨ SqT _ _ p ys) ∧ _); first | refine AU.listof_ (by walk_at "sl") ?_ | refine AU.listofT_ (by walk_at "tl") ?_) | ((with_reducible show ∃ p ys, [V.ref _] = [V.ref p] ∧ ((SqL _ _ p ys ∧ _) ∨ (SqT _ _ p ys ∧ _))); first | refine AU.tupleof_ (by walk_at "sl") ?_ | refine AU.tupleofT_ (by walk_at "tl") ?_) | ((with_reducible show V.non = V.non ∧ _); refine ⟨rfl, ?_⟩) | ((with_reducible show OT.rIsX _ _ _ _ [V.ref _, _] _ _); refine OT.isX_ (by walk_at "hh") (by first | exact .own _ | exact .ty _) (by assumption) ?_) | ((with_reducible show OT.tFA _ _ _ _ _ _ _ _ _); refine OT.fA_ ?_) | ((with_reducible show OT.tCallE _ _ _ _ _ _ _ _); refine OT.callE_ ?_) | ((with_reducible show rIsi _ [_, _] _ _); refine OT.isi_ (by first | exact .own _ | exact .ty _) (by walk_at "tyx") (by first | assumption | exact kit_ty OT.kq_int_int | exact kit_ty OT.kq_int_bool | exact kit_ty OT.kq_bool_bool | exact kit_ty OT.kq_bool_int | exact kit_ty OT.kq_str_str | exact kit_ty OT.kq_tuple_tuple | exact kit_ty OT.kq_list_list | exact kit_ty OT.kq_list_tuple | exact kit_ty OT.kq_tuple_list | exact kit_ty OT.kq_list_int | exact kit_ty OT.kq_tuple_int | exact kit_ty OT.kq_list_bool | exact kit_ty OT.kq_tuple_bool | exact kit_ty OT.kq_str_int | exact kit_ty OT.kq_int_str | exact kit_ty OT.kq_int_list | exact kit_ty OT.kq_int_tuple | exact kit_ty OT.kq_bool_list | exact kit_ty OT.kq_bool_tuple) ?_) | ((with_reducible show ∃ k, V.bl _ = V.bl k ∧ _); refine AU.bool_ ?_) | ((with_reducible refine AU.trueT ?_)) | ((with_reducible refine AU.refNon ?_)) | ((with_reducible refine AU.nonNon ?_)) | ((with_reducible refine AU.trueN ?_)) | ((with_reducible refine AU.falseN ?_)) | ((with_reducible refine AU.falseF ?_)))
local macro_rules | `(tactic| walk_at "st") => `(tactic| repeat walk_at "st1")
section
variable {P : Program} {w : World} {K : PySem.W.Frag} {mg : Str → Option Value} {base : Heap}
/-- a flip that is there -/
def spFlipC (K : PySem.W.Frag) : Sp := fun vs H Q _ => ∃ (a b : Addr) (xs ys : List V) (R FF S : List Ent) (m C : Nat) (U : List Pl), vs = [.ref a, .ref b] ∧ QuoR K H a b xs ys R FF m m C U ∧ FF ≠ [] ∧ QS R FF S m ∧ wantRow H (timesL (mirL FF) S) Q
theorem flipC {M Z N : Addr} : ∀ vs H Q E, spFlipC K vs H Q E → spFlip K M Z N vs H Q E0 := fun vs H Q E ⟨a, b, xs, ys, R, FF, S, m, C, U, e, hD, hF, hS, q⟩ => by
  have hm : mixB R FF = false := mixB_same (n := m) (m := m) (fun _ _ => rfl) hD.dR hD.dF
  refine ⟨a, b, xs, ys, R, FF, m, m, C, U, e, hD, fun h => ?_, fun _ h => absurd h hF, fun _ _ => .inr ⟨S, hS, q⟩⟩
  rw [hm] at h
  cases h
structure FlipsR (K : PySem.W.Frag) (H : Hp) (a b e : Addr) (xs ys es : List V) (R FF S EX : List Ent) (m C : Nat) (U U2 : List Pl) : Prop where
  q : QuoR K H a b xs ys R FF m m C U
  he : H e = some (.lst es)
  hE : Ents H es EX
  x : RowIs EX (timesL (mirL FF) S)
  nz : FF ≠ []
  s : QS R FF S m
  zE : EX.length ≤ 100
  zR : R.length ≤ 100
  cE : ∀ g ∈ EX, ∀ x ∈ g.1, x.natAbs ≤ C
  nE : ∀ g ∈ EX, -(2 ^ 64) < g.2 ∧ g.2 < 2 ^ 64
  nR : ∀ g ∈ R, -(2 ^ 64) < g.2 ∧ g.2 < 2 ^ 64
  u2 : ∀ k : Pl, k.length = m → Btw EX k → k ∈ U2
  uz2 : U2.length ≤ 10000
theorem FlipsR.dE {H : Hp} {a b e : Addr} {xs ys es : List V} {R FF S EX : List Ent} {m C : Nat} {U U2 : List Pl} (h : FlipsR K H a b e xs ys es R FF S EX m C U U2) : DimN m EX :=
  DimN.of h.x (DimN.times (fun x hx => by
    obtain ⟨y, hy, rfl⟩ := List.mem_map.mp hx
    show (negP y.1).length = m
    rw [negP_len, h.q.dF y hy]) h.s.d)
theorem FlipsR.mono {H H' : Hp} {a b e : Addr} {xs ys es : List V} {R FF S EX : List Ent} {m C : Nat} {U U2 : List Pl} (s : Same H H') (h : FlipsR K H a b e xs ys es R FF S EX m C U U2) : FlipsR K H' a b e xs ys es R FF S EX m C U U2 :=
  { h with q := h.q.mono s, he := s _ _ h.he, hE := h.hE.mono s }
/-- the way back -/
theorem FlipsR.back {H : Hp} {a b e a2 b2 : Addr} {xs ys es ws : List V} {R FF S EX : List Ent} {m C : Nat} {U U2 : List Pl} (h : FlipsR K H a b e xs ys es R FF S EX m C U U2) (ha : H a2 = some (.lst es)) (hb : H b2 = some (.lst ws)) (hw : Ents H ws (mirP FF)) :
    QuoR K H a2 b2 es ws EX (mirP FF) m m C U2 ∧ QS EX (mirP FF) S m := by
  refine ⟨⟨ha, hb, h.hE, hw, h.x.v, (mirP_is h.q.vF h.q.dF).v, h.dE, mirP_dim h.q.dF, by have := h.zE; omega, by rw [mirP_len]; exact h.q.zF, h.q.n0, h.q.m0, h.q.n3, h.q.m3, h.cE, mirP_c h.q.cF, h.q.c, mirP_u (P := fun z => -(2 ^ 64) < z ∧ z < 2 ^ 64) h.q.nb, h.u2, h.uz2⟩, { h.s with e := fun q => ?_, z := by rw [mirP_len]; exact h.s.z }⟩
  rw [h.x.s, timesL_eq1 S (mirP_is h.q.vF h.q.dF).s]
def spFlips (K : PySem.W.Frag) : Sp := fun vs H Q _ => ∃ (a b e : Addr) (xs ys es : List V) (R FF S EX : List Ent) (m C : Nat) (U U2 : List Pl), vs = [.ref a, .ref b, .ref e] ∧ FlipsR K H a b e xs ys es R FF S EX m C U U2 ∧ ∀ H', Same H H' → Q (.bl true) H'
theorem c__law_flips {f : Addr} {fd : FuncData} (D : C8.Def K mg "_law_flips" s__law_flips f fd) (b : Binds K fd ["_law_row_here", "_law_factor", "_law_expected"] []) (T : Bi mg) (c_flip : C8.Cal P w K mg base 7 "flip" (spFlipC K) []) (c__law_same : C8.Cal P w K mg base 4 "_law_same" (spSame K) [])
    (c__law_mirror : C8.Cal P w K mg base 2 "_law_mirror" spMir []) (c__law_own : C8.Cal P w K mg base 4 "_law_own" (spOwn K) []) : C8.Cal P w K mg base 8 "_law_flips" (spFlips K) [] := by
  refine C8.cal0 D b .nil sc__law_flips (fun vs H Q E h => ?_) (fun cdv A outer s H vs Q E hr h => ?_)
  · obtain ⟨a, b, e, xs, ys, es, R, FF, S, EX, m, C, U, U2, rfl, _⟩ := h
    rfl
  · obtain ⟨a, b, e, xs, ys, es, R, FF, S, EX, m, C, U, U2, rfl, hD, q⟩ := h
    refine ⟨_, (pss_cons (ps_set (i := 3) sc__law_flips.nd rfl (Or.inl rfl) (pe_lst (pa_cons (pe_callTy call_list_of (by rfl) T.n_list OT.b_list (pa_cons (pv 0) pa_nil)) (pa_cons (pe_callTy call_list_of (by rfl) T.n_list OT.b_list (pa_cons (pv 1) pa_nil)) pa_nil))))
  (pss_cons (ps_for PassesOwn.never rfl (pi_range1 rfl T.n_range (pa_cons pe_int pa_nil)) (pg_name (i := 4) sc__law_flips.nd rfl (Or.inl rfl)) (pss_cons (ps_set (i := 6) sc__law_flips.nd rfl (Or.inl rfl) (C8.pe_c c_flip hr (by decide) (by rfl) (pa_cons (pe_ix ix_list (pv 3) pe_int (fun _ _ => rfl)) (pa_cons (pe_ix ix_list (pv 3) pe_int (fun _ _ => rfl)) pa_nil))))
  (pss_cons (ps_if (pt_not (pt_val (C8.pe_c c__law_same hr (by decide) (by rfl) (pa_cons (pv 6) (pa_cons (pv 2) pa_nil))))) (pss_one (ps_ret pe_bl)) pss_nil)
  (pss_cons (ps_expr (pe_bm PySem.F.plainAttrs_list PySem.F.slot_list_append PySem.F.type_list_append mt_append (pv 6) (pa_cons (pe_tup (pa_cons (pe_ix ix_tup (pe_ix ix_list (pv 1) pe_int (fun _ _ => rfl)) pe_int (fun _ _ => rfl)) (pa_cons pe_int pa_nil))) pa_nil)))
  (pss_one (ps_if (PW.pt (pw_or (pt_not (pt_val (C8.pe_c c__law_same hr (by decide) (by rfl) (pa_cons (pe_ix ix_list (pv 3) pe_int (fun _ _ => rfl)) (pa_cons (pv 0) pa_nil))))) (pw_or1 (pt_not (pt_val (C8.pe_c c__law_same hr (by decide) (by rfl) (pa_cons (pe_ix ix_list (pv 3) pe_int (fun _ _ => rfl)) (pa_cons (pv 1) pa_nil)))))))) (pss_one (ps_ret pe_bl)) pss_nil))))))
  (pss_cons (ps_set (i := 5) sc__law_flips.nd rfl (Or.inl rfl) (C8.pe_c c_flip hr (by decide) (by rfl) (pa_cons (pe_callTy call_list_of (by rfl) T.n_list OT.b_list (pa_cons (pv 2) pa_nil)) (pa_cons (C8.pe_c c__law_mirror hr (by decide) (by rfl) (pa_cons (pv 1) pa_nil)) pa_nil))))
  (pss_one (ps_ret (pe_and (C8.pe_c c__law_same hr (by decide) (by rfl) (pa_cons (pv 5) (pa_cons (pv 0) pa_nil))) (pe_one (pe_cmpR (op_eqD hr.units) (C8.pe_c c__law_own hr (by decide) (by rfl) (pa_cons (pv 2) pa_nil)) (C8.pe_c c__law_own hr (by decide) (by rfl) (pa_cons (pv 0) pa_nil)) (nomark _))))))))), ?_⟩
    have hDa := hD.q.ha
    have hDb := hD.q.hb
    walk_at "st"
    intro l1 nl1; generalize eH1 : upd _ l1 _ = H1; have s1 := AU.newS nl1 eH1; have hl1 := AU.newH eH1; clear eH1
    walk_at "st"
    intro l2 nl2; generalize eH2 : upd _ l2 _ = H2; have s2 := AU.newS nl2 eH2; have hl2 := AU.newH eH2; clear eH2
    walk_at "st"
    refine ⟨by walk_at "sz", fun gv ngv => ?_⟩; generalize eH3 : upd _ gv _ = H3; have s3 := AU.newS ngv eH3; have hgv := AU.newH eH3; clear eH3
    have s03 := (s1.trans s2).trans s3
    have hl1 := (s2.trans s3) _ _ hl1
    have hl2 := s3 _ _ hl2
    have D3 := hD.mono s03
    have L3 := D3.q.at_ hl1 hl2
    clear nl1 nl2 ngv s1 s2 s3 hDa hDb
    walk_at "st"
    refine ⟨2, rfl, by decide, by decide, ?_⟩
    refine for_range (lo := 0) (n := 2) (fun i σ H4 => ∃ y4 y6, σ = [some (.ref a), some (.ref b), some (.ref e), some (.ref gv), y4, none, y6] ∧ Same H3 H4) ⟨none, none, rfl, Same.refl _⟩ ?_ ?_
    · rintro i σ H4 hi ⟨y4, y6, rfl, s4⟩
      walk_at "st"
      refine ⟨l1, l2, xs, ys, R, FF, S, m, C, U, rfl, L3.mono s4, D3.nz, D3.s, fun r p ws H5 hr s5 np hp hE => ?_⟩
      have hrE : r = EX := hr.one hD.x
      subst hrE
      have D5 := D3.mono (s4.trans s5)
      have L5 := L3.mono (s4.trans s5)
      have hwl := hE.len
      have hzE := hD.zE
      walk_at "st"
      refine ⟨p, e, ws, es, r, m, rfl, hp, hE, D5.he, D5.hE, ⟨hr.v, hD.q.m0, hD.q.m3, hD.dE⟩, by have := hD.zE; omega, ?_⟩
      obtain ⟨v0, hv0, t0, p0, rfl, ht0, hp0⟩ := D5.q.g.at (i := 0) (List.length_pos_iff.mpr hD.nz)
      have at0 : atI ys 0 = some (.ref t0) := atI_nat (j := 0) hv0
      have hDb := D5.q.hb
      walk_at "st"
      refine ⟨by walk_at "sz", fun tt ntt => ?_⟩; generalize eH6 : upd _ tt _ = H6; have s6 := AU.newS ntt eH6; have htt := AU.newH eH6; clear eH6
      have np3 := none_back s4 np
      have nHm : Same H3 (upd H6 p (.lst (ws ++ [.ref tt]))) := AU.mutS (s4.trans (s5.trans s6)) np3
      walk_at "st"
      have D7 := D3.mono nHm
      have L7 := L3.mono nHm
      refine ⟨l1, a, xs, xs, R, m, rfl, L7.ha, L7.e, D7.q.ha, D7.q.e, ⟨hD.q.vR, hD.q.m0, hD.q.m3, hD.q.dR⟩, by have := hD.zR; omega, ?_⟩
      walk_at "st"
      refine ⟨l2, b, ys, ys, FF, m, rfl, L7.hb, L7.g, D7.q.hb, D7.q.g, ⟨hD.q.vF, hD.q.m0, hD.q.m3, hD.q.dF⟩, by have := hD.q.zF; omega, ?_⟩
      walk_at "st"
      exact ⟨_, _, rfl, nHm⟩
    · rintro σ H4 ⟨y4, y6, rfl, s4⟩
      have D4 := D3.mono s4
      have hEa := D4.he
      walk_at "st"
      intro l5 nl5; generalize eH5 : upd _ l5 _ = H5; have s5 := AU.newS nl5 eH5; have hl5 := AU.newH eH5; clear eH5
      walk_at "st"
      have D5 := D4.mono s5
      have hm0 := hD.q.m0
      have hm3 := hD.q.m3
      have nn : ∀ {es : List Ent}, DimN m es → ∀ e ∈ es, e.1 ≠ [] := fun {es} h e he z => by
        have := h e he
        rw [z] at this
        have : 0 = m := this
        omega
      refine ⟨b, ys, FF, rfl, ⟨D5.q.hb, D5.q.g, D5.q.zF, nn D5.q.dF⟩, fun e he => by rw [D5.q.dF e he]; omega, fun r p ws H6 hr s6 np hp hE => ?_⟩
      have hrm : r = mirP FF := hr.one (mirP_is hD.q.vF hD.q.dF)
      subst hrm
      have D6 := D5.mono s6
      obtain ⟨Q6, S6⟩ := D6.back (s6 _ _ hl5) hp hE
      walk_at "st"
      refine ⟨l5, p, es, ws, EX, mirP FF, S, m, C, U2, rfl, Q6, fun z => hD.nz (mirP_nil.mp z), S6, fun r p7 ws7 H7 hr7 s7 np7 hp7 hE7 => ?_⟩
      have hrR : r = R := Valid.ext hr7.v hD.q.vR fun k => by
        rw [hr7.s, hD.s.e, times_congr (mir_congr (mirP_is hD.q.vF hD.q.dF).s) (fun _ => rfl), mirL_mir]
      subst hrR
      have D7 := D6.mono s7
      walk_at "st"
      refine ⟨p7, a, ws7, xs, r, m, rfl, hp7, hE7, D7.q.ha, D7.q.e, ⟨hD.q.vR, hD.q.m0, hD.q.m3, hD.q.dR⟩, by have := hD.zR; omega, ?_⟩
      walk_at "st"
      refine ⟨e, es, EX, m, rfl, ⟨D7.he, D7.hE, by have := hD.zE; omega, nn hD.dE⟩, hD.x.v, hD.dE, by omega, Nat.mul_le_mul hD.zE hD.zE, hD.nE, fun r1 p8 ws8 H8 hr8 s8 np8 hp8 hE8 => ?_⟩
      walk_at "st"
      have D8 := D7.mono s8
      refine ⟨a, xs, r, m, rfl, ⟨D8.q.ha, D8.q.e, by have := hD.zR; omega, nn hD.q.dR⟩, hD.q.vR, hD.q.dR, by omega, Nat.mul_le_mul hD.zR hD.zR, hD.nR, fun r2 p9 ws9 H9 hr9 s9 np9 hp9 hE9 => ?_⟩
      have h12 : r1 = r2 := Valid.ext hr8.v hr9.v fun k => by rw [hr8.s, hr9.s]; exact own_flip FF S hD.s.e hD.x.s k
      subst h12
      walk_at "st"
      refine AU.eqD_ ((hE8.mono s9).dp (by walk_at "sl")) (hE9.dp (by walk_at "sl")) (shaped_row _) (shaped_row _) ?_
      rw [show PyData.eqv (dRow r1) (dRow r1) = true from SeqAt.eqv_refl _ (SeqAt.canLay_of_shaped (shaped_row r1))]
      walk_at "st"
      exact q _ (s03.trans (s4.trans (s5.trans (s6.trans (s7.trans (s8.trans s9))))))
end
end OT

set_option Elab.async false
set_option linter.all false
set_option maxRecDepth 100000
set_option maxHeartbeats 4000000
namespace OT
open PySem PySem.Spec PyProof.Rows L2
/-- one term beside a multiple -/
theorem mono_fac {n : Nat} {F D R : List Ent} {p : Pl} {v : Int} (vF : Valid F) (dF : DimN n F) (dD : DimN n D) (hF : F ≠ []) (hv : v ≠ 0) (hR : ∀ q, numAt R q = numAt (timesL F D ++ [(p, v)]) q) (h : Fac R F n) : ∃ f, F = [f] ∧ f.2 ∣ v := by
  obtain ⟨S, dS, hS⟩ := h
  have rT := rowOf_is (S ++ negs D)
  have dT : DimN n (rowOf (S ++ negs D)) := DimN.of rT (dS.app dD.negs)
  have eT : ∀ q, numAt (timesL F (rowOf (S ++ negs D))) q = numAt [(p, v)] q := fun q => by
    rw [timesL_eq2 _ rT.s, timesL_app2, timesL_neg2, ← hS, hR, numAt_app]
    omega
  have vT := rT.v
  have at0 : ∀ q, numAt (timesL F (rowOf (S ++ negs D))) q ≠ 0 → q = p := fun q hq => by
    rw [eT] at hq
    apply Classical.byContradiction
    intro z
    apply hq
    show (if p = q then v else 0) + 0 = 0
    rw [if_neg (fun y => z y.symm)]
    rfl
  generalize rowOf (S ++ negs D) = T at vT dT eT at0
  have hT : T ≠ [] := fun z => by
    rw [z] at eT
    have h1 := eT p
    have h2 : numAt (timesL F []) p = 0 := numAt_out fun x hx => by
      obtain ⟨_, _, g, hg, _⟩ := timesL_mem hx
      cases hg
    rw [h2] at h1
    have h3 : numAt [(p, v)] p = v := by
      show (if p = p then v else 0) + 0 = v
      rw [if_pos rfl, Int.add_zero]
    omega
  have same : ∀ a ∈ F, ∀ b ∈ F, a.1 = b.1 := fun a ha b hb => by
    have la := dF a ha
    have lb := dF b hb
    refine List.ext_getElem? fun k => ?_
    by_cases hk : k < n
    · obtain ⟨f1, hf1, m1⟩ := exists_min (fun p => p.getD k 0) hF
      obtain ⟨g1, hg1, m2⟩ := exists_min (fun p => p.getD k 0) hT
      obtain ⟨f2, hf2, m3⟩ := exists_min (fun p => -(p.getD k 0)) hF
      obtain ⟨g2, hg2, m4⟩ := exists_min (fun p => -(p.getD k 0)) hT
      obtain ⟨q1, e1, z1⟩ := edge (φ := fun p => p.getD k 0) (n := n) (fun p q hp hq => coord_add p q hp hq) vF vT dF dT hf1 m1 hg1 m2
      obtain ⟨q2, e2, z2⟩ := edge (φ := fun p => -(p.getD k 0)) (n := n) (fun p q hp hq => by
        show -((plusP p q).getD k 0) = -(p.getD k 0) + -(q.getD k 0)
        rw [coord_add p q hp hq]
        omega) vF vT dF dT hf2 m3 hg2 m4
      rw [at0 q1 z1] at e1
      rw [at0 q2 z2] at e2
      have a1 : f1.1.getD k 0 ≤ a.1.getD k 0 := m1 a ha
      have b1 : f1.1.getD k 0 ≤ b.1.getD k 0 := m1 b hb
      have a2 : -(f2.1.getD k 0) ≤ -(a.1.getD k 0) := m3 a ha
      have b2 : -(f2.1.getD k 0) ≤ -(b.1.getD k 0) := m3 b hb
      have t1 : g1.1.getD k 0 ≤ g2.1.getD k 0 := m2 g2 hg2
      have e1' : p.getD k 0 = f1.1.getD k 0 + g1.1.getD k 0 := e1
      have e2' : -(p.getD k 0) = -(f2.1.getD k 0) + -(g2.1.getD k 0) := e2
      have : a.1.getD k 0 = b.1.getD k 0 := by omega
      rw [List.getElem?_eq_getElem (by omega), List.getElem?_eq_getElem (by omega)]
      rw [getD_some (List.getElem?_eq_getElem (show k < a.1.length by omega)), getD_some (List.getElem?_eq_getElem (show k < b.1.length by omega))] at this
      rw [this]
    · rw [List.getElem?_eq_none (by omega), List.getElem?_eq_none (by omega)]
  cases F with
  | nil => exact absurd rfl hF
  | cons f F =>
    cases F with
    | cons f2 F =>
      have h1 := (List.pairwise_cons.mp vF.asc).1 f2 List.mem_cons_self
      exact absurd (same f List.mem_cons_self f2 (List.mem_cons_of_mem _ List.mem_cons_self)) (lt_ne h1)
    | nil =>
      refine ⟨f, rfl, ?_⟩
      cases T with
      | nil => exact absurd rfl hT
      | cons t T =>
        have l1 := (lead_at vF vT dF dT).1
        have hq := at0 _ (by rw [l1]; exact Int.mul_ne_zero (vF.nz f List.mem_cons_self) (vT.nz t List.mem_cons_self))
        rw [eT, hq] at l1
        have h3 : numAt [(p, v)] p = v := by
          show (if p = p then v else 0) + 0 = v
          rw [if_pos rfl, Int.add_zero]
        rw [h3] at l1
        exact ⟨t.2, l1⟩
/-! a factor times a number -/
theorem timesL_scale (S : List Ent) (k : Int) : ∀ F : List Ent, timesL (scaleL F k) S = timesL F (scaleL S k)
  | [] => rfl
  | e :: r => by
    show rowT (e.1, e.2 * k) S ++ timesL (scaleL r k) S = rowT e (scaleL S k) ++ timesL r (scaleL S k)
    rw [timesL_scale S k r]
    congr 1
    unfold rowT scaleL
    rw [List.map_map]
    refine List.map_congr_left fun g _ => ?_
    show (plusP e.1 g.1, e.2 * k * g.2) = (plusP e.1 g.1, e.2 * (g.2 * k))
    rw [Int.mul_assoc, Int.mul_comm k]
theorem scaleL_valid {es : List Ent} {k : Int} (hk : k ≠ 0) (h : Valid es) : Valid (scaleL es k) := by
  refine ⟨?_, fun x hx => ?_⟩
  · unfold scaleL
    exact List.pairwise_map.mpr h.asc
  · obtain ⟨e, he, rfl⟩ := List.mem_map.mp hx
    exact Int.mul_ne_zero (h.nz e he) hk
theorem scaleL_dim {n : Nat} {es : List Ent} {k : Int} (h : DimN n es) : DimN n (scaleL es k) := fun x hx => by
  obtain ⟨e, he, rfl⟩ := List.mem_map.mp hx
  exact h e he
theorem numAt_scaleL' (k : Int) (q : Pl) : ∀ es : List Ent, numAt (scaleL es k) q = numAt es q * k
  | [] => by show (0 : Int) = 0 * k; rw [Int.zero_mul]
  | e :: r => by
    show (if e.1 = q then e.2 * k else 0) + numAt (scaleL r k) q = ((if e.1 = q then e.2 else 0) + numAt r q) * k
    rw [numAt_scaleL' k q r, Int.add_mul]
    by_cases h : e.1 = q
    · rw [if_pos h, if_pos h]
    · rw [if_neg h, if_neg h, Int.zero_mul]
theorem valid_num : ∀ {es : List Ent}, Valid es → ∀ e ∈ es, numAt es e.1 = e.2
  | [], _, e, h => by cases h
  | f :: r, v, e, h => by
    obtain ⟨p1, p2⟩ := List.pairwise_cons.mp v.asc
    show (if f.1 = e.1 then f.2 else 0) + numAt r e.1 = e.2
    rcases List.mem_cons.mp h with rfl | h
    · rw [if_pos rfl, numAt_out fun x hx z => lt_ne (p1 x hx) z.symm, Int.add_zero]
    · rw [if_neg (lt_ne (p1 e h)), valid_num v.tail e h, Int.zero_add]
theorem fac_scale_no {n : Nat} {R F : List Ent} {k : Int} (h : ¬ Fac R F n) : ¬ Fac R (scaleL F k) n := by
  rintro ⟨S, dS, e⟩
  exact h ⟨scaleL S k, scaleL_dim dS, fun q => by rw [e, timesL_scale]⟩
def partL (S : List Ent) (k : Int) : List Ent := S.map fun e => (e.1, e.2 / k)
theorem partL_scale {S : List Ent} {k : Int} (h : ∀ e ∈ S, k ∣ e.2) : scaleL (partL S k) k = S := by
  unfold scaleL partL
  rw [List.map_map]
  have : ∀ e ∈ S, ((fun e : Ent => (e.1, e.2 * k)) ∘ fun e : Ent => (e.1, e.2 / k)) e = e := fun e he => by
    show (e.1, e.2 / k * k) = e
    rw [Int.ediv_mul_cancel (h e he)]
  rw [List.map_congr_left this, List.map_id']
theorem partL_valid {S : List Ent} {k : Int} (v : Valid S) (h : ∀ e ∈ S, k ∣ e.2) : Valid (partL S k) := by
  refine ⟨?_, fun x hx => ?_⟩
  · unfold partL
    exact List.pairwise_map.mpr v.asc
  · obtain ⟨e, he, rfl⟩ := List.mem_map.mp hx
    intro z
    have h1 := Int.ediv_mul_cancel (h e he)
    have z' : e.2 / k = 0 := z
    rw [z', Int.zero_mul] at h1
    exact v.nz e he h1.symm
theorem fac_part {R F S : List Ent} {k : Int} (h : ∀ e ∈ S, k ∣ e.2) (e : ∀ q, numAt R q = numAt (timesL F S) q) : ∀ q, numAt R q = numAt (timesL (scaleL F k) (partL S k)) q := fun q => by
  rw [timesL_scale, partL_scale h, e]
theorem fac_part_no {n : Nat} {R F S : List Ent} {k : Int} (vF : Valid F) (vS : Valid S) (dF : DimN n F) (dS : DimN n S) (hF : F ≠ []) (e : ∀ q, numAt R q = numAt (timesL F S) q) {x : Ent} (hx : x ∈ S) (hk : ¬ k ∣ x.2) : ¬ Fac R (scaleL F k) n := by
  rintro ⟨T, dT, eT⟩
  have rT := rowOf_is (scaleL T k)
  have h1 := quot_one vF vS rT.v dF dS (DimN.of rT (scaleL_dim dT)) hF fun q => by rw [← e, eT, timesL_scale, timesL_eq2 _ rT.s]
  apply hk
  rw [← valid_num vS x hx, h1, rT.s, numAt_scaleL']
  exact Int.dvd_mul_left _ _
def NearP (R : List Ent) (mg : Nat) (q : Pl) : Prop := ∀ (k : Nat) (x : Int), q[k]? = some x → (R = [] → x.natAbs ≤ mg) ∧ (R ≠ [] → (∃ e ∈ R, ∃ y, e.1[k]? = some y ∧ y - (mg : Int) ≤ x) ∧ ∃ e ∈ R, ∃ y, e.1[k]? = some y ∧ x ≤ y + (mg : Int))
/-! places in boxes -/
def boxU : Pl → List Nat → List Pl
  | x :: o, b :: bs => (List.range b).flatMap fun (i : Nat) => (boxU o bs).map fun k => (x + (i : Int)) :: k
  | _, _ => [[]]
theorem boxU_len : ∀ (o : Pl) (bs : List Nat), o.length = bs.length → (boxU o bs).length = bs.foldr (· * ·) 1
  | [], [], _ => rfl
  | [], _ :: _, h => by cases h
  | _ :: _, [], h => by cases h
  | x :: o, b :: bs, h => by
    have ih := boxU_len o bs (Nat.succ.inj h)
    show ((List.range b).flatMap fun (i : Nat) => (boxU o bs).map fun k => (x + (i : Int)) :: k).length = b * bs.foldr (· * ·) 1
    rw [List.length_flatMap]
    have : ∀ l : List Nat, (l.map fun (i : Nat) => ((boxU o bs).map fun k => (x + (i : Int)) :: k).length).sum = l.length * (boxU o bs).length := fun l => by
      induction l with
      | nil => rw [List.length_nil, Nat.zero_mul]; rfl
      | cons a r ih2 =>
        rw [List.map_cons, List.sum_cons, ih2, List.length_map, List.length_cons, Nat.succ_mul]
        omega
    rw [this, List.length_range, ih]
theorem boxU_mem : ∀ {o : Pl} {bs : List Nat} {k : Pl}, o.length = bs.length → k.length = o.length → InN o bs k → k ∈ boxU o bs
  | [], [], [], _, _, _ => List.mem_cons_self
  | [], [], _ :: _, _, h, _ => by cases h
  | [], _ :: _, _, h, _, _ => by cases h
  | _ :: _, [], _, h, _, _ => by cases h
  | _ :: _, _ :: _, [], _, h, _ => by cases h
  | x :: o, b :: bs, y :: k, h1, h2, h => by
    obtain ⟨a1, a2⟩ := h 0 y x b rfl rfl rfl
    refine List.mem_flatMap.mpr ⟨(y - x).toNat, List.mem_range.mpr (by omega), List.mem_map.mpr ⟨k, boxU_mem (Nat.succ.inj h1) (Nat.succ.inj h2) fun i x' y' b' hx hy hb => h (i + 1) x' y' b' hx hy hb, ?_⟩⟩
    rw [show x + ((y - x).toNat : Int) = y by omega]
/-- few places lie between the entries -/
def Fits (R : List Ent) (m : Nat) : Prop := ∃ U : List Pl, U.length ≤ 10000 ∧ ∀ k : Pl, k.length = m → Btw R k → k ∈ U
theorem fits_boxed {R : List Ent} {bs : List Nat} (hd : DimN bs.length R) (h : Boxed bs R) (hp : bs.foldr (· * ·) 1 ≤ 10000) : Fits R bs.length := by
  obtain ⟨o, ho, hb⟩ := h
  refine ⟨boxU o bs, by rw [boxU_len o bs ho]; exact hp, fun k hk b => boxU_mem ho (by omega) fun i x y c hx hy hc => ?_⟩
  obtain ⟨⟨a, ha, u, eu, lu⟩, g, hg, v, ev, lv⟩ := b i x hx
  have h1 := hb a ha i u y c eu hy hc
  have h2 := hb g hg i v y c ev hy hc
  omega
theorem fits_one {R : List Ent} {q : Pl} (h : ∀ e ∈ R, e.1 = q) : Fits R q.length := by
  refine ⟨[q], (by show 1 ≤ 10000; decide), fun k hk b => List.mem_singleton.mpr (List.ext_getElem? fun i => ?_)⟩
  by_cases c : i < k.length
  · obtain ⟨⟨a, ha, u, eu, lu⟩, g, hg, v, ev, lv⟩ := b i _ (List.getElem?_eq_getElem c)
    rw [h a ha] at eu
    rw [h g hg] at ev
    rw [eu] at ev
    cases ev
    rw [List.getElem?_eq_getElem c, eu]
    congr 1
    omega
  · rw [List.getElem?_eq_none (by omega), List.getElem?_eq_none (by omega)]
def dblB (bs : List Nat) : List Nat := bs.map fun b => 2 * b - 1
theorem boxed_times {bs : List Nat} {F D : List Ent} (hF : Boxed bs F) (hD : Boxed bs D) : Boxed (dblB bs) (timesL F D) := by
  obtain ⟨o1, l1, h1⟩ := hF
  obtain ⟨o2, l2, h2⟩ := hD
  refine ⟨plusP o1 o2, by rw [plusP_len (by omega)]; unfold dblB; rw [List.length_map]; exact l1, fun e he i x y b hx hy hb => ?_⟩
  obtain ⟨f, hf, g, hg, rfl⟩ := timesL_mem he
  unfold plusP at hx hy
  unfold dblB at hb
  rw [List.getElem?_zipWith] at hx hy
  rw [List.getElem?_map] at hb
  cases e1 : f.1[i]? with
  | none => rw [e1] at hx; cases hx
  | some u =>
  cases e2 : g.1[i]? with
  | none => rw [e1, e2] at hx; cases hx
  | some v =>
  cases e3 : o1[i]? with
  | none => rw [e3] at hy; cases hy
  | some a =>
  cases e4 : o2[i]? with
  | none => rw [e3, e4] at hy; cases hy
  | some c =>
  cases e5 : bs[i]? with
  | none => rw [e5] at hb; cases hb
  | some b0 =>
  rw [e1, e2] at hx
  rw [e3, e4] at hy
  rw [e5] at hb
  have hx' : u + v = x := Option.some.inj hx
  have hy' : a + c = y := Option.some.inj hy
  have hb' : 2 * b0 - 1 = b := Option.some.inj hb
  have k1 := h1 f hf i u a b0 e1 e3 e5
  have k2 := h2 g hg i v c b0 e2 e4 e5
  omega
theorem boxed_row {bs : List Nat} {R es : List Ent} (h : RowIs R es) (hb : Boxed bs es) : Boxed bs R := by
  obtain ⟨o, l, h1⟩ := hb
  refine ⟨o, l, fun e he => ?_⟩
  obtain ⟨x, hx, ex⟩ := h.mem he
  rw [← ex]
  exact h1 x hx
theorem boxed_near {bs : List Nat} {R : List Ent} {q : Pl} {mg : Nat} {v : Int} (hb : Boxed bs R) (hR : R ≠ []) (h : NearP R mg q) : Boxed (bs.map fun b => b + 2 * mg) (R ++ [(q, v)]) := by
  obtain ⟨o, l, h1⟩ := hb
  refine ⟨o.map fun x => x - (mg : Int), by rw [List.length_map, List.length_map]; exact l, fun e he i x y b hx hy hbb => ?_⟩
  rw [List.getElem?_map] at hy hbb
  cases e3 : o[i]? with
  | none => rw [e3] at hy; cases hy
  | some a =>
  cases e5 : bs[i]? with
  | none => rw [e5] at hbb; cases hbb
  | some b0 =>
  rw [e3] at hy
  rw [e5] at hbb
  have hy' : a - (mg : Int) = y := Option.some.inj hy
  have hb' : b0 + 2 * mg = b := Option.some.inj hbb
  rcases List.mem_append.mp he with he | he
  · have := h1 e he i x a b0 hx e3 e5
    omega
  · rw [List.mem_singleton.mp he] at hx
    obtain ⟨⟨e1, m1, u, eu, lu⟩, e2, m2, w, ew, lw⟩ := (h i x hx).2 hR
    have k1 := h1 e1 m1 i u a b0 eu e3 e5
    have k2 := h1 e2 m2 i w a b0 ew e3 e5
    omega
def boxN (m : Nat) : List Nat := if m = 1 then [4] else if m = 2 then [4, 2] else [2, 2, 2]
theorem boxN_len {m : Nat} (h1 : 1 ≤ m) (h3 : m ≤ 3) : (boxN m).length = m := by
  obtain rfl | rfl | rfl : m = 1 ∨ m = 2 ∨ m = 3 := by omega
  all_goals rfl
theorem boxN_of {m : Nat} {bs : List Nat} (h : bs = [4] ∨ bs = [4, 2] ∨ bs = [2, 2, 2]) (hl : bs.length = m) : bs = boxN m := by
  rcases h with rfl | rfl | rfl <;> subst hl <;> rfl
theorem boxN_pos {m : Nat} : ∀ b ∈ boxN m, 1 ≤ b := fun b hb => by
  unfold boxN at hb
  by_cases c1 : m = 1
  · rw [if_pos c1] at hb; simp at hb; omega
  · rw [if_neg c1] at hb
    by_cases c2 : m = 2
    · rw [if_pos c2] at hb; simp at hb; omega
    · rw [if_neg c2] at hb; simp at hb; omega
theorem dbl_len (m : Nat) : (dblB (boxN m)).length = (boxN m).length := List.length_map _
theorem fits_dbl {R : List Ent} {m : Nat} (h1 : 1 ≤ m) (h3 : m ≤ 3) (hd : DimN m R) (h : Boxed (dblB (boxN m)) R) : Fits R m := by
  have l := boxN_len h1 h3
  have e : (dblB (boxN m)).length = m := by rw [dbl_len, l]
  have := fits_boxed (bs := dblB (boxN m)) (R := R) (by rw [e]; exact hd) h (by
    obtain rfl | rfl | rfl : m = 1 ∨ m = 2 ∨ m = 3 := by omega
    all_goals decide)
  rwa [e] at this
theorem fits_near {R R' : List Ent} {m : Nat} {q : Pl} {mg : Nat} {v : Int} (h1 : 1 ≤ m) (h3 : m ≤ 3) (hd : DimN m R') (hR : RowIs R' (R ++ [(q, v)])) (hq : q.length = m) (hmg : mg ≤ 6) (h : Boxed (dblB (boxN m)) R) (hn : NearP R mg q) : Fits R' m := by
  by_cases c : R = []
  · subst c
    rw [← hq]
    refine fits_one fun e he => ?_
    obtain ⟨x, hx, ex⟩ := hR.mem he
    rw [List.mem_singleton.mp hx] at ex
    exact ex.symm
  · have l := boxN_len h1 h3
    have e : ((dblB (boxN m)).map fun b => b + 2 * mg).length = m := by rw [List.length_map, dbl_len, l]
    have := fits_boxed (bs := (dblB (boxN m)).map fun b => b + 2 * mg) (R := R') (by rw [e]; exact hd) (boxed_row hR (boxed_near h c hn)) (by
      obtain rfl | rfl | rfl : m = 1 ∨ m = 2 ∨ m = 3 := by omega
      all_goals
        obtain rfl | rfl | rfl | rfl | rfl | rfl | rfl : mg = 0 ∨ mg = 1 ∨ mg = 2 ∨ mg = 3 ∨ mg = 4 ∨ mg = 5 ∨ mg = 6 := by omega
        all_goals decide)
    rwa [e] at this
theorem boxed_zero {m : Nat} {v : Int} : Boxed (boxN m) [(zeros m, v)] := by
  refine ⟨zeros (boxN m).length, List.length_replicate, fun e he i x y b hx hy hb => ?_⟩
  rw [List.mem_singleton.mp he] at hx
  have e1 : x = 0 := (List.mem_replicate.mp (List.mem_of_getElem? hx)).2
  have e2 : y = 0 := (List.mem_replicate.mp (List.mem_of_getElem? hy)).2
  have := boxN_pos b (List.mem_of_getElem? hb)
  omega
theorem boxed_sub {bs : List Nat} {R R' : List Ent} (h : Boxed bs R) (s : ∀ e ∈ R', e ∈ R) : Boxed bs R' := by
  obtain ⟨o, l, h1⟩ := h
  exact ⟨o, l, fun e he => h1 e (s e he)⟩
theorem boxed_dbl {m : Nat} {R : List Ent} (h : Boxed (boxN m) R) : Boxed (dblB (boxN m)) R := by
  obtain ⟨o, l, h1⟩ := h
  refine ⟨o, by rw [dbl_len]; exact l, fun e he i x y b hx hy hb => ?_⟩
  unfold dblB at hb
  rw [List.getElem?_map] at hb
  cases e5 : (boxN m)[i]? with
  | none => rw [e5] at hb; cases hb
  | some b0 =>
  rw [e5] at hb
  have hb' : 2 * b0 - 1 = b := Option.some.inj hb
  have := h1 e he i x y b0 hx hy e5
  have := boxN_pos b0 (List.mem_of_getElem? e5)
  omega
theorem neg_self : ∀ k : Pl, plusP (negP k) k = zeros k.length
  | [] => rfl
  | x :: k => by
    show (-x + x) :: plusP (negP k) k = 0 :: zeros k.length
    rw [neg_self k]
    congr 1
    omega
theorem zeros_plus : ∀ k : Pl, plusP (zeros k.length) k = k
  | [] => rfl
  | x :: k => by
    show (0 + x) :: plusP (zeros k.length) k = x :: k
    rw [zeros_plus k, Int.zero_add]
theorem rowT_mov (f : Ent) (S : List Ent) : rowT f S = scaleL (movL S f.1) f.2 := by
  unfold rowT scaleL movL
  rw [List.map_map]
  refine List.map_congr_left fun g _ => ?_
  show (plusP f.1 g.1, f.2 * g.2) = (plusP g.1 f.1, g.2 * f.2)
  rw [plusP_com, Int.mul_comm]
theorem timesL_single (f : Ent) (S : List Ent) : timesL [f] S = scaleL (movL S f.1) f.2 := by
  show rowT f S ++ [] = _
  rw [List.append_nil, rowT_mov]
theorem single_row {f : Ent} {S R : List Ent} {m : Nat} (hf : f.2 ≠ 0) (df : f.1.length = m) (vS : Valid S) (dS : DimN m S) (h : RowIs R (timesL [f] S)) : R = scaleL (movL S f.1) f.2 := by
  refine Valid.ext h.v (scaleL_valid hf (movL_valid vS fun e he => by rw [dS e he, df]; exact Nat.le_refl _)) fun q => ?_
  rw [h.s, timesL_single]
/-- a shifted row lies between few places too -/
theorem fits_shift {R EX : List Ent} {m : Nat} {t : Pl} (ht : t.length = m) (hd : DimN m EX) (h : ∀ e ∈ EX, ∃ g ∈ R, g.1 = plusP e.1 t) (hf : Fits R m) : Fits EX m := by
  obtain ⟨U, hU, hB⟩ := hf
  refine ⟨U.map fun k => subP k t, by rw [List.length_map]; exact hU, fun k hk hb => List.mem_map.mpr ⟨plusP k t, hB _ (by rw [plusP_len (by omega)]; exact hk) fun i x hx => ?_, ?_⟩⟩
  · have hi : i < k.length := by
      have := (List.getElem?_eq_some_iff.mp hx).1
      rwa [plusP_len (by omega)] at this
    have hit : i < t.length := by omega
    have hx' : k[i] + t[i] = x := by
      have h1 := List.getElem?_eq_some_iff.mp hx
      obtain ⟨h2, h3⟩ := h1
      rw [← h3, plusP_get h2 hi hit]
    obtain ⟨⟨a, ha, u, eu, lu⟩, b, hb2, v, ev, lv⟩ := hb i k[i] (List.getElem?_eq_getElem hi)
    have sh : ∀ (a : Ent) (u : Int), a ∈ EX → a.1[i]? = some u → ∃ g ∈ R, g.1[i]? = some (u + t[i]) := fun a u ha eu => by
      obtain ⟨g, hg, e⟩ := h a ha
      refine ⟨g, hg, ?_⟩
      have la := hd a ha
      have hia : i < a.1.length := by omega
      have hip : i < (plusP a.1 t).length := by rw [plusP_len (by omega)]; exact hia
      rw [e, List.getElem?_eq_getElem hip, plusP_get hip hia hit]
      obtain ⟨_, e2⟩ := List.getElem?_eq_some_iff.mp eu
      rw [e2]
    obtain ⟨g1, hg1, e1⟩ := sh a u ha eu
    obtain ⟨g2, hg2, e2⟩ := sh b v hb2 ev
    exact ⟨⟨g1, hg1, _, e1, by omega⟩, g2, hg2, _, e2, by omega⟩
  · rw [plusP_com, sub_plusP (by omega)]
theorem fits_mirror {f : Ent} {S R EX : List Ent} {m : Nat} (hf : f.2 ≠ 0) (df : f.1.length = m) (vS : Valid S) (dS : DimN m S) (h : RowIs R (timesL [f] S)) (k : RowIs EX (timesL (mirL [f]) S)) (hF : Fits R m) : Fits EX m := by
  have e1 := single_row hf df vS dS h
  have e2 : EX = scaleL (movL S (negP f.1)) f.2 := single_row (f := (negP f.1, f.2)) hf (by rw [negP_len]; exact df) vS dS k
  have ln : (negP f.1).length = m := by rw [negP_len]; exact df
  refine fits_shift (t := plusP f.1 f.1) (R := R) (by rw [plusP_len (Nat.le_refl _)]; exact df) ?_ ?_ hF
  · rw [e2]
    exact scaleL_dim fun e he => by
      obtain ⟨y, hy, rfl⟩ := List.mem_map.mp he
      show (plusP y.1 (negP f.1)).length = m
      rw [plusP_len (by rw [dS y hy]; omega), dS y hy]
  · intro e he
    rw [e2] at he
    obtain ⟨y, hy, rfl⟩ := List.mem_map.mp he
    obtain ⟨z, hz, rfl⟩ := List.mem_map.mp hy
    refine ⟨(plusP z.1 f.1, z.2 * f.2), ?_, ?_⟩
    · rw [e1]
      exact List.mem_map.mpr ⟨(plusP z.1 f.1, z.2), List.mem_map.mpr ⟨z, hz, rfl⟩, rfl⟩
    · show plusP z.1 f.1 = plusP (plusP z.1 (negP f.1)) (plusP f.1 f.1)
      rw [plusP_assoc, ← plusP_assoc (negP f.1)]
      have : plusP (negP f.1) f.1 = zeros f.1.length := neg_self f.1
      rw [this, zeros_plus]
/-! bounds of numbers -/
def NB (U : Nat) (es : List Ent) : Prop := ∀ e ∈ es, e.2.natAbs ≤ U
theorem numAt_le {U : Nat} : ∀ {es : List Ent}, NB U es → ∀ q, (numAt es q).natAbs ≤ es.length * U
  | [], _, _ => Nat.zero_le _
  | e :: r, h, q => by
    have ih := numAt_le (fun x hx => h x (List.mem_cons_of_mem _ hx)) q
    have he := h e List.mem_cons_self
    show ((if e.1 = q then e.2 else 0) + numAt r q).natAbs ≤ (r.length + 1) * U
    rw [Nat.succ_mul]
    by_cases c : e.1 = q
    · rw [if_pos c]
      omega
    · rw [if_neg c]
      omega
theorem RowIs.nb {r es : List Ent} {U : Nat} (h : RowIs r es) (hb : NB U es) : NB (es.length * U) r := fun e he => by
  have h1 := h.v.at e he
  rw [← h1, h.s]
  exact numAt_le hb _
theorem NB.le {U W : Nat} {es : List Ent} (h : NB U es) (k : U ≤ W) : NB W es := fun e he => Nat.le_trans (h e he) k
theorem NB.times {U W : Nat} {es fs : List Ent} (h : NB U es) (k : NB W fs) : NB (U * W) (timesL es fs) := fun e he => by
  obtain ⟨f, hf, g, hg, rfl⟩ := timesL_mem he
  show (f.2 * g.2).natAbs ≤ U * W
  rw [Int.natAbs_mul]
  exact Nat.mul_le_mul (h f hf) (k g hg)
theorem NB.mir {U : Nat} {es : List Ent} (h : NB U es) : NB U (mirL es) := fun e he => by
  obtain ⟨y, hy, rfl⟩ := List.mem_map.mp he
  exact h y hy
theorem NB.num {U : Nat} {es : List Ent} (h : NB U es) (k : U ≤ 10 ^ 19) : ∀ e ∈ es, -(2 ^ 64) < e.2 ∧ e.2 < 2 ^ 64 := fun e he => by
  have := h e he
  have h0 : (2 : Int) ^ 64 = 18446744073709551616 := by decide
  have h1 : (10 : Nat) ^ 19 = 10000000000000000000 := by decide
  omega
/-! coordinates -/
def CB (C : Nat) (es : List Ent) : Prop := ∀ e ∈ es, ∀ x ∈ e.1, x.natAbs ≤ C
theorem CB.times {C D : Nat} {es fs : List Ent} (h : CB C es) (k : CB D fs) : CB (C + D) (timesL es fs) := fun e he x hx => by
  obtain ⟨f, hf, g, hg, rfl⟩ := timesL_mem he
  obtain ⟨u, hu, v, hv, rfl⟩ := plusP_mem hx
  have := h f hf u hu
  have := k g hg v hv
  omega
theorem CB.of {C : Nat} {r es : List Ent} (h : RowIs r es) (k : CB C es) : CB C r := fun e he => by
  obtain ⟨x, hx, ex⟩ := h.mem he
  rw [← ex]
  exact k x hx
theorem CB.mir {C : Nat} {es : List Ent} (h : CB C es) : CB C (mirL es) := fun e he x hx => by
  obtain ⟨y, hy, rfl⟩ := List.mem_map.mp he
  obtain ⟨z, hz, rfl⟩ := List.mem_map.mp hx
  have := h y hy z hz
  omega
theorem CB.le {C D : Nat} {es : List Ent} (h : CB C es) (k : C ≤ D) : CB D es := fun e he x hx => Nat.le_trans (h e he x hx) k
end OT

set_option Elab.async false
set_option linter.all false
set_option maxRecDepth 100000
set_option maxHeartbeats 4000000
namespace OT
open PySem PySem.Spec PyProof.Rows L2
local macro_rules | `(tactic| walk_at "sm") => `(tactic| first | assumption | exact AU.mutS (by walk_at "sm") (by assumption))
local macro_rules | `(tactic| walk_at "le") => `(tactic| first | (refine Nat.le_of_lt (AU.line ?_); (try simp only [List.length_append, List.length_map, List.length_cons, List.length_nil, List.length_take, List.length_replicate]); omega))
local macro_rules | `(tactic| walk_at "ll") => `(tactic| first | (show 0 < sizeLine; decide) | (show 1 < sizeLine; decide) | (show 2 < sizeLine; decide) | (show 3 < sizeLine; decide) | (refine AU.line ?_; (try simp only [List.length_append, List.length_map, List.length_cons, List.length_nil, List.length_take, List.length_replicate]); omega))
local macro_rules | `(tactic| walk_at "hl") => `(tactic| first | assumption | exact upd_same | exact AU.climb (by walk_at "sm") (by walk_at "hl"))
local macro_rules | `(tactic| walk_at "sl") => `(tactic| first | assumption | exact AU.sqL (by walk_at "hl") | exact AU.sqLS (by walk_at "sm") (by walk_at "sl"))
local macro_rules | `(tactic| walk_at "tl") => `(tactic| first | assumption | exact AU.sqT (by walk_at "hl") | exact AU.sqTS (by walk_at "sm") (by walk_at "tl"))
local macro_rules | `(tactic| walk_at "sz") => `(tactic| first | (show 0 ≤ sizeLine; decide) | (show 1 ≤ sizeLine; decide) | (show 2 ≤ sizeLine; decide) | (show 3 ≤ sizeLine; decide) | (show 4 ≤ sizeLine; decide) | (show 5 ≤ sizeLine; decide) | (show 6 ≤ sizeLine; decide) | (show 7 ≤ sizeLine; decide) | (show 8 ≤ sizeLine; decide) | (show 9 ≤ sizeLine; decide) | (show 10 ≤ sizeLine; decide))
local macro_rules | `(tactic| walk_at "ci") => `(tactic| first | exact trivial | omega | (show (0 : Int) < _; omega) | (show CMul _ _; exact .inl ⟨by omega, by omega⟩) | (show CMul _ _; exact .inr ⟨by omega, by omega⟩) | (show CMul _ _; exact .inr (AU.b01 _)) | (show CMul _ _; exact .inl (AU.b01 _)) | (show CDiv _ _; exact ⟨by omega, by omega⟩) | (show _ ≠ (0 : Int); omega) | (show CDiv _ _; exact ⟨by decide, by decide⟩))
local macro_rules | `(tactic| walk_at "hh") => `(tactic| first | assumption | exact OT.HeldF.mono (by walk_at "sm") (by walk_at "hh"))
local macro_rules | `(tactic| walk_at "tyx") => `(tactic| first | exact .base (.int _) | exact .base (.bl _) | exact .base (.str _) | exact .base (.lst (by walk_at "hl")) | exact .base (.tup (by walk_at "hl")))
local macro_rules | `(tactic| walk_at "st1") => `(tactic| first | ((with_reducible show tSeq _ _ _ _ _); (try simp only [List.set_cons_zero, List.set_cons_succ]); refine AU.seq_ ?_) | ((with_reducible show tAsg _ _ _ _ _); refine AU.asg_ ?_) | ((with_reducible show gName _ _ _ _ _); refine AU.name_ ?_) | ((with_reducible show tDrop _ _ _ _); refine AU.drop_ ?_) | ((with_reducible show tRet _ _ _ _); refine AU.ret_ ?_) | ((with_reducible show tRetN _ _ _); refine AU.retN_ ?_) | ((with_reducible show tNext _ _ _); refine AU.next_ ?_) | ((with_reducible show tBreak _ _ _); refine AU.brk_ ?_) | ((with_reducible show tCont _ _ _); refine AU.cont_ ?_) | ((with_reducible show tIfS _ _ _ _ _ _); refine AU.ifs_ ?_) | ((with_reducible show tAug _ _ _ _ _ _); refine AU.aug_ rfl ?_) | ((with_reducible show Ends.nx (Ends.mk _ _ _ _) _ _); refine AU.nxm ?_) | ((with_reducible show Ends.rt (Ends.mk _ _ _ _) _ _); refine AU.rtm ?_) | ((with_reducible show Ends.bk (Ends.mk _ _ _ _) _ _); refine AU.bkm ?_) | ((with_reducible show Ends.ct (Ends.mk _ _ _ _) _ _); refine AU.ctm ?_) | ((with_reducible show tVar _ _ _ _); refine AU.var_ rfl ?_) | ((with_reducible show tC _ _ _ _); refine AU.c_ ?_) | ((with_reducible show tOp _ _ _ _ _ _); refine AU.op_ ?_) | ((with_reducible show tUn _ _ _ _ _); refine AU.un_ ?_) | ((with_reducible show rU _ _ _ _); refine AU.u_ ?_) | ((with_reducible show rI0 _ _ _ _ _); refine AU.i0_ ?_) | ((with_reducible show rI _ _ _ _ _ _); refine AU.i_ (by walk_at "ci") ?_) | ((with_reducible show rEq (V.int _) (V.int _) _ _); first | (with_reducible refine AU.eqr_ ?_) | refine AU.eqi_ ?_) | ((with_reducible show rEq (V.str _) (V.str _) _ _); (with_reducible refine AU.eqs_ ?_)) | ((with_reducible show rNe (V.int _) (V.int _) _ _); refine AU.nei_ ?_) | ((with_reducible show rEq _ _ _ _); refine AU.eq_ rfl ?_) | ((with_reducible show rNe _ _ _ _); refine AU.ne_ rfl ?_) | ((with_reducible show tTest _ _ _ _); refine AU.test_ ?_) | ((with_reducible show tB _ _ _ _); refine AU.b_ ?_) | ((with_reducible show tAnd _ _ _ _ _); refine AU.and_ ?_) | ((with_reducible show tOr _ _ _ _ _); refine AU.or_ ?_) | ((with_reducible show tNot _ _ _ _); refine AU.not_ ?_) | ((with_reducible show tAndV _ _ _ _ _); refine AU.andV_ ?_) | ((with_reducible show tOrV _ _ _ _ _); refine AU.orV_ ?_) | ((with_reducible show tNotV _ _ _ _); refine AU.notV_ ?_) | ((with_reducible show tIf _ _ _ _ _ _); refine AU.if_ ?_) | ((with_reducible show tNil _ _ _); refine AU.nil_ ?_) | ((with_reducible show tCons _ _ _ _ _); refine AU.cons_ ?_) | ((with_reducible show tLst _ _ _ _); refine AU.lst_ ?_) | ((with_reducible show tTup _ _ _ _); refine AU.tup_ ?_) | ((with_reducible show tCall _ _ _ _ _ _ _); refine AU.call_ ?_) | ((with_reducible show tCallS _ _ _ _ _ _); refine AU.callS_ ?_) | ((with_reducible show tCB _ _ _ _ _); refine AU.cb_ ?_) | ((with_reducible show tBM _ _ _ _ _ _ _ _); refine AU.bm_ ?_) | ((with_reducible show rIxL _ _ _ _ _); refine AU.ixL_ (by walk_at "sl") (by first | assumption | rfl) ?_) | ((with_reducible show rIxT _ _ _ _ _); refine AU.ixT_ (by walk_at "tl") (by first | assumption | rfl) ?_) | ((with_reducible show Evl.rLenS _ _ _ _); first | refine AU.lenL_ (by walk_at "sl") ?_ | refine AU.lenT_ (by walk_at "tl") ?_) | ((with_reducible show rAppend (V.ref _) [_] _ _); refine AU.app_ (by walk_at "hl") (by walk_at "ll") ?_) | ((with_reducible show tyV _ _ (V.ref _) _ ∧ _); refine AU.tyl_ (by walk_at "sl") ?_) | ((with_reducible show rCat (V.ref _) (V.ref _) _ _); refine AU.cat_ (by walk_at "hl") (by walk_at "hl") (by walk_at "le") ?_) | ((with_reducible show tFor _ _ _ _ _ _); refine AU.for_ ?_) | ((with_reducible show tLc _ _ _ _ _ _ _ _); refine AU.lc_ ?_) | ((with_reducible show iRng1 _ _ _ _); refine AU.rng1_ ?_) | ((with_reducible show iList _ _ _ _ _); refine AU.list_ ?_) | ((with_reducible show iTup _ _ _ _ _); refine AU.itup_ ?_) | ((with_reducible show (∃ i, [V.bl _] = [V.int i] ∧ _) ∨ _); refine AU.intb_ ?_) | ((with_reducible show (∃ i, [V.int _] = [V.int i] ∧ _) ∨ _); refine AU.inti_ ?_) | ((with_reducible show tYes _ _ _); refine AU.yes_ ?_) | ((with_reducible show ∃ p ys, [V.ref _] = [V.ref p] ∧ (SqL _ _ p ys ∨ SqT _ _ p ys) ∧ _); first | refine AU.listof_ (by walk_at "sl") ?_ | refine AU.listofT_ (by walk_at "tl") ?_) | ((with_reducible show ∃ p ys, [V.ref _] = [V.ref p] ∧ ((SqL _ _ p ys ∧ _) ∨ (SqT _ _ p ys ∧ _))); first | refine AU.tupleof_ (by walk_at "sl") ?_ | refine AU.tupleofT_ (by walk_at "tl") ?_) | ((with_reducible show V.non = V.non ∧ _); refine ⟨rfl, ?_⟩) | ((with_reducible show OT.rIsX _ _ _ _ [V.ref _, _] _ _); refine OT.isX_ (by walk_at "hh") (by first | exact .own _ | exact .ty _) (by assumption) ?_) | ((with_reducible show OT.tFA _ _ _ _ _ _ _ _ _); refine OT.fA_ ?_) | ((with_reducible show OT.tCallE _ _ _ _ _ _ _ _); refine OT.callE_ ?_) | ((with_reducible show rIsi _ [_, _] _ _); refine OT.isi_ (by first | exact .own _ | exact .ty _) (by walk_at "tyx") (by first | assumption | exact kit_ty OT.kq_int_int | exact kit_ty OT.kq_int_bool | exact kit_ty OT.kq_bool_bool | exact kit_ty OT.kq_bool_int | exact kit_ty OT.kq_str_str | exact kit_ty OT.kq_tuple_tuple | exact kit_ty OT.kq_list_list | exact kit_ty OT.kq_list_tuple | exact kit_ty OT.kq_tuple_list | exact kit_ty OT.kq_list_int | exact kit_ty OT.kq_tuple_int | exact kit_ty OT.kq_list_bool | exact kit_ty OT.kq_tuple_bool | exact kit_ty OT.kq_str_int | exact kit_ty OT.kq_int_str | exact kit_ty OT.kq_int_list | exact kit_ty OT.kq_int_tuple | exact kit_ty OT.kq_bool_list | exact kit_ty OT.kq_bool_tuple) ?_) | ((with_reducible show ∃ k, V.bl _ = V.bl k ∧ _); refine AU.bool_ ?_) | ((with_reducible refine AU.trueT ?_)) | ((with_reducible refine AU.refNon ?_)) | ((with_reducible refine AU.nonNon ?_)) | ((with_reducible refine AU.trueN ?_)) | ((with_reducible refine AU.falseN ?_)) | ((with_reducible refine AU.falseF ?_)))
local macro_rules | `(tactic| walk_at "st") => `(tactic| repeat walk_at "st1")
section
variable {P : Program} {w : World} {K : PySem.W.Frag} {mg : Str → Option Value} {base : Heap}
def spAside : Sp := fun vs H Q _ => ∃ (far : Int) (n : Nat), vs = [.int far, .int (n : Int)] ∧ n ≤ 3 ∧ far.natAbs ≤ 1000 ∧ ∀ p (l : Pl) H', Same H H' → l.length = n → (∀ x ∈ l, x.natAbs ≤ far.natAbs) → H' p = some (.tup (l.map V.int)) → Q (.ref p) H'
theorem c__law_aside {f : Addr} {fd : FuncData} (D : C8.Def K mg "_law_aside" s__law_aside f fd) (b : Binds K fd ["_law_far", "_law_count"] []) (T : Bi mg) : C8.Cal P w K mg base 1 "_law_aside" spAside [] := by
  refine C8.cal0 D b .nil sc__law_aside (fun vs H Q E h => ?_) (fun cdv A outer s H vs Q E hr h => ?_)
  · obtain ⟨far, n, rfl, _⟩ := h
    rfl
  · obtain ⟨far, n, rfl, h3, hf, q⟩ := h
    refine ⟨_, (pss_one (ps_ret (pe_callTy call_tuple_of (by rfl) T.n_tuple OT.b_tuple (pa_cons (pe_lc (own := [("_law_k", 2)]) (g := (gName 2)) (tt := tYes) rfl sc__law_aside.nd (pi_range1 rfl T.n_range (pa_cons (pv 1) pa_nil)) (blkOk_by (N := ["_law_far", "_law_count", "_law_k"]) (sc := C8.fnScope s__law_aside) (by decide +kernel)) (fun _ _ _ _ _ => (pg_name (i := 2) sc__law_aside.nd rfl (Or.inl rfl))) (fun _ _ _ _ _ => pts_nil) (fun _ _ _ _ _ => (pe_op op_sub (pv 0) (pe_op op_mul (pe_op op_mul pe_int (pv 0)) (pe_callTy call_int1 (by rfl) T.n_int OT.b_int (pa_cons (pe_cmpR op_eq (pv 2) pe_int (nomark _)) pa_nil)))))) pa_nil)))), ?_⟩
    walk_at "st"
    refine ⟨_, rfl, by omega, by omega, fun D nD => ?_⟩
    rw [Int.toNat_natCast]
    refine lc_range (lo := 0) (n := n) (AU.IntsAt H D fun k z => z.natAbs ≤ far.natAbs) (AU.IntsAt.start nD) ?_ ?_
    · intro i H2 hi hP
      walk_at "st"
      refine ⟨rfl, ?_⟩
      walk_at "st"
      refine hP.step nD (Same.refl _) (by omega) ?_
      by_cases c : (0 : Int) + (i : Int) = 1
      · rw [decide_eq_true c]
        show (far - 2 * far * 1).natAbs ≤ far.natAbs
        omega
      · rw [decide_eq_false c]
        show (far - 2 * far * 0).natAbs ≤ far.natAbs
        omega
    · rintro H2 ⟨s2, zs, hD, hl, hp⟩
      walk_at "st"
      intro t nt; generalize eH3 : upd _ t _ = H3; have s3 := AU.newS nt eH3; have ht := AU.newH eH3; clear eH3
      walk_at "st"
      refine q t zs H3 (s2.trans s3) hl (fun x hx => ?_) ht
      obtain ⟨k, hk⟩ := List.getElem?_of_mem hx
      exact hp k x hk
def spSingle : Sp := fun vs H Q _ => ∃ (c : Int) (n : Nat), vs = [.int c, .int (n : Int)] ∧ n ≤ 3 ∧ ∀ p ws (q : Pl) (v : Int) H', Same H H' → H p = none → H' p = some (.lst ws) → Ents H' ws [(q, v)] → q.length = n → (∀ x ∈ q, x.natAbs ≤ 3) → v ≠ 0 → v.natAbs ≤ 3 → Q (.ref p) H'
theorem c__law_single {f : Addr} {fd : FuncData} (D : C8.Def K mg "_law_single" s__law_single f fd) (b : Binds K fd ["_law_cell_here", "_law_count"] []) (T : Bi mg) (c__law_draws : C8.Cal P w K mg base 1 "_law_draws" (spDraws K) []) : C8.Cal P w K mg base 2 "_law_single" spSingle [] := by
  refine C8.cal0 D b .nil sc__law_single (fun vs H Q E h => ?_) (fun cdv A outer s H vs Q E hr h => ?_)
  · obtain ⟨c, n, rfl, _⟩ := h
    rfl
  · obtain ⟨c, n, rfl, h3, q⟩ := h
    refine ⟨_, (pss_cons (ps_set (i := 2) sc__law_single.nd rfl (Or.inr rfl) (C8.pe_c c__law_draws hr (by decide) (by rfl) (pa_cons (pv 0) (pa_cons (pe_op op_cat (pe_lst (pa_cons pe_int pa_nil)) (pe_lc (own := [("_law_k", 4)]) (g := (gName 4)) (tt := tYes) rfl sc__law_single.nd (pi_range1 rfl T.n_range (pa_cons (pv 1) pa_nil)) (blkOk_by (N := ["_law_cell_here", "_law_count", "_law_draws_here", "_law_place", "_law_k"]) (sc := C8.fnScope s__law_single) (by decide +kernel)) (fun _ _ _ _ _ => (pg_name (i := 4) sc__law_single.nd rfl (Or.inl rfl))) (fun _ _ _ _ _ => pts_nil) (fun _ _ _ _ _ => pe_int))) pa_nil))))
  (pss_cons (ps_set (i := 3) sc__law_single.nd rfl (Or.inl rfl) (pe_callTy call_tuple_of (by rfl) T.n_tuple OT.b_tuple (pa_cons (pe_lc (own := [("_law_k", 4)]) (g := (gName 4)) (tt := tYes) rfl sc__law_single.nd (pi_range1 rfl T.n_range (pa_cons (pv 1) pa_nil)) (blkOk_by (N := ["_law_cell_here", "_law_count", "_law_draws_here", "_law_place", "_law_k"]) (sc := C8.fnScope s__law_single) (by decide +kernel)) (fun _ _ _ _ _ => (pg_name (i := 4) sc__law_single.nd rfl (Or.inl rfl))) (fun _ _ _ _ _ => pts_nil) (fun _ _ _ _ _ => (pe_op op_sub (pe_ix (show IxR _ (rIxL K) from ix_list) (pv 2) (pe_op op_add pe_int (pv 4)) (fun _ _ => rfl)) pe_int))) pa_nil)))
  (pss_one (ps_ret (pe_lst (pa_cons (pe_tup (pa_cons (pv 3) (pa_cons (pe_ix ix_list (pe_lst (pa_cons pe_int (pa_cons (pe_un un_neg pe_int) (pa_cons pe_int (pa_cons (pe_un un_neg pe_int) (pa_cons pe_int (pa_cons pe_int pa_nil))))))) (pe_ix ix_list (pv 2) pe_int (fun _ _ => rfl)) (fun _ _ => rfl)) pa_nil))) pa_nil)))))), ?_⟩
    walk_at "st"
    refine ⟨by walk_at "sz", fun l1 nl1 => ?_⟩; generalize eH1 : upd _ l1 _ = H1; have s1 := AU.newS nl1 eH1; have hl1 := AU.newH eH1; clear eH1
    walk_at "st"
    refine ⟨_, rfl, by omega, by omega, fun D nD => ?_⟩
    rw [Int.toNat_natCast]
    refine lc_range (lo := 0) (n := n) (AU.IntsAt H1 D fun k z => z = 7) (AU.IntsAt.start nD) ?_ ?_
    · intro i H2 hi hP
      walk_at "st"
      refine ⟨rfl, ?_⟩
      walk_at "st"
      exact hP.step nD (Same.refl _) (by omega) rfl
    · rintro H2 ⟨s2, zs, hD, hl, hp⟩
      walk_at "st"
      intro l2 nl2; generalize eH3 : upd _ l2 _ = H3; have s3 := AU.newS nl2 eH3; have hl2 := AU.newH eH3; clear eH3
      walk_at "st"
      refine ⟨l2, 6 :: zs, c, rfl, AU.sqL hl2, by rw [List.length_cons]; omega, fun z hz => ?_, fun ds H4 da hin s4 nda hda => ?_⟩
      · rcases List.mem_cons.mp hz with rfl | hz
        · decide
        · obtain ⟨k, hk⟩ := List.getElem?_of_mem hz
          rw [hp k z hk]
          decide
      have hdl : ds.length = n + 1 := by rw [hin.1, List.length_cons, hl]
      have sA := (s1.trans s2).trans (s3.trans s4)
      walk_at "st"
      refine ⟨_, rfl, by omega, by omega, fun D5 nD5 => ?_⟩
      rw [Int.toNat_natCast]
      refine lc_range (lo := 0) (n := n) (AU.IntsAt H4 D5 fun k z => z.natAbs ≤ 3) (AU.IntsAt.start nD5) ?_ ?_
      · intro i H5 hi hP
        obtain ⟨z, hz⟩ : ∃ z, zs[i]? = some z := ⟨_, List.getElem?_eq_getElem (by omega)⟩
        obtain ⟨d, hd, hd0, hd1⟩ := hin.get (i := i + 1) (z := z) hz
        have hz7 := hp i z hz
        have hat : atI (ds.map V.int) (1 + (0 + (i : Int))) = some (.int d) := AU.atN (j := i + 1) (by omega) hd
        have hs5 := hP.1
        walk_at "st"
        refine ⟨rfl, ?_⟩
        walk_at "st"
        exact hP.step nD5 (Same.refl _) (by omega) (by omega)
      · rintro H5 ⟨s5, ks, hD5, hkl, hkp⟩
        walk_at "st"
        intro t nt; generalize eH6 : upd _ t _ = H6; have s6 := AU.newS nt eH6; have ht := AU.newH eH6; clear eH6
        obtain ⟨d0, hd0, b0, b1⟩ := hin.get (i := 0) (z := 6) rfl
        have hat0 : atI (ds.map V.int) 0 = some (.int d0) := AU.atN (j := 0) rfl hd0
        walk_at "st"
        refine ⟨by walk_at "sz", fun l7 nl7 => ?_⟩; generalize eH7 : upd _ l7 _ = H7; have s7 := AU.newS nl7 eH7; have hl7 := AU.newH eH7; clear eH7
        obtain ⟨v, hv, hv2⟩ := atI_int (ns := [1, -1, 2, -2, 3, 1]) b0 b1
        have hat1 : atI [V.int 1, V.int (-1), V.int 2, V.int (-2), V.int 3, V.int 1] d0 = some (.int v) := hv
        have hvm : v ∈ [1, -1, 2, -2, 3, 1] := List.mem_of_getElem? hv2
        walk_at "st"
        refine ⟨by walk_at "sz", fun t8 nt8 => ?_⟩; generalize eH8 : upd _ t8 _ = H8; have s8 := AU.newS nt8 eH8; have ht8 := AU.newH eH8; clear eH8
        walk_at "st"
        refine ⟨by walk_at "sz", fun l9 nl9 => ?_⟩; generalize eH9 : upd _ l9 _ = H9; have s9 := AU.newS nl9 eH9; have hl9 := AU.newH eH9; clear eH9
        walk_at "st"
        refine q l9 _ ks v H9 (sA.trans (s5.trans (s6.trans (s7.trans (s8.trans s9))))) (AU.back (sA.trans (s5.trans (s6.trans (s7.trans s8)))) nl9) hl9 (.cons ⟨t8, t, rfl, s9 _ _ ht8, by walk_at "hl"⟩ .nil) hkl (fun x hx => ?_) ?_ ?_
        · obtain ⟨k, hk⟩ := List.getElem?_of_mem hx
          exact hkp k x hk
        · rintro rfl
          simp at hvm
        · simp at hvm
          omega
def spNear (K : PySem.W.Frag) : Sp := fun vs H Q _ => ∃ (a : Addr) (xs : List V) (R : List Ent) (n : Nat) (c : Int), vs = [.int c, .ref a, .int (n : Int)] ∧ H a = some (.lst xs) ∧ Ents H xs R ∧ DimN n R ∧ n ≤ 3 ∧ R.length ≤ 1000 ∧
  ∀ p (q : Pl) H', Same H H' → H' p = some (.tup (q.map V.int)) → q.length = n → NearP R 6 q → Q (.ref p) H'
theorem c__law_near {f : Addr} {fd : FuncData} (D : C8.Def K mg "_law_near" s__law_near f fd) (b : Binds K fd ["_law_cell_here", "_law_row_here", "_law_count"] []) (T : Bi mg) (c__law_draws : C8.Cal P w K mg base 1 "_law_draws" (spDraws K) []) (c__law_plus : C8.Cal P w K mg base 1 "_law_plus" (spPlus K) []) (c__law_corner : C8.Cal P w K mg base 1 "_law_corner" (spExt K IsLow) []) : C8.Cal P w K mg base 2 "_law_near" (spNear K) [] := by
  refine C8.cal0 D b .nil sc__law_near (fun vs H Q E h => ?_) (fun cdv A outer s H vs Q E hr h => ?_)
  · obtain ⟨a, xs, R, n, c, rfl, _⟩ := h
    rfl
  · obtain ⟨a, xs, R, n, c, rfl, ha, hE, hd, h3, hz, q⟩ := h
    refine ⟨_, (pss_cons (ps_set (i := 3) sc__law_near.nd rfl (Or.inr rfl) pe_int)
  (C8.pss_cut (ps_if (pt_cmpR op_eq (pv 2) pe_int (nomark _)) (pss_one (ps_set (i := 3) sc__law_near.nd rfl (Or.inr rfl) pe_int)) pss_nil)
  (pss_cons (ps_set (i := 4) sc__law_near.nd rfl (Or.inr rfl) (C8.pe_c c__law_draws hr (by decide) (by rfl) (pa_cons (pv 0) (pa_cons (pe_lc (own := [("_law_k", 6)]) (g := (gName 6)) (tt := tYes) rfl sc__law_near.nd (pi_range1 rfl T.n_range (pa_cons (pv 2) pa_nil)) (blkOk_by (N := ["_law_cell_here", "_law_row_here", "_law_count", "_law_wide", "_law_draws_here", "_law_place", "_law_k"]) (sc := C8.fnScope s__law_near) (by decide +kernel)) (fun _ _ _ _ _ => (pg_name (i := 6) sc__law_near.nd rfl (Or.inl rfl))) (fun _ _ _ _ _ => pts_nil) (fun _ _ _ _ _ => (pv 3))) pa_nil))))
  (pss_cons (ps_set (i := 5) sc__law_near.nd rfl (Or.inl rfl) (pe_callTy call_tuple_of (by rfl) T.n_tuple OT.b_tuple (pa_cons (pe_lc (own := [("_law_k", 6)]) (g := (gName 6)) (tt := tYes) rfl sc__law_near.nd (pi_range1 rfl T.n_range (pa_cons (pv 2) pa_nil)) (blkOk_by (N := ["_law_cell_here", "_law_row_here", "_law_count", "_law_wide", "_law_draws_here", "_law_place", "_law_k"]) (sc := C8.fnScope s__law_near) (by decide +kernel)) (fun _ _ _ _ _ => (pg_name (i := 6) sc__law_near.nd rfl (Or.inl rfl))) (fun _ _ _ _ _ => pts_nil) (fun _ _ _ _ _ => (pe_op op_sub (pe_ix (show IxR _ (rIxL K) from ix_list) (pv 4) (pv 6) (fun _ _ => rfl)) (pe_op op_fdiv (pv 3) pe_int)))) pa_nil)))
  (pss_cons (ps_if (pt_cmpR op_eq (pe_callB call_len_seq (by rfl) T.n_len OT.b_len (pa_cons (pv 1) pa_nil)) pe_int (nomark _)) (pss_one (ps_ret (pv 5))) pss_nil)
  (pss_one (ps_ret (C8.pe_c c__law_plus hr (by decide) (by rfl) (pa_cons (pv 5) (pa_cons (C8.pe_c c__law_corner hr (by decide) (by rfl) (pa_cons (pv 1) pa_nil)) pa_nil)))))))))), ?_⟩
    have hx := hE.len
    walk_at "st"
    refine ⟨fun σ' H' => ∃ wd : Int, (wd = 9 ∨ wd = 5) ∧ H' = H ∧ σ' = [some (.int c), some (.ref a), some (.int (n : Int)), some (.int wd), none, none, none], ?_, ?_⟩
    · walk_at "st"
      refine iteD (fun _ => ?_) (fun _ => ?_)
      · walk_at "st"
        exact ⟨5, .inr rfl, rfl, rfl⟩
      · walk_at "st"
        exact ⟨9, .inl rfl, rfl, rfl⟩
    rintro σ' H' ⟨wd, hwd, rfl, rfl⟩
    walk_at "st"
    refine ⟨_, rfl, by omega, by omega, fun D nD => ?_⟩
    rw [Int.toNat_natCast]
    refine lc_range (lo := 0) (n := n) (AU.IntsAt H' D fun k z => z = wd) (AU.IntsAt.start nD) ?_ ?_
    · intro i H2 hi hP
      walk_at "st"
      refine ⟨rfl, ?_⟩
      walk_at "st"
      exact hP.step nD (Same.refl _) (by omega) rfl
    · rintro H2 ⟨s2, zs, hD, hl, hp⟩
      walk_at "st"
      refine ⟨D, zs, c, rfl, AU.sqL hD, by omega, fun z hz => ?_, fun ds H4 da hin s4 nda hda => ?_⟩
      · obtain ⟨k, hk⟩ := List.getElem?_of_mem hz
        rw [hp k z hk]
        rcases hwd with rfl | rfl <;> decide
      have sA := s2.trans s4
      walk_at "st"
      refine ⟨_, rfl, by omega, by omega, fun D5 nD5 => ?_⟩
      rw [Int.toNat_natCast]
      refine lc_range (lo := 0) (n := n) (AU.IntsAt H4 D5 fun k z => z.natAbs ≤ 6) (AU.IntsAt.start nD5) ?_ ?_
      · intro i H5 hi hP
        obtain ⟨z, hz⟩ : ∃ z, zs[i]? = some z := ⟨_, List.getElem?_eq_getElem (by omega)⟩
        obtain ⟨d, hd, hd0, hd1⟩ := hin.get (i := i) (z := z) hz
        have hz7 := hp i z hz
        have hat : atI (ds.map V.int) (0 + (i : Int)) = some (.int d) := AU.atN (j := i) (by omega) hd
        have hs5 := hP.1
        walk_at "st"
        refine ⟨rfl, ?_⟩
        walk_at "st"
        refine hP.step nD5 (Same.refl _) (by omega) ?_
        rcases hwd with rfl | rfl
        · rw [show (9 : Int) / 4 = 2 from rfl]; omega
        · rw [show (5 : Int) / 4 = 1 from rfl]; omega
      · rintro H5 ⟨s5, ks, hD5, hkl, hkp⟩
        walk_at "st"
        intro t nt; generalize eH6 : upd _ t _ = H6; have s6 := AU.newS nt eH6; have ht := AU.newH eH6; clear eH6
        have sB := sA.trans (s5.trans s6)
        have kb : ∀ (k : Nat) (x : Int), ks[k]? = some x → x.natAbs ≤ 6 := hkp
        walk_at "st"
        refine iteD (fun h0 => ?_) (fun h0 => ?_)
        · walk_at "st"
          refine q t ks H6 sB ht hkl fun k x hk => ⟨fun _ => kb k x hk, fun z => absurd (List.eq_nil_of_length_eq_zero (by omega)) z⟩
        · walk_at "st"
          refine ⟨a, xs, R, n, rfl, by walk_at "sl", hE.mono sB, by omega, hz, hd, h3, fun p7 H7 lo hlo hL s7 hp7 => ?_⟩
          walk_at "st"
          refine ⟨t, p7, ks, lo, rfl, by walk_at "tl", by walk_at "tl", by omega, by omega, fun p8 H8 s8 hp8 => ?_⟩
          walk_at "st"
          refine q p8 (plusP ks lo) H8 (sB.trans (s7.trans s8)) hp8 (by rw [plusP_len (by omega)]; exact hkl) fun k x hk => ⟨fun z => absurd (by rw [z]; rfl : R.length = 0) (by omega), fun _ => ?_⟩
          have hi := (List.getElem?_eq_some_iff.mp hk).1
          have hi1 : k < ks.length := by rwa [plusP_len (by omega)] at hi
          have hi2 : k < lo.length := by omega
          obtain ⟨_, hx2⟩ := List.getElem?_eq_some_iff.mp hk
          rw [plusP_get hi hi1 hi2] at hx2
          have h6 := kb k _ (List.getElem?_eq_getElem hi1)
          obtain ⟨⟨e, he, ee⟩, _⟩ := hL k _ (List.getElem?_eq_getElem hi2)
          exact ⟨⟨e, he, _, ee, by omega⟩, e, he, _, ee, by omega⟩
end
end OT

set_option Elab.async false
set_option linter.all false
set_option maxRecDepth 100000
set_option maxHeartbeats 4000000
namespace OT
open PySem PySem.Spec PyProof.Rows L2
local macro_rules | `(tactic| walk_at "sm") => `(tactic| first | assumption | exact AU.mutS (by walk_at "sm") (by assumption))
local macro_rules | `(tactic| walk_at "le") => `(tactic| first | (refine Nat.le_of_lt (AU.line ?_); (try simp only [List.length_append, List.length_map, List.length_cons, List.length_nil, List.length_take, List.length_replicate]); omega))
local macro_rules | `(tactic| walk_at "ll") => `(tactic| first | (show 0 < sizeLine; decide) | (show 1 < sizeLine; decide) | (show 2 < sizeLine; decide) | (show 3 < sizeLine; decide) | (refine AU.line ?_; (try simp only [List.length_append, List.length_map, List.length_cons, List.length_nil, List.length_take, List.length_replicate]); omega))
local macro_rules | `(tactic| walk_at "hl") => `(tactic| first | assumption | exact upd_same | exact AU.climb (by walk_at "sm") (by walk_at "hl"))
local macro_rules | `(tactic| walk_at "sl") => `(tactic| first | assumption | exact AU.sqL (by walk_at "hl") | exact AU.sqLS (by walk_at "sm") (by walk_at "sl"))
local macro_rules | `(tactic| walk_at "tl") => `(tactic| first | assumption | exact AU.sqT (by walk_at "hl") | exact AU.sqTS (by walk_at "sm") (by walk_at "tl"))
local macro_rules | `(tactic| walk_at "sz") => `(tactic| first | (show 0 ≤ sizeLine; decide) | (show 1 ≤ sizeLine; decide) | (show 2 ≤ sizeLine; decide) | (show 3 ≤ sizeLine; decide) | (show 4 ≤ sizeLine; decide) | (show 5 ≤ sizeLine; decide) | (show 6 ≤ sizeLine; decide) | (show 7 ≤ sizeLine; decide) | (show 8 ≤ sizeLine; decide) | (show 9 ≤ sizeLine; decide) | (show 10 ≤ sizeLine; decide))
local macro_rules | `(tactic| walk_at "ci") => `(tactic| first | exact trivial | omega | (show (0 : Int) < _; omega) | (show CMul _ _; exact .inl ⟨by omega, by omega⟩) | (show CMul _ _; exact .inr ⟨by omega, by omega⟩) | (show CMul _ _; exact .inr (AU.b01 _)) | (show CMul _ _; exact .inl (AU.b01 _)) | (show CDiv _ _; exact ⟨by omega, by omega⟩) | (show _ ≠ (0 : Int); omega) | (show CDiv _ _; exact ⟨by decide, by decide⟩))
local macro_rules | `(tactic| walk_at "hh") => `(tactic| first | assumption | exact OT.HeldF.mono (by walk_at "sm") (by walk_at "hh"))
local macro_rules | `(tactic| walk_at "tyx") => `(tactic| first | exact .base (.int _) | exact .base (.bl _) | exact .base (.str _) | exact .base (.lst (by walk_at "hl")) | exact .base (.tup (by walk_at "hl")))
local macro_rules | `(tactic| walk_at "st1") => `(tactic| first | ((with_reducible show tSeq _ _ _ _ _); (try simp only [List.set_cons_zero, List.set_cons_succ]); refine AU.seq_ ?_) | ((with_reducible show tAsg _ _ _ _ _); refine AU.asg_ ?_) | ((with_reducible show gName _ _ _ _ _); refine AU.name_ ?_) | ((with_reducible show tDrop _ _ _ _); refine AU.drop_ ?_) | ((with_reducible show tRet _ _ _ _); refine AU.ret_ ?_) | ((with_reducible show tRetN _ _ _); refine AU.retN_ ?_) | ((with_reducible show tNext _ _ _); refine AU.next_ ?_) | ((with_reducible show tBreak _ _ _); refine AU.brk_ ?_) | ((with_reducible show tCont _ _ _); refine AU.cont_ ?_) | ((with_reducible show tIfS _ _ _ _ _ _); refine AU.ifs_ ?_) | ((with_reducible show tAug _ _ _ _ _ _); refine AU.aug_ rfl ?_) | ((with_reducible show Ends.nx (Ends.mk _ _ _ _) _ _); refine AU.nxm ?_) | ((with_reducible show Ends.rt (Ends.mk _ _ _ _) _ _); refine AU.rtm ?_) | ((with_reducible show Ends.bk (Ends.mk _ _ _ _) _ _); refine AU.bkm ?_) | ((with_reducible show Ends.ct (Ends.mk _ _ _ _) _ _); refine AU.ctm ?_) | ((with_reducible show tVar _ _ _ _); refine AU.var_ rfl ?_) | ((with_reducible show tC _ _ _ _); refine AU.c_ ?_) | ((with_reducible show tOp _ _ _ _ _ _); refine AU.op_ ?_) | ((with_reducible show tUn _ _ _ _ _); refine AU.un_ ?_) | ((with_reducible show rU _ _ _ _); refine AU.u_ ?_) | ((with_reducible show rI0 _ _ _ _ _); refine AU.i0_ ?_) | ((with_reducible show rI _ _ _ _ _ _); refine AU.i_ (by walk_at "ci") ?_) | ((with_reducible show rEq (V.int _) (V.int _) _ _); first | (with_reducible refine AU.eqr_ ?_) | refine AU.eqi_ ?_) | ((with_reducible show rEq (V.str _) (V.str _) _ _); (with_reducible refine AU.eqs_ ?_)) | ((with_reducible show rNe (V.int _) (V.int _) _ _); refine AU.nei_ ?_) | ((with_reducible show rEq _ _ _ _); refine AU.eq_ rfl ?_) | ((with_reducible show rNe _ _ _ _); refine AU.ne_ rfl ?_) | ((with_reducible show tTest _ _ _ _); refine AU.test_ ?_) | ((with_reducible show tB _ _ _ _); refine AU.b_ ?_) | ((with_reducible show tAnd _ _ _ _ _); refine AU.and_ ?_) | ((with_reducible show tOr _ _ _ _ _); refine AU.or_ ?_) | ((with_reducible show tNot _ _ _ _); refine AU.not_ ?_) | ((with_reducible show tAndV _ _ _ _ _); refine AU.andV_ ?_) | ((with_reducible show tOrV _ _ _ _ _); refine AU.orV_ ?_) | ((with_reducible show tNotV _ _ _ _); refine AU.notV_ ?_) | ((with_reducible show tIf _ _ _ _ _ _); refine AU.if_ ?_) | ((with_reducible show tNil _ _ _); refine AU.nil_ ?_) | ((with_reducible show tCons _ _ _ _ _); refine AU.cons_ ?_) | ((with_reducible show tLst _ _ _ _); refine AU.lst_ ?_) | ((with_reducible show tTup _ _ _ _); refine AU.tup_ ?_) | ((with_reducible show tCall _ _ _ _ _ _ _); refine AU.call_ ?_) | ((with_reducible show tCallS _ _ _ _ _ _); refine AU.callS_ ?_) | ((with_reducible show tCB _ _ _ _ _); refine AU.cb_ ?_) | ((with_reducible show tBM _ _ _ _ _ _ _ _); refine AU.bm_ ?_) | ((with_reducible show rIxL _ _ _ _ _); refine AU.ixL_ (by walk_at "sl") (by first | assumption | rfl) ?_) | ((with_reducible show rIxT _ _ _ _ _); refine AU.ixT_ (by walk_at "tl") (by first | assumption | rfl) ?_) | ((with_reducible show Evl.rLenS _ _ _ _); first | refine AU.lenL_ (by walk_at "sl") ?_ | refine AU.lenT_ (by walk_at "tl") ?_) | ((with_reducible show rAppend (V.ref _) [_] _ _); refine AU.app_ (by walk_at "hl") (by walk_at "ll") ?_) | ((with_reducible show tyV _ _ (V.ref _) _ ∧ _); refine AU.tyl_ (by walk_at "sl") ?_) | ((with_reducible show rCat (V.ref _) (V.ref _) _ _); refine AU.cat_ (by walk_at "hl") (by walk_at "hl") (by walk_at "le") ?_) | ((with_reducible show tFor _ _ _ _ _ _); refine AU.for_ ?_) | ((with_reducible show tLc _ _ _ _ _ _ _ _); refine AU.lc_ ?_) | ((with_reducible show iRng1 _ _ _ _); refine AU.rng1_ ?_) | ((with_reducible show iList _ _ _ _ _); refine AU.list_ ?_) | ((with_reducible show iTup _ _ _ _ _); refine AU.itup_ ?_) | ((with_reducible show (∃ i, [V.bl _] = [V.int i] ∧ _) ∨ _); refine AU.intb_ ?_) | ((with_reducible show (∃ i, [V.int _] = [V.int i] ∧ _) ∨ _); refine AU.inti_ ?_) | ((with_reducible show tYes _ _ _); refine AU.yes_ ?_) | ((with_reducible show ∃ p ys, [V.ref _] = [V.ref p] ∧ (SqL _ _ p ys ∨ SqT _ _ p ys) ∧ _); first | refine AU.listof_ (by walk_at "sl") ?_ | refine AU.listofT_ (by walk_at "tl") ?_) | ((with_reducible show ∃ p ys, [V.ref _] = [V.ref p] ∧ ((SqL _ _ p ys ∧ _) ∨ (SqT _ _ p ys ∧ _))); first | refine AU.tupleof_ (by walk_at "sl") ?_ | refine AU.tupleofT_ (by walk_at "tl") ?_) | ((with_reducible show V.non = V.non ∧ _); refine ⟨rfl, ?_⟩) | ((with_reducible show OT.rIsX _ _ _ _ [V.ref _, _] _ _); refine OT.isX_ (by walk_at "hh") (by first | exact .own _ | exact .ty _) (by assumption) ?_) | ((with_reducible show OT.tFA _ _ _ _ _ _ _ _ _); refine OT.fA_ ?_) | ((with_reducible show OT.tCallE _ _ _ _ _ _ _ _); refine OT.callE_ ?_) | ((with_reducible show rIsi _ [_, _] _ _); refine OT.isi_ (by first | exact .own _ | exact .ty _) (by walk_at "tyx") (by first | assumption | exact kit_ty OT.kq_int_int | exact kit_ty OT.kq_int_bool | exact kit_ty OT.kq_bool_bool | exact kit_ty OT.kq_bool_int | exact kit_ty OT.kq_str_str | exact kit_ty OT.kq_tuple_tuple | exact kit_ty OT.kq_list_list | exact kit_ty OT.kq_list_tuple | exact kit_ty OT.kq_tuple_list | exact kit_ty OT.kq_list_int | exact kit_ty OT.kq_tuple_int | exact kit_ty OT.kq_list_bool | exact kit_ty OT.kq_tuple_bool | exact kit_ty OT.kq_str_int | exact kit_ty OT.kq_int_str | exact kit_ty OT.kq_int_list | exact kit_ty OT.kq_int_tuple | exact kit_ty OT.kq_bool_list | exact kit_ty OT.kq_bool_tuple) ?_) | ((with_reducible show ∃ k, V.bl _ = V.bl k ∧ _); refine AU.bool_ ?_) | ((with_reducible refine AU.trueT ?_)) | ((with_reducible refine AU.refNon ?_)) | ((with_reducible refine AU.nonNon ?_)) | ((with_reducible refine AU.trueN ?_)) | ((with_reducible refine AU.falseN ?_)) | ((with_reducible refine AU.falseF ?_)))
local macro_rules | `(tactic| walk_at "st") => `(tactic| repeat walk_at "st1")
/-- a row of the law -/
structure LR (H : Hp) (a : Addr) (R : List Ent) (m L C U : Nat) : Prop where
  ex : ∃ xs, H a = some (.lst xs) ∧ Ents H xs R
  v : Valid R
  d : DimN m R
  z : R.length ≤ L
  c : CB C R
  u : NB U R
theorem LR.mono {H H' : Hp} {a : Addr} {R : List Ent} {m L C U : Nat} (s : Same H H') (h : LR H a R m L C U) : LR H' a R m L C U := by
  obtain ⟨xs, h1, h2⟩ := h.ex
  exact { h with ex := ⟨xs, s _ _ h1, h2.mono s⟩ }
theorem LR.le {H : Hp} {a : Addr} {R : List Ent} {m L C U L' C' U' : Nat} (h : LR H a R m L C U) (hL : L ≤ L') (hC : C ≤ C') (hU : U ≤ U') : LR H a R m L' C' U' := { h with z := Nat.le_trans h.z hL, c := h.c.le hC, u := h.u.le hU }
theorem dim_ne {m : Nat} {R : List Ent} (d : DimN m R) (h1 : 1 ≤ m) : ∀ e ∈ R, e.1 ≠ [] := fun e he z => by
  have := d e he
  rw [z] at this
  have : 0 = m := this
  omega
theorem LR.lst {H : Hp} {a : Addr} {R : List Ent} {m L C U : Nat} (h : LR H a R m L C U) (h1 : 1 ≤ m) (hL : L ≤ 1000) : ∃ xs, Lst H a xs R := by
  obtain ⟨xs, h2, h3⟩ := h.ex
  exact ⟨xs, h2, h3, Nat.le_trans h.z hL, dim_ne h.d h1⟩
theorem LR.row {H : Hp} {p : Addr} {ws : List V} {R es : List Ent} {m L C U : Nat} (h : RowIs R es) (hp : H p = some (.lst ws)) (hE : Ents H ws R) (d : DimN m es) (z : es.length ≤ L) (c : CB C es) (u : NB U es) : LR H p R m L C (L * U) :=
  ⟨⟨ws, hp, hE⟩, h.v, DimN.of h d, Nat.le_trans h.len z, CB.of h c, (RowIs.nb h u).le (Nat.mul_le_mul_right _ z)⟩
theorem boxed_mov {bs : List Nat} {R : List Ent} {l : Pl} (hl : l.length = bs.length) (h : Boxed bs R) : Boxed bs (movL R l) := by
  obtain ⟨o, ho, hb⟩ := h
  refine ⟨plusP o l, by rw [plusP_len (by omega)]; exact ho, fun e he i x y b hx hy hbb => ?_⟩
  obtain ⟨g, hg, rfl⟩ := List.mem_map.mp he
  have hi := (List.getElem?_eq_some_iff.mp hbb).1
  have hio : i < o.length := by omega
  have hil : i < l.length := by omega
  obtain ⟨h1, h2⟩ := List.getElem?_eq_some_iff.mp hy
  rw [plusP_get h1 hio hil] at h2
  obtain ⟨k1, k2⟩ := List.getElem?_eq_some_iff.mp hx
  have hig : i < g.1.length := by
    apply Classical.byContradiction
    intro z
    have : (plusP g.1 l)[i]? = none := by
      unfold plusP
      rw [List.getElem?_zipWith, List.getElem?_eq_none (by omega)]
    have hx' : (plusP g.1 l)[i]? = some x := hx
    rw [this] at hx'
    cases hx'
  have k2' : (plusP g.1 l)[i]'k1 = x := k2
  rw [plusP_get k1 hig hil] at k2'
  have := hb g hg i g.1[i] o[i] b (List.getElem?_eq_getElem hig) (List.getElem?_eq_getElem hio) hbb
  omega
theorem boxed_scale {bs : List Nat} {R : List Ent} {k : Int} (h : Boxed bs R) : Boxed bs (scaleL R k) := by
  obtain ⟨o, ho, hb⟩ := h
  refine ⟨o, ho, fun e he => ?_⟩
  obtain ⟨g, hg, rfl⟩ := List.mem_map.mp he
  exact hb g hg
theorem log2_small {j : Int} (h0 : j ≠ 0) (h : j.natAbs ≤ 1000000) : j.natAbs.log2 < 9000 := by
  have : j.natAbs.log2 < 20 := (Nat.log2_lt (by omega)).mpr (by have : (2 : Nat) ^ 20 = 1048576 := by decide
                                                                omega)
  omega
section
variable {P : Program} {w : World} {K : PySem.W.Frag} {mg : Str → Option Value} {base : Heap}
def spZero : Sp := fun vs H Q _ => ∃ n : Nat, vs = [.int (n : Int)] ∧ n ≤ 3 ∧ ∀ p H', Same H H' → H' p = some (.tup ((zeros n).map V.int)) → Q (.ref p) H'
theorem c__law_zero {f : Addr} {fd : FuncData} (D : C8.Def K mg "_law_zero" s__law_zero f fd) (b : Binds K fd ["_law_count"] []) (T : Bi mg) : C8.Cal P w K mg base 1 "_law_zero" spZero [] := by
  refine C8.cal0 D b .nil sc__law_zero (fun vs H Q E h => ?_) (fun cdv A outer s H vs Q E hr h => ?_)
  · obtain ⟨n, rfl, _⟩ := h
    rfl
  · obtain ⟨n, rfl, h3, q⟩ := h
    refine ⟨_, (pss_one (ps_ret (pe_callTy call_tuple_of (by rfl) T.n_tuple OT.b_tuple (pa_cons (pe_lc (own := [("_law_k", 1)]) (g := (gName 1)) (tt := tYes) rfl sc__law_zero.nd (pi_range1 rfl T.n_range (pa_cons (pv 0) pa_nil)) (blkOk_by (N := ["_law_count", "_law_k"]) (sc := C8.fnScope s__law_zero) (by decide +kernel)) (fun _ _ _ _ _ => (pg_name (i := 1) sc__law_zero.nd rfl (Or.inl rfl))) (fun _ _ _ _ _ => pts_nil) (fun _ _ _ _ _ => pe_int)) pa_nil)))), ?_⟩
    refine ⟨_, rfl, _, rfl, by omega, by omega, fun p np => ?_⟩
    rw [Int.toNat_natCast]
    refine lc_range (lo := 0) (n := n) (fun i H3 => Same H H3 ∧ H3 p = some (.lst (List.replicate i (V.int 0)))) ⟨same_upd np, upd_same⟩ ?_ ?_
    · rintro i H3 hi ⟨sm, hD⟩
      refine ⟨rfl, tYes_of ?_⟩
      refine ⟨_, hD, ?_, same_mut sm np, ?_⟩
      · rw [List.length_replicate]
        exact small1000 (by omega)
      · rw [upd_same, List.replicate_succ']
    · rintro H3 ⟨sm, hD⟩
      refine ⟨p, _, rfl, .inl ⟨.inl (.inl hD), fun l nl => ?_⟩⟩
      refine q l _ (sm.trans (same_upd nl)) ?_
      rw [upd_same]
      unfold zeros
      rw [List.map_replicate]

def spForeign : Sp := fun vs H Q _ => ∃ (c : Int) (n : Nat), vs = [.int c, .int (n : Int)] ∧ 1 ≤ n ∧ n ≤ 3 ∧ ∀ p G H', Same H H' → LR H' p G n 100 1000 1000 → G ≠ [] → Fits G n → Q (.ref p) H'
theorem c__law_foreign {f : Addr} {fd : FuncData} (D : C8.Def K mg "_law_foreign" s__law_foreign f fd) (b : Binds K fd ["_law_cell_here", "_law_count"] []) (T : Bi mg) (c__law_drawn : C8.Cal P w K mg base 3 "_law_drawn" (spDrawn K) []) (c__law_box : C8.Cal P w K mg base 1 "_law_box" (spBox K) []) (c__law_zero : C8.Cal P w K mg base 1 "_law_zero" spZero []) : C8.Cal P w K mg base 4 "_law_foreign" spForeign [] := by
  refine C8.cal0 D b .nil sc__law_foreign (fun vs H Q E h => ?_) (fun cdv A outer s H vs Q E hr h => ?_)
  · obtain ⟨c, n, rfl, _⟩ := h
    rfl
  · obtain ⟨c, n, rfl, h1, h3, q⟩ := h
    refine ⟨_, (pss_cons (ps_set (i := 2) sc__law_foreign.nd rfl (Or.inl rfl) (C8.pe_c c__law_drawn hr (by decide) (by rfl) (pa_cons (pv 0) (pa_cons (C8.pe_c c__law_box hr (by decide) (by rfl) (pa_cons (pe_op op_sub (pv 1) pe_int) (pa_cons pe_int pa_nil))) (pa_cons pe_int (pa_cons pe_int pa_nil))))))
  (pss_cons (ps_if (pt_cmpR op_eq (pe_callB call_len_seq (by rfl) T.n_len OT.b_len (pa_cons (pv 2) pa_nil)) pe_int (nomark _)) (pss_one (ps_ret (pe_lst (pa_cons (pe_tup (pa_cons (C8.pe_c c__law_zero hr (by decide) (by rfl) (pa_cons (pv 1) pa_nil)) (pa_cons pe_int pa_nil))) pa_nil)))) pss_nil)
  (pss_one (ps_ret (pv 2))))), ?_⟩
    walk_at "st"
    refine ⟨n - 1, 3, (by show [V.int ((n : Int) - 1), V.int 3] = [V.int ((n - 1 : Nat) : Int), V.int ((3 : Nat) : Int)]; rw [show ((n - 1 : Nat) : Int) = (n : Int) - 1 by omega]; rfl), by omega, fun pb bs H1 hbs hbl s1 hpb => ?_⟩
    have hbn : bs.length = n := by omega
    have ok : BoxOk 4 bs ∧ pr bs ≤ 9 ∧ bs.foldr (· * ·) 1 ≤ 10000 := by
      have small : ∀ bs : List Nat, (bs.length ≤ 3 ∧ ∀ n ∈ bs, n ≤ 4) → (∀ i, i ≤ bs.length → pr (bs.take i) ≤ 64000) → BoxOk 4 bs := fun bs h hp => ⟨h.1, h.2, fun i => by
        by_cases c : i ≤ bs.length
        · exact hp i c
        · have := hp bs.length (Nat.le_refl _)
          rw [List.take_length] at this
          rw [List.take_of_length_le (by omega)]
          exact this⟩
      rcases hbs with rfl | rfl | rfl
      · exact ⟨small [3] (by decide) (by decide), by decide, by decide⟩
      · exact ⟨small [3, 2] (by decide) (by decide), by decide, by decide⟩
      · exact ⟨small [2, 2, 2] (by decide) (by decide), by decide, by decide⟩
    walk_at "st"
    refine ⟨c, pb, bs, 2, 1, 4, rfl, AU.sqL hpb, ok.1, by decide, by omega, by omega, by decide, by decide, fun p ws r H2 s2 np hp hE hD hB => ?_⟩
    have hrl := hE.len
    have sA := s1.trans s2
    walk_at "st"
    refine iteD (fun h0 => ?_) (fun h0 => ?_)
    · walk_at "st"
      refine ⟨n, rfl, h3, fun pz H3 s3 hpz => ?_⟩
      walk_at "st"
      refine ⟨by walk_at "sz", fun t nt => ?_⟩; generalize eH4 : upd _ t _ = H4; have s4 := AU.newS nt eH4; have ht := AU.newH eH4; clear eH4
      walk_at "st"
      refine ⟨by walk_at "sz", fun l nl => ?_⟩; generalize eH5 : upd _ l _ = H5; have s5 := AU.newS nl eH5; have hl := AU.newH eH5; clear eH5
      walk_at "st"
      have zl : (zeros n).length = n := List.length_replicate
      refine q l [(zeros n, 1)] H5 (sA.trans (s3.trans (s4.trans s5))) ⟨⟨_, hl, .cons ⟨t, pz, rfl, s5 _ _ ht, by walk_at "hl"⟩ .nil⟩, ⟨List.pairwise_singleton _ _, fun e he => by rw [List.mem_singleton.mp he]; show (1 : Int) ≠ 0; decide⟩, fun e he => by rw [List.mem_singleton.mp he]; exact zl, (by show 1 ≤ 100; decide), fun e he x hx => ?_, fun e he => by rw [List.mem_singleton.mp he]; show (1 : Int).natAbs ≤ 1000; decide⟩ (by intro z; cases z) ?_
      · rw [List.mem_singleton.mp he] at hx
        rw [(List.mem_replicate.mp hx).2]
        decide
      · have := fits_one (R := [(zeros n, (1 : Int))]) (q := zeros n) fun e he => by rw [List.mem_singleton.mp he]
        rwa [zl] at this
    · walk_at "st"
      have dn : DimN n r := by have := hD.n; rw [hbn] at this; exact this
      refine q p r H2 sA ⟨⟨ws, hp, hE⟩, hD.v, dn, by have := hD.m; omega, fun e he x hx => by have := hD.c e he x hx; omega, fun e he => by have := hD.u e he; omega⟩ (fun z => h0 (by rw [hrl, z]; rfl)) ?_
      have := fits_boxed (bs := bs) (R := r) (by rw [hbn]; exact dn) hB ok.2.2
      rwa [hbn] at this
theorem e10 : (10 : Int) ^ ((10 : Int).toNat) = 10000000000 := by decide
def spWidened (K : PySem.W.Frag) : Sp := fun vs H Q _ => ∃ (a : Addr) (dr : Int) (m C U : Nat) (R : List Ent), vs = [.ref a, .int dr, .int (m : Int)] ∧ LR H a R m 8 C U ∧ 1 ≤ m ∧ m ≤ 3 ∧ (∀ bs, Boxed bs R → bs.length = m → True) ∧ ∀ p S H', Same H H' → LR H' p S m 8 (C + 1000) (U * 10000000000) → (∀ bs : List Nat, bs.length = m → Boxed bs R → Boxed bs S) → Q (.ref p) H'
theorem c__law_widened {f : Addr} {fd : FuncData} (D : C8.Def K mg "_law_widened" s__law_widened f fd) (b : Binds K fd ["_law_row_here", "_law_draw", "_law_count"] []) (T : Bi mg) (c__law_scaled : C8.Cal P w K mg base 2 "_law_scaled" spScaled []) (c__law_moved : C8.Cal P w K mg base 2 "_law_moved" (spMoved K) []) (c__law_aside : C8.Cal P w K mg base 1 "_law_aside" spAside []) : C8.Cal P w K mg base 3 "_law_widened" (spWidened K) [] := by
  refine C8.cal0 D b .nil sc__law_widened (fun vs H Q E h => ?_) (fun cdv A outer s H vs Q E hr h => ?_)
  · obtain ⟨a, dr, m, C, U, R, rfl, _⟩ := h
    rfl
  · obtain ⟨a, dr, m, C, U, R, rfl, hR, h1, h3, _, q⟩ := h
    refine ⟨_, (pss_cons (ps_if (pt_cmpR op_eq (pv 1) pe_int (nomark _)) (pss_one (ps_ret (C8.pe_c c__law_scaled hr (by decide) (by rfl) (pa_cons (pv 0) (pa_cons (pe_op op_sub (pe_op op_pow pe_int pe_int) pe_int) pa_nil))))) pss_nil)
  (pss_cons (ps_if (pt_cmpR op_eq (pv 1) pe_int (nomark _)) (pss_one (ps_ret (C8.pe_c c__law_moved hr (by decide) (by rfl) (pa_cons (pv 0) (pa_cons (C8.pe_c c__law_aside hr (by decide) (by rfl) (pa_cons pe_int (pa_cons (pv 2) pa_nil))) pa_nil))))) pss_nil)
  (pss_one (ps_ret (pv 0))))), ?_⟩
    obtain ⟨xs, hL⟩ := hR.lst h1 (by decide)
    walk_at "st"
    refine iteD (fun _ => ?_) (fun _ => ?_)
    · walk_at "st"
      refine AU.i_ ⟨by decide, by decide, by decide⟩ ?_
      walk_at "st"
      refine ⟨a, xs, R, _, rfl, hL, by rw [e10]; decide, fun r p ws H2 hr s2 np hp hE => ?_⟩
      walk_at "st"
      have hrs : r = scaleL R ((10 : Int) ^ ((10 : Int).toNat) - 7) := hr.one ⟨scaleL_valid (by rw [e10]; decide) hR.v, fun _ => rfl⟩
      refine q p r H2 s2 ⟨⟨ws, hp, hE⟩, hr.v, by rw [hrs]; exact scaleL_dim hR.d, by rw [hrs]; show (R.map _).length ≤ 8; rw [List.length_map]; exact hR.z, (CB.le (CB.of hr fun e he => by
        obtain ⟨g, hg, rfl⟩ := List.mem_map.mp he
        exact hR.c g hg) (Nat.le_add_right _ _)), fun e he => ?_⟩ (fun bs _ hB => by rw [hrs]; exact boxed_scale hB)
      rw [hrs] at he
      obtain ⟨g, hg, rfl⟩ := List.mem_map.mp he
      show (g.2 * ((10 : Int) ^ ((10 : Int).toNat) - 7)).natAbs ≤ _
      rw [Int.natAbs_mul, e10]
      exact Nat.mul_le_mul (hR.u g hg) (by decide)
    · walk_at "st"
      refine iteD (fun _ => ?_) (fun _ => ?_)
      · walk_at "st"
        refine ⟨900, m, rfl, h3, by decide, fun pa l H2 s2 hl hlb hpa => ?_⟩
        walk_at "st"
        refine ⟨a, pa, xs, R, l, rfl, ⟨AU.sqL (s2 _ _ hL.l), hL.e.mono s2, AU.line (by have := hR.z; omega)⟩, AU.sqT hpa, fun e he => by rw [hR.d e he, hl]; exact Nat.le_refl _, by omega, fun p ws H3 s3 np hp hE => ?_⟩
        walk_at "st"
        refine q p _ H3 (s2.trans s3) ⟨⟨ws, hp, hE⟩, movL_valid hR.v fun e he => by rw [hR.d e he, hl]; exact Nat.le_refl _, fun e he => ?_, by show (R.map _).length ≤ 8; rw [List.length_map]; exact hR.z, fun e he x hx => ?_, fun e he => ?_⟩ (fun bs hb hB => boxed_mov (by omega) hB)
        · obtain ⟨g, hg, rfl⟩ := List.mem_map.mp he
          show (plusP g.1 l).length = m
          rw [plusP_len (by rw [hR.d g hg, hl]; exact Nat.le_refl _), hR.d g hg]
        · obtain ⟨g, hg, rfl⟩ := List.mem_map.mp he
          obtain ⟨u, hu, v, hv, rfl⟩ := plusP_mem hx
          have := hR.c g hg u hu
          have := hlb v hv
          omega
        · obtain ⟨g, hg, rfl⟩ := List.mem_map.mp he
          have := hR.u g hg
          show g.2.natAbs ≤ _
          omega
      · walk_at "st"
        exact q a R H (Same.refl _) (hR.le (Nat.le_refl _) (Nat.le_add_right _ _) (Nat.le_mul_of_pos_right _ (by decide))) fun bs _ h => h
/-- the quotient of a row with one number changed -/
def spLQ (K : PySem.W.Frag) : Sp := fun vs H Q _ => ∃ (a b t : Addr) (F S : List Ent) (q : Pl) (v : Int) (m C U C2 U2 : Nat), vs = [.ref a, .ref b, .int v, .ref t] ∧ LR H a F m 8 C U ∧ LR H b S m 100 C2 U2 ∧ 1 ≤ m ∧ m ≤ 3 ∧ H t = some (.tup (q.map V.int)) ∧ q.length = m ∧ v.natAbs ≤ 1000 ∧ F ≠ [] ∧ U ≤ 1000000 ∧
  (v = 0 → ∀ H', Same H H' → Q (.ref b) H') ∧
  (v ≠ 0 → (¬ ∃ f, F = [f] ∧ f.2 ∣ v) → ∀ H', Same H H' → Q .non H') ∧
  (v ≠ 0 → ∀ f, F = [f] → f.2 ∣ v → wantRow H (S ++ [(plusP q (negP f.1), v.fdiv f.2)]) Q)
theorem c__law_quotient {f : Addr} {fd : FuncData} (D : C8.Def K mg "_law_quotient" s__law_quotient f fd) (b : Binds K fd ["_law_factor", "_law_rest", "_law_extra", "_law_place"] []) (T : Bi mg) (c__law_plus : C8.Cal P w K mg base 1 "_law_plus" (spPlus K) []) (c__law_back : C8.Cal P w K mg base 1 "_law_back" (spBack K) []) (c__law_add : C8.Cal P w K mg base 2 "_law_add" spAdd []) : C8.Cal P w K mg base 3 "_law_quotient" (spLQ K) [] := by
  refine C8.cal0 D b .nil sc__law_quotient (fun vs H Q E h => ?_) (fun cdv A outer s H vs Q E hr h => ?_)
  · obtain ⟨a, b, t, F, S, q, v, m, C, U, C2, U2, rfl, _⟩ := h
    rfl
  · obtain ⟨a, b, t, F, S, q, v, m, C, U, C2, U2, rfl, hF, hS, h1, h3, ht, hq, hv, hne, hU, q0, qN, qY⟩ := h
    refine ⟨_, (pss_cons (ps_if (pt_cmpR op_eq (pv 2) pe_int (nomark _)) (pss_one (ps_ret (pv 1))) pss_nil)
  (pss_cons (ps_if (PW.pt (pw_or (pt_cmpR op_ne (pe_callB call_len_seq (by rfl) T.n_len OT.b_len (pa_cons (pv 0) pa_nil)) pe_int (nomark _)) (pw_or1 (pt_cmpR op_ne (pe_op op_modN (pe_callTy call_int1 (by rfl) T.n_int OT.b_int (pa_cons (pv 2) pa_nil)) (pe_ix ix_tup (pe_ix ix_list (pv 0) pe_int (fun _ _ => rfl)) pe_int (fun _ _ => rfl))) pe_int (nomark _))))) (pss_one (ps_ret pe_non)) pss_nil)
  (pss_cons (ps_set (i := 4) sc__law_quotient.nd rfl (Or.inl rfl) (C8.pe_c c__law_plus hr (by decide) (by rfl) (pa_cons (pv 3) (pa_cons (C8.pe_c c__law_back hr (by decide) (by rfl) (pa_cons (pe_ix ix_tup (pe_ix ix_list (pv 0) pe_int (fun _ _ => rfl)) pe_int (fun _ _ => rfl)) pa_nil)) pa_nil))))
  (pss_one (ps_ret (C8.pe_c c__law_add hr (by decide) (by rfl) (pa_cons (pv 1) (pa_cons (pe_lst (pa_cons (pe_tup (pa_cons (pv 4) (pa_cons (pe_op HQ.op_fdivNW (pv 2) (pe_ix ix_tup (pe_ix ix_list (pv 0) pe_int (fun _ _ => rfl)) pe_int (fun _ _ => rfl))) pa_nil))) pa_nil)) pa_nil)))))))), ?_⟩
    obtain ⟨xs, hLF⟩ := hF.lst h1 (by decide)
    obtain ⟨ys, hLS⟩ := hS.lst h1 (by decide)
    have haF := hLF.l
    have hxl := hLF.e.len
    walk_at "st"
    refine iteD (fun hv0 => ?_) (fun hv0 => ?_)
    · walk_at "st"
      exact q0 hv0 H (Same.refl _)
    walk_at "st"
    refine iteND (fun hn => ?_) (fun hn => ?_)
    · walk_at "st"
      exact qN hv0 (fun ⟨f, e, _⟩ => hn (by rw [hxl, e]; rfl)) H (Same.refl _)
    obtain ⟨f0, rfl⟩ : ∃ f0, F = [f0] := by
      cases F with
      | nil => exact absurd rfl hne
      | cons f r =>
        cases r with
        | nil => exact ⟨f, rfl⟩
        | cons g r => rw [List.length_cons, List.length_cons] at hxl; omega
    obtain ⟨v0, hv00, t0, p0, rfl, ht0, hp0⟩ := hLF.e.at (i := 0) (Nat.zero_lt_one)
    have at0 : atI xs 0 = some (.ref t0) := atI_nat (j := 0) hv00
    have f0n : f0.2 ≠ 0 := hF.v.nz f0 List.mem_cons_self
    have f0u : f0.2.natAbs ≤ 1000000 := Nat.le_trans (hF.u f0 List.mem_cons_self) hU
    have f0d : f0.1.length = m := hF.d f0 List.mem_cons_self
    have ht0' : H t0 = some (.tup [.ref p0, .int f0.2]) := ht0
    have hp0' : H p0 = some (.tup (f0.1.map V.int)) := hp0
    walk_at "st"
    refine iteND (fun hm => ?_) (fun hm => ?_)
    · walk_at "st"
      refine qN hv0 (fun ⟨f, e, hd⟩ => hm ?_) H (Same.refl _)
      cases e
      obtain ⟨y, hy⟩ := hd
      rw [hy, Int.mul_fmod_right]
    walk_at "st"
    refine ⟨p0, f0.1, rfl, AU.sqT hp0', by omega, fun p1 H1 s1 hp1 => ?_⟩
    walk_at "st"
    refine ⟨t, p1, q, negP f0.1, rfl, by walk_at "tl", AU.sqT hp1, by rw [negP_len]; omega, by omega, fun p2 H2 s2 hp2 => ?_⟩
    have sA := s1.trans s2
    walk_at "st"
    refine AU.i_ ⟨f0n, ?_⟩ ?_
    · exact log2_small f0n (by omega)
    walk_at "st"
    refine ⟨by walk_at "sz", fun t3 nt3 => ?_⟩; generalize eH3 : upd _ t3 _ = H3; have s3 := AU.newS nt3 eH3; have ht3 := AU.newH eH3; clear eH3
    walk_at "st"
    refine ⟨by walk_at "sz", fun l4 nl4 => ?_⟩; generalize eH4 : upd _ l4 _ = H4; have s4 := AU.newS nl4 eH4; have hl4 := AU.newH eH4; clear eH4
    walk_at "st"
    have sB := sA.trans (s3.trans s4)
    have hdv : f0.2 ∣ v := Int.dvd_of_fmod_eq_zero hm
    refine ⟨b, l4, ys, [.ref t3], S, [(plusP q (negP f0.1), v.fdiv f0.2)], rfl, hLS.mono sB, ⟨hl4, .cons ⟨t3, p2, rfl, s4 _ _ ht3, s4 _ _ (s3 _ _ hp2)⟩ .nil, (by show 1 ≤ 1000; decide), fun e he z => ?_⟩, ?_⟩
    · rw [List.mem_singleton.mp he] at z
      have z' : plusP q (negP f0.1) = [] := z
      have := plusP_len (k := q) (l := negP f0.1) (by rw [negP_len]; omega)
      rw [z'] at this
      have : 0 = q.length := this
      omega
    · exact wantRow.mono sB (qY hv0 f0 rfl hdv)
end
end OT

set_option Elab.async false
set_option linter.all false
set_option maxRecDepth 100000
set_option maxHeartbeats 4000000
namespace OT
open PySem PySem.Spec PyProof.Rows L2
local macro_rules | `(tactic| walk_at "sm") => `(tactic| first | assumption | exact AU.mutS (by walk_at "sm") (by assumption))
local macro_rules | `(tactic| walk_at "le") => `(tactic| first | (refine Nat.le_of_lt (AU.line ?_); (try simp only [List.length_append, List.length_map, List.length_cons, List.length_nil, List.length_take, List.length_replicate]); omega))
local macro_rules | `(tactic| walk_at "ll") => `(tactic| first | (show 0 < sizeLine; decide) | (show 1 < sizeLine; decide) | (show 2 < sizeLine; decide) | (show 3 < sizeLine; decide) | (refine AU.line ?_; (try simp only [List.length_append, List.length_map, List.length_cons, List.length_nil, List.length_take, List.length_replicate]); omega))
local macro_rules | `(tactic| walk_at "hl") => `(tactic| first | assumption | exact upd_same | exact AU.climb (by walk_at "sm") (by walk_at "hl"))
local macro_rules | `(tactic| walk_at "sl") => `(tactic| first | assumption | exact AU.sqL (by walk_at "hl") | exact AU.sqLS (by walk_at "sm") (by walk_at "sl"))
local macro_rules | `(tactic| walk_at "tl") => `(tactic| first | assumption | exact AU.sqT (by walk_at "hl") | exact AU.sqTS (by walk_at "sm") (by walk_at "tl"))
local macro_rules | `(tactic| walk_at "sz") => `(tactic| first | (show 0 ≤ sizeLine; decide) | (show 1 ≤ sizeLine; decide) | (show 2 ≤ sizeLine; decide) | (show 3 ≤ sizeLine; decide) | (show 4 ≤ sizeLine; decide) | (show 5 ≤ sizeLine; decide) | (show 6 ≤ sizeLine; decide) | (show 7 ≤ sizeLine; decide) | (show 8 ≤ sizeLine; decide) | (show 9 ≤ sizeLine; decide) | (show 10 ≤ sizeLine; decide))
local macro_rules | `(tactic| walk_at "ci") => `(tactic| first | exact trivial | omega | (show (0 : Int) < _; omega) | (show CMul _ _; exact .inl ⟨by omega, by omega⟩) | (show CMul _ _; exact .inr ⟨by omega, by omega⟩) | (show CMul _ _; exact .inr (AU.b01 _)) | (show CMul _ _; exact .inl (AU.b01 _)) | (show CDiv _ _; exact ⟨by omega, by omega⟩) | (show _ ≠ (0 : Int); omega) | (show CDiv _ _; exact ⟨by decide, by decide⟩))
local macro_rules | `(tactic| walk_at "hh") => `(tactic| first | assumption | exact OT.HeldF.mono (by walk_at "sm") (by walk_at "hh"))
local macro_rules | `(tactic| walk_at "tyx") => `(tactic| first | exact .base (.int _) | exact .base (.bl _) | exact .base (.str _) | exact .base (.lst (by walk_at "hl")) | exact .base (.tup (by walk_at "hl")))
local macro_rules | `(tactic| walk_at "st1") => `(tactic| first | ((with_reducible show tSeq _ _ _ _ _); (try simp only [List.set_cons_zero, List.set_cons_succ]); refine AU.seq_ ?_) | ((with_reducible show tAsg _ _ _ _ _); refine AU.asg_ ?_) | ((with_reducible show gName _ _ _ _ _); refine AU.name_ ?_) | ((with_reducible show tDrop _ _ _ _); refine AU.drop_ ?_) | ((with_reducible show tRet _ _ _ _); refine AU.ret_ ?_) | ((with_reducible show tRetN _ _ _); refine AU.retN_ ?_) | ((with_reducible show tNext _ _ _); refine AU.next_ ?_) | ((with_reducible show tBreak _ _ _); refine AU.brk_ ?_) | ((with_reducible show tCont _ _ _); refine AU.cont_ ?_) | ((with_reducible show tIfS _ _ _ _ _ _); refine AU.ifs_ ?_) | ((with_reducible show tAug _ _ _ _ _ _); refine AU.aug_ rfl ?_) | ((with_reducible show Ends.nx (Ends.mk _ _ _ _) _ _); refine AU.nxm ?_) | ((with_reducible show Ends.rt (Ends.mk _ _ _ _) _ _); refine AU.rtm ?_) | ((with_reducible show Ends.bk (Ends.mk _ _ _ _) _ _); refine AU.bkm ?_) | ((with_reducible show Ends.ct (Ends.mk _ _ _ _) _ _); refine AU.ctm ?_) | ((with_reducible show tVar _ _ _ _); refine AU.var_ rfl ?_) | ((with_reducible show tC _ _ _ _); refine AU.c_ ?_) | ((with_reducible show tOp _ _ _ _ _ _); refine AU.op_ ?_) | ((with_reducible show tUn _ _ _ _ _); refine AU.un_ ?_) | ((with_reducible show rU _ _ _ _); refine AU.u_ ?_) | ((with_reducible show rI0 _ _ _ _ _); refine AU.i0_ ?_) | ((with_reducible show rI _ _ _ _ _ _); refine AU.i_ (by walk_at "ci") ?_) | ((with_reducible show rEq (V.int _) (V.int _) _ _); first | (with_reducible refine AU.eqr_ ?_) | refine AU.eqi_ ?_) | ((with_reducible show rEq (V.str _) (V.str _) _ _); (with_reducible refine AU.eqs_ ?_)) | ((with_reducible show rNe (V.int _) (V.int _) _ _); refine AU.nei_ ?_) | ((with_reducible show rEq _ _ _ _); refine AU.eq_ rfl ?_) | ((with_reducible show rNe _ _ _ _); refine AU.ne_ rfl ?_) | ((with_reducible show tTest _ _ _ _); refine AU.test_ ?_) | ((with_reducible show tB _ _ _ _); refine AU.b_ ?_) | ((with_reducible show tAnd _ _ _ _ _); refine AU.and_ ?_) | ((with_reducible show tOr _ _ _ _ _); refine AU.or_ ?_) | ((with_reducible show tNot _ _ _ _); refine AU.not_ ?_) | ((with_reducible show tAndV _ _ _ _ _); refine AU.andV_ ?_) | ((with_reducible show tOrV _ _ _ _ _); refine AU.orV_ ?_) | ((with_reducible show tNotV _ _ _ _); refine AU.notV_ ?_) | ((with_reducible show tIf _ _ _ _ _ _); refine AU.if_ ?_) | ((with_reducible show tNil _ _ _); refine AU.nil_ ?_) | ((with_reducible show tCons _ _ _ _ _); refine AU.cons_ ?_) | ((with_reducible show tLst _ _ _ _); refine AU.lst_ ?_) | ((with_reducible show tTup _ _ _ _); refine AU.tup_ ?_) | ((with_reducible show tCall _ _ _ _ _ _ _); refine AU.call_ ?_) | ((with_reducible show tCallS _ _ _ _ _ _); refine AU.callS_ ?_) | ((with_reducible show tCB _ _ _ _ _); refine AU.cb_ ?_) | ((with_reducible show tBM _ _ _ _ _ _ _ _); refine AU.bm_ ?_) | ((with_reducible show rIxL _ _ _ _ _); refine AU.ixL_ (by walk_at "sl") (by first | assumption | rfl) ?_) | ((with_reducible show rIxT _ _ _ _ _); refine AU.ixT_ (by walk_at "tl") (by first | assumption | rfl) ?_) | ((with_reducible show Evl.rLenS _ _ _ _); first | refine AU.lenL_ (by walk_at "sl") ?_ | refine AU.lenT_ (by walk_at "tl") ?_) | ((with_reducible show rAppend (V.ref _) [_] _ _); refine AU.app_ (by walk_at "hl") (by walk_at "ll") ?_) | ((with_reducible show tyV _ _ (V.ref _) _ ∧ _); refine AU.tyl_ (by walk_at "sl") ?_) | ((with_reducible show rCat (V.ref _) (V.ref _) _ _); refine AU.cat_ (by walk_at "hl") (by walk_at "hl") (by walk_at "le") ?_) | ((with_reducible show tFor _ _ _ _ _ _); refine AU.for_ ?_) | ((with_reducible show tLc _ _ _ _ _ _ _ _); refine AU.lc_ ?_) | ((with_reducible show iRng1 _ _ _ _); refine AU.rng1_ ?_) | ((with_reducible show iList _ _ _ _ _); refine AU.list_ ?_) | ((with_reducible show iTup _ _ _ _ _); refine AU.itup_ ?_) | ((with_reducible show (∃ i, [V.bl _] = [V.int i] ∧ _) ∨ _); refine AU.intb_ ?_) | ((with_reducible show (∃ i, [V.int _] = [V.int i] ∧ _) ∨ _); refine AU.inti_ ?_) | ((with_reducible show tYes _ _ _); refine AU.yes_ ?_) | ((with_reducible show ∃ p ys, [V.ref _] = [V.ref p] ∧ (SqL _ _ p ys ∨ SqT _ _ p ys) ∧ _); first | refine AU.listof_ (by walk_at "sl") ?_ | refine AU.listofT_ (by walk_at "tl") ?_) | ((with_reducible show ∃ p ys, [V.ref _] = [V.ref p] ∧ ((SqL _ _ p ys ∧ _) ∨ (SqT _ _ p ys ∧ _))); first | refine AU.tupleof_ (by walk_at "sl") ?_ | refine AU.tupleofT_ (by walk_at "tl") ?_) | ((with_reducible show V.non = V.non ∧ _); refine ⟨rfl, ?_⟩) | ((with_reducible show OT.rIsX _ _ _ _ [V.ref _, _] _ _); refine OT.isX_ (by walk_at "hh") (by first | exact .own _ | exact .ty _) (by assumption) ?_) | ((with_reducible show OT.tFA _ _ _ _ _ _ _ _ _); refine OT.fA_ ?_) | ((with_reducible show OT.tCallE _ _ _ _ _ _ _ _); refine OT.callE_ ?_) | ((with_reducible show rIsi _ [_, _] _ _); refine OT.isi_ (by first | exact .own _ | exact .ty _) (by walk_at "tyx") (by first | assumption | exact kit_ty OT.kq_int_int | exact kit_ty OT.kq_int_bool | exact kit_ty OT.kq_bool_bool | exact kit_ty OT.kq_bool_int | exact kit_ty OT.kq_str_str | exact kit_ty OT.kq_tuple_tuple | exact kit_ty OT.kq_list_list | exact kit_ty OT.kq_list_tuple | exact kit_ty OT.kq_tuple_list | exact kit_ty OT.kq_list_int | exact kit_ty OT.kq_tuple_int | exact kit_ty OT.kq_list_bool | exact kit_ty OT.kq_tuple_bool | exact kit_ty OT.kq_str_int | exact kit_ty OT.kq_int_str | exact kit_ty OT.kq_int_list | exact kit_ty OT.kq_int_tuple | exact kit_ty OT.kq_bool_list | exact kit_ty OT.kq_bool_tuple) ?_) | ((with_reducible show ∃ k, V.bl _ = V.bl k ∧ _); refine AU.bool_ ?_) | ((with_reducible refine AU.trueT ?_)) | ((with_reducible refine AU.refNon ?_)) | ((with_reducible refine AU.nonNon ?_)) | ((with_reducible refine AU.trueN ?_)) | ((with_reducible refine AU.falseN ?_)) | ((with_reducible refine AU.falseF ?_)))
local macro_rules | `(tactic| walk_at "st") => `(tactic| repeat walk_at "st1")
theorem Boxed.mir {bs : List Nat} {es : List Ent} (h : Boxed bs es) (hd : ∀ e ∈ es, e.1.length = bs.length) : Boxed bs (mirL es) := by
  obtain ⟨o, ho, hb⟩ := h
  refine ⟨List.zipWith (fun (y : Int) (b : Nat) => -(y + (b : Int) - 1)) o bs, by rw [List.length_zipWith, ho, Nat.min_self], fun e he => ?_⟩
  obtain ⟨y, hy, rfl⟩ := List.mem_map.mp he
  intro i x z b hx hz hbi
  have hye := hd y hy
  have hi := (List.getElem?_eq_some_iff.mp hbi).1
  have hbe : bs[i] = b := (List.getElem?_eq_some_iff.mp hbi).2
  have h2 := (List.getElem?_eq_some_iff.mp hz).1
  rw [List.getElem?_eq_getElem h2, List.getElem_zipWith, hbe] at hz
  have h1 : i < y.1.length := by omega
  have hx2 : (y.1.map fun x => -x)[i]? = some x := hx
  rw [List.getElem?_map, List.getElem?_eq_getElem h1] at hx2
  have h3 := hb y hy i y.1[i] o[i] b (List.getElem?_eq_getElem _) (List.getElem?_eq_getElem _) hbi
  have h4 : -y.1[i] = x := Option.some.inj hx2
  have h5 := Option.some.inj hz
  omega
theorem LR.big {H : Hp} {a : Addr} {R : List Ent} {m L C U : Nat} (h : LR H a R m L C U) (hL : L ≤ 100) (hC : C ≤ 10000) (hU : U ≤ 10 ^ 19) : LR H a R m 100 10000 (10 ^ 19) := h.le hL hC hU
theorem mkQuo {K : PySem.W.Frag} {H : Hp} {a b : Addr} {R F : List Ent} {n m : Nat} (hR : LR H a R n 100 10000 (10 ^ 19)) (hF : LR H b F m 100 10000 (10 ^ 19)) (n1 : 1 ≤ n) (n3 : n ≤ 3) (m1 : 1 ≤ m) (m3 : m ≤ 3) (hf : Fits R n) : ∃ xs ys U, QuoR K H a b xs ys R F n m 10000 U := by
  obtain ⟨xs, h1, h2⟩ := hR.ex
  obtain ⟨ys, h3, h4⟩ := hF.ex
  obtain ⟨U, hU, hB⟩ := hf
  exact ⟨xs, ys, U, h1, h3, h2, h4, hR.v, hF.v, hR.d, hF.d, by have := hR.z; omega, by have := hF.z; omega, n1, m1, n3, m3, hR.c, hF.c, by decide, hF.u.num (Nat.le_refl _), hB, hU⟩
/-- the quotient of the law -/
structure SR (S : List Ent) (m : Nat) : Prop where
  v : Valid S
  d : DimN m S
  z : S.length ≤ 100
  c : CB 10000 S
  u : NB (10 ^ 19) S
theorem mkFlips {K : PySem.W.Frag} {H : Hp} {a b e : Addr} {R F S EX : List Ent} {m : Nat} (hR : LR H a R m 100 10000 (10 ^ 19)) (hF : LR H b F m 100 10000 (10 ^ 19)) (hE : LR H e EX m 100 10000 (10 ^ 19)) (m1 : 1 ≤ m) (m3 : m ≤ 3) (hn : F ≠ []) (hS : SR S m) (hz : F.length * S.length < 2000)
    (eR : ∀ q, numAt R q = numAt (timesL F S) q) (eE : RowIs EX (timesL (mirL F) S)) (f1 : Fits R m) (f2 : Fits EX m) : ∃ xs ys es U U2, FlipsR K H a b e xs ys es R F S EX m 10000 U U2 := by
  obtain ⟨xs, ys, U, hQ⟩ := mkQuo (K := K) hR hF m1 m3 m1 m3 f1
  obtain ⟨es, h1, h2⟩ := hE.ex
  obtain ⟨U2, hU, hB⟩ := f2
  exact ⟨xs, ys, es, U, U2, hQ, h1, h2, eE, hn, ⟨hS.v, hS.d, eR, hz, by have := hS.z; omega, hS.u.num (Nat.le_refl _), fun e he x hx => by have := hS.c e he x hx; omega⟩, hE.z, hR.z, hE.c, hE.u.num (Nat.le_refl _), hR.u.num (Nat.le_refl _), hB, hU⟩
theorem exp_row {H : Hp} {p : Addr} {ws : List V} {F S EX : List Ent} {m CF UF CS US : Nat} (h : RowIs EX (timesL (mirL F) S)) (hp : H p = some (.lst ws)) (hE : Ents H ws EX) (dF : DimN m F) (dS : DimN m S) (cF : CB CF F) (uF : NB UF F) (cS : CB CS S) (uS : NB US S) (hz : F.length * S.length ≤ 100) (hC : CF + CS ≤ 10000) (hU : 100 * (UF * US) ≤ 10 ^ 19) : LR H p EX m 100 10000 (10 ^ 19) :=
  LR.le (LR.row (L := 100) (C := CF + CS) (U := UF * US) h hp hE (DimN.times (fun x hx => by
    obtain ⟨y, hy, rfl⟩ := List.mem_map.mp hx
    show (negP y.1).length = m
    rw [negP_len, dF y hy]) dS) (by rw [timesL_len]; rw [show (mirL F).length = F.length from List.length_map _]; exact hz) (CB.times cF.mir cS) (NB.times uF.mir uS)) (Nat.le_refl _) hC hU
theorem bF2 {F S : List Ent} {m : Nat} (h1 : 1 ≤ m) (h3 : m ≤ 3) (dF : DimN m F) (bF : Boxed (boxN m) F) (dS : DimN m S) (bS : Boxed (boxN m) S) : Boxed (dblB (boxN m)) (timesL (mirL F) S) := by
  have l := boxN_len h1 h3
  exact boxed_times (bF.mir (by rw [l]; exact dF)) bS
section
variable {P : Program} {w : World} {K : PySem.W.Frag} {mg : Str → Option Value} {base : Heap}
def spByNum (K : PySem.W.Frag) : Sp := fun vs H Q _ => ∃ (a b c : Addr) (R F S : List Ent) (m : Nat) (t : Int), vs = [.ref a, .ref b, .ref c, .int t] ∧ LR H a R m 100 10000 (10 ^ 19) ∧ LR H b F m 8 2000 1000 ∧ LR H c S m 8 2000 1000000000000 ∧ 1 ≤ m ∧ m ≤ 3 ∧ 2 ≤ t ∧ t ≤ 9 ∧ F ≠ [] ∧ (∀ q, numAt R q = numAt (timesL F S) q) ∧ Boxed (boxN m) F ∧ Boxed (boxN m) S ∧ Fits R m ∧ ∀ H', Same H H' → Q (.bl true) H'
theorem c__law_by_number {f : Addr} {fd : FuncData} (D : C8.Def K mg "_law_by_number" s__law_by_number f fd) (b : Binds K fd ["_law_product", "_law_factor", "_law_rest", "_law_times_here"] []) (T : Bi mg) (c__law_scaled : C8.Cal P w K mg base 2 "_law_scaled" spScaled []) (c__law_refuses : C8.Cal P w K mg base 8 "_law_refuses" (spRefuses K) []) (c__law_flips : C8.Cal P w K mg base 8 "_law_flips" (spFlips K) []) (c__law_times : C8.Cal P w K mg base 2 "_law_times" (spTimes K) []) (c__law_mirror : C8.Cal P w K mg base 2 "_law_mirror" spMir []) : C8.Cal P w K mg base 9 "_law_by_number" (spByNum K) [] := by
  refine C8.cal0 D b .nil sc__law_by_number (fun vs H Q E h => ?_) (fun cdv A outer s H vs Q E hr h => ?_)
  · obtain ⟨a, b, c, R, F, S, m, t, rfl, _⟩ := h
    rfl
  · obtain ⟨a, b, c, R, F, S, m, t, rfl, hR, hF, hS, h1, h3, t2, t9, hne, eR, bF, bS, fR, q⟩ := h
    refine ⟨_, (pss_cons (ps_set (i := 4) sc__law_by_number.nd rfl (Or.inl rfl) (C8.pe_c c__law_scaled hr (by decide) (by rfl) (pa_cons (pv 1) (pa_cons (pv 3) pa_nil))))
  (pss_cons (ps_for PassesOwn.never rfl (pi_list (pv 2)) (pg_name (i := 5) sc__law_by_number.nd rfl (Or.inl rfl)) (pss_one (ps_if (pt_cmpR op_ne (pe_op op_mod (pe_callTy call_int1 (by rfl) T.n_int OT.b_int (pa_cons (pe_ix ix_tup (pv 5) pe_int (fun _ _ => rfl)) pa_nil)) (pv 3)) pe_int (nomark _)) (pss_one (ps_ret (C8.pe_c c__law_refuses hr (by decide) (by rfl) (pa_cons (pv 0) (pa_cons (pv 4) (pa_cons pe_str pa_nil)))))) pss_nil)))
  (pss_cons (ps_setLc (i := 6) (own := [("_law_entry", 5)]) (g := (gName 5)) (tt := tYes) rfl sc__law_by_number.nd rfl rfl (sw_true rfl rfl rfl rfl) (pi_list (pv 2)) (blkOk_by (N := ["_law_product", "_law_factor", "_law_rest", "_law_times_here", "_law_wider", "_law_entry", "_law_part"]) (sc := C8.fnScope s__law_by_number) (by decide +kernel)) (fun _ _ _ _ _ => (pg_name (i := 5) sc__law_by_number.nd rfl (Or.inl rfl))) (fun _ _ _ _ _ => pts_nil) (fun _ _ _ _ _ => (pe_tup (pa_cons (pe_ix (show IxR _ (rIxT K) from ix_tup) (pv 5) pe_int (fun _ _ => rfl)) (pa_cons (pe_op op_fdiv (pe_ix (show IxR _ (rIxT K) from ix_tup) (pv 5) pe_int (fun _ _ => rfl)) (pv 3)) pa_nil)))))
  (pss_one (ps_ret (C8.pe_c c__law_flips hr (by decide) (by rfl) (pa_cons (pv 0) (pa_cons (pv 4) (pa_cons (C8.pe_c c__law_times hr (by decide) (by rfl) (pa_cons (C8.pe_c c__law_mirror hr (by decide) (by rfl) (pa_cons (pv 4) pa_nil)) (pa_cons (pv 6) pa_nil))) pa_nil))))))))), ?_⟩
    obtain ⟨ys, hLF⟩ := hF.lst h1 (by decide)
    walk_at "st"
    refine ⟨b, ys, F, t, rfl, hLF, by omega, fun W pw ws H1 hW s1 npw hpw hEw => ?_⟩
    have hWF : W = scaleL F t := hW.one ⟨scaleL_valid (by omega) hF.v, fun _ => rfl⟩
    subst hWF
    have lWF : (scaleL F t).length = F.length := List.length_map _
    have uW : NB 9000 (scaleL F t) := fun e he => by
      obtain ⟨g, hg, rfl⟩ := List.mem_map.mp he
      show (g.2 * t).natAbs ≤ 9000
      rw [Int.natAbs_mul]
      exact Nat.mul_le_mul (hF.u g hg) (show t.natAbs ≤ 9 by omega)
    have cW : CB 2000 (scaleL F t) := fun e he => by
      obtain ⟨g, hg, rfl⟩ := List.mem_map.mp he
      exact hF.c g hg
    have LW : LR H1 pw (scaleL F t) m 8 2000 9000 := ⟨⟨ws, hpw, hEw⟩, hW.v, scaleL_dim hF.d, by rw [lWF]; exact hF.z, cW, uW⟩
    have S1 := hS.mono s1
    obtain ⟨zs, hzs, hEz⟩ := S1.ex
    have hzl := hEz.len
    walk_at "st"
    refine ⟨_, rfl, ⟨zs, AU.sqL hzs⟩, ?_⟩
    refine for_list (K := K) (xs := zs) (fun i σ H2 => ∃ y5, σ = [some (.ref a), some (.ref b), some (.ref c), some (.int t), some (.ref pw), y5, none] ∧ H2 = H1 ∧ ∀ (k : Nat) (e : Ent), k < i → S[k]? = some e → t ∣ e.2) ⟨none, rfl, rfl, fun k e h => by omega⟩ ?_ ?_ ?_
    · rintro i σ H2 _ ⟨y5, rfl, rfl, _⟩
      exact AU.sqL hzs
    · rintro i x σ H2 hx ⟨y5, rfl, rfl, hdv⟩
      obtain ⟨e, he, te, pe, rfl, hte, hpe⟩ := hEz.get hx
      walk_at "st"
      refine iteND (fun hn => ?_) (fun hy => ?_)
      · walk_at "st"
        obtain ⟨xs, ws2, U, hQ⟩ := mkQuo (K := K) (hR.mono s1) (LW.big (by decide) (by decide) (by decide)) h1 h3 h1 h3 fR
        have hno : ¬ Fac R (scaleL F t) m := fac_part_no hF.v hS.v hF.d hS.d hne eR (List.mem_of_getElem? he) fun hd => hn (Int.emod_eq_zero_of_dvd hd)
        refine ⟨a, pw, _, xs, ws2, R, scaleL F t, m, m, 10000, U, rfl, hQ, .inr (.inr ⟨mixB_same (n := m) (m := m) (fun _ _ => rfl) hR.d LW.d, ?_, hno, rfl⟩), fun H3 s3 => ?_⟩
        · intro z
          exact hne (List.map_eq_nil_iff.mp z)
        · walk_at "st"
          exact q H3 (s1.trans s3)
      · walk_at "st"
        refine ⟨_, rfl, rfl, fun k g hk hg => ?_⟩
        by_cases c : k < i
        · exact hdv k g c hg
        · obtain rfl : k = i := by omega
          rw [he] at hg
          cases hg
          exact Int.dvd_of_emod_eq_zero hy
    · rintro σ H2 ⟨y5, rfl, rfl, hdv⟩
      have hdv' : ∀ e ∈ S, t ∣ e.2 := fun e he => by
        obtain ⟨k, hk⟩ := List.getElem?_of_mem he
        exact hdv k e (by have := (List.getElem?_eq_some_iff.mp hk).1; omega) hk
      walk_at "st"
      refine ⟨_, rfl, ⟨zs, AU.sqL hzs⟩, fun D nD => ?_⟩
      refine lc_list (K := K) (xs := zs) (AU.EntsG H2 D fun k e => ∃ g, S[k]? = some g ∧ e = (g.1, g.2 / t)) (AU.EntsG.start nD) ?_ ?_ ?_
      · rintro i H3 _ hP
        exact AU.sqL (hP.1 _ _ hzs)
      · rintro i x H3 hx hP
        have sP := hP.1
        obtain ⟨e, he, te, pe, rfl, hte, hpe⟩ := hEz.get hx
        have hi := (List.getElem?_eq_some_iff.mp he).1
        have hz8 := hS.z
        walk_at "st"
        refine ⟨rfl, ?_⟩
        walk_at "st"
        refine ⟨by walk_at "sz", fun t4 nt4 => ?_⟩; generalize eH4 : upd _ t4 _ = H4; have s4 := AU.newS nt4 eH4; have ht4 := AU.newH eH4; clear eH4
        exact hP.step nD s4 (by omega) (e := (e.1, e.2 / t)) ⟨t4, pe, rfl, ht4, s4 _ _ (sP _ _ hpe)⟩ ⟨e, he, rfl⟩
      · rintro H3 ⟨s3, ps, es, hD, hEp, hel, hpe⟩
        have hes : es = partL S t := List.ext_getElem? fun k => by
          by_cases c : k < es.length
          · obtain ⟨g, hg, e⟩ := hpe k _ (List.getElem?_eq_getElem c)
            rw [List.getElem?_eq_getElem c, e]
            unfold partL
            rw [List.getElem?_map, hg]
            rfl
          · rw [List.getElem?_eq_none (by omega), List.getElem?_eq_none (by unfold partL; rw [List.length_map]; omega)]
        subst hes
        have lP : (partL S t).length = S.length := List.length_map _
        have vP := partL_valid hS.v hdv'
        have dP : DimN m (partL S t) := fun e he => by
          obtain ⟨g, hg, rfl⟩ := List.mem_map.mp he
          exact hS.d g hg
        have cP : CB 2000 (partL S t) := fun e he => by
          obtain ⟨g, hg, rfl⟩ := List.mem_map.mp he
          exact hS.c g hg
        have uP : NB 1000000000000 (partL S t) := fun e he => by
          obtain ⟨g, hg, rfl⟩ := List.mem_map.mp he
          have h2 := hS.u g hg
          show (g.2 / t).natAbs ≤ _
          rw [Int.natAbs_ediv_of_dvd (hdv' g hg)]
          exact Nat.le_trans (Nat.div_le_self _ _) h2
        walk_at "st"
        have L3 := LW.mono s3
        refine ⟨pw, ws, scaleL F t, rfl, ⟨s3 _ _ hpw, hEw.mono s3, by have := LW.z; omega, dim_ne LW.d h1⟩, fun e he => by rw [LW.d e he]; omega, fun M pm wm H4 hM s4 npm hpm hEm => ?_⟩
        have hMe : M = mirP (scaleL F t) := hM.one (mirP_is LW.v LW.d)
        have dM : DimN m M := by rw [hMe]; exact mirP_dim LW.d
        walk_at "st"
        have zM : M.length ≤ 8 := by rw [hMe, mirP_len]; exact LW.z
        have zP : (partL S t).length ≤ 8 := by rw [lP]; exact hS.z
        refine ⟨pm, D, wm, ps, M, partL S t, rfl, AU.sqL hpm, AU.sqL (s4 _ _ hD), hEm, hEp.mono s4, Nat.le_trans (Nat.mul_le_mul zM zP) (by decide), fun e he g hg => by rw [dM e he, dP g hg], fun e he => ⟨dim_ne dM h1 e he, by rw [dM e he]; omega⟩, uP.num (by decide), fun X px wx H5 hX s5 npx hpx hEx => ?_⟩
        have hX' : RowIs X (timesL (mirL (scaleL F t)) (partL S t)) := ⟨hX.v, fun k => by rw [hX.s, timesL_eq1 _ hM.s]⟩
        have LX : LR H5 px X m 100 10000 (10 ^ 19) := exp_row hX' hpx hEx LW.d dP LW.c LW.u cP uP (Nat.le_trans (Nat.mul_le_mul LW.z zP) (by decide)) (by decide) (by decide)
        have lN := boxN_len h1 h3
        have fX : Fits X m := fits_dbl h1 h3 (DimN.of hX' (DimN.times (fun x hx => by
          obtain ⟨y, hy, rfl⟩ := List.mem_map.mp hx
          show (negP y.1).length = m
          rw [negP_len, LW.d y hy]) dP)) (boxed_row hX' (bF2 h1 h3 LW.d (boxed_scale bF) dP (by
            obtain ⟨o, ho, hb⟩ := bS
            refine ⟨o, ho, fun e he => ?_⟩
            obtain ⟨g, hg, rfl⟩ := List.mem_map.mp he
            exact hb g hg)))
        have s25 := s3.trans (s4.trans s5)
        obtain ⟨xs, ys2, es2, U, U2, hFl⟩ := mkFlips (K := K) ((hR.mono s1).mono s25) ((LW.big (by decide) (by decide) (by decide)).mono s25) LX h1 h3 (by intro z; exact hne (List.map_eq_nil_iff.mp z)) ⟨vP, dP, by omega, cP.le (by decide), uP.le (by decide)⟩ (by rw [lWF, lP]; exact Nat.lt_of_le_of_lt (Nat.mul_le_mul hF.z hS.z) (by decide)) (fac_part hdv' eR) hX' fR fX
        walk_at "st"
        refine ⟨a, pw, px, xs, ys2, es2, R, scaleL F t, partL S t, X, m, 10000, U, U2, rfl, hFl, fun H6 s6 => ?_⟩
        walk_at "st"
        exact q H6 ((s1.trans s25).trans s6)
end
end OT

set_option Elab.async false
set_option linter.all false
set_option maxRecDepth 100000
set_option maxHeartbeats 8000000
namespace OT
open PySem PySem.Spec PyProof.Rows L2
local macro_rules | `(tactic| walk_at "sm") => `(tactic| first | assumption | exact AU.mutS (by walk_at "sm") (by assumption))
local macro_rules | `(tactic| walk_at "le") => `(tactic| first | (refine Nat.le_of_lt (AU.line ?_); (try simp only [List.length_append, List.length_map, List.length_cons, List.length_nil, List.length_take, List.length_replicate]); omega))
local macro_rules | `(tactic| walk_at "ll") => `(tactic| first | (show 0 < sizeLine; decide) | (show 1 < sizeLine; decide) | (show 2 < sizeLine; decide) | (show 3 < sizeLine; decide) | (refine AU.line ?_; (try simp only [List.length_append, List.length_map, List.length_cons, List.length_nil, List.length_take, List.length_replicate]); omega))
local macro_rules | `(tactic| walk_at "hl") => `(tactic| first | assumption | exact upd_same | exact AU.climb (by walk_at "sm") (by walk_at "hl"))
local macro_rules | `(tactic| walk_at "sl") => `(tactic| first | assumption | exact AU.sqL (by walk_at "hl") | exact AU.sqLS (by walk_at "sm") (by walk_at "sl"))
local macro_rules | `(tactic| walk_at "tl") => `(tactic| first | assumption | exact AU.sqT (by walk_at "hl") | exact AU.sqTS (by walk_at "sm") (by walk_at "tl"))
local macro_rules | `(tactic| walk_at "sz") => `(tactic| first | (show 0 ≤ sizeLine; decide) | (show 1 ≤ sizeLine; decide) | (show 2 ≤ sizeLine; decide) | (show 3 ≤ sizeLine; decide) | (show 4 ≤ sizeLine; decide) | (show 5 ≤ sizeLine; decide) | (show 6 ≤ sizeLine; decide) | (show 7 ≤ sizeLine; decide) | (show 8 ≤ sizeLine; decide) | (show 9 ≤ sizeLine; decide) | (show 10 ≤ sizeLine; decide))
local macro_rules | `(tactic| walk_at "ci") => `(tactic| first | exact trivial | omega | (show (0 : Int) < _; omega) | (show CMul _ _; exact .inl ⟨by omega, by omega⟩) | (show CMul _ _; exact .inr ⟨by omega, by omega⟩) | (show CMul _ _; exact .inr (AU.b01 _)) | (show CMul _ _; exact .inl (AU.b01 _)) | (show CDiv _ _; exact ⟨by omega, by omega⟩) | (show _ ≠ (0 : Int); omega) | (show CDiv _ _; exact ⟨by decide, by decide⟩))
local macro_rules | `(tactic| walk_at "hh") => `(tactic| first | assumption | exact OT.HeldF.mono (by walk_at "sm") (by walk_at "hh"))
local macro_rules | `(tactic| walk_at "tyx") => `(tactic| first | exact .base (.int _) | exact .base (.bl _) | exact .base (.str _) | exact .base (.lst (by walk_at "hl")) | exact .base (.tup (by walk_at "hl")))
local macro_rules | `(tactic| walk_at "st1") => `(tactic| first | ((with_reducible show tSeq _ _ _ _ _); (try simp only [List.set_cons_zero, List.set_cons_succ]); refine AU.seq_ ?_) | ((with_reducible show tAsg _ _ _ _ _); refine AU.asg_ ?_) | ((with_reducible show gName _ _ _ _ _); refine AU.name_ ?_) | ((with_reducible show tDrop _ _ _ _); refine AU.drop_ ?_) | ((with_reducible show tRet _ _ _ _); refine AU.ret_ ?_) | ((with_reducible show tRetN _ _ _); refine AU.retN_ ?_) | ((with_reducible show tNext _ _ _); refine AU.next_ ?_) | ((with_reducible show tBreak _ _ _); refine AU.brk_ ?_) | ((with_reducible show tCont _ _ _); refine AU.cont_ ?_) | ((with_reducible show tIfS _ _ _ _ _ _); refine AU.ifs_ ?_) | ((with_reducible show tAug _ _ _ _ _ _); refine AU.aug_ rfl ?_) | ((with_reducible show Ends.nx (Ends.mk _ _ _ _) _ _); refine AU.nxm ?_) | ((with_reducible show Ends.rt (Ends.mk _ _ _ _) _ _); refine AU.rtm ?_) | ((with_reducible show Ends.bk (Ends.mk _ _ _ _) _ _); refine AU.bkm ?_) | ((with_reducible show Ends.ct (Ends.mk _ _ _ _) _ _); refine AU.ctm ?_) | ((with_reducible show tVar _ _ _ _); refine AU.var_ rfl ?_) | ((with_reducible show tC _ _ _ _); refine AU.c_ ?_) | ((with_reducible show tOp _ _ _ _ _ _); refine AU.op_ ?_) | ((with_reducible show tUn _ _ _ _ _); refine AU.un_ ?_) | ((with_reducible show rU _ _ _ _); refine AU.u_ ?_) | ((with_reducible show rI0 _ _ _ _ _); refine AU.i0_ ?_) | ((with_reducible show rI _ _ _ _ _ _); refine AU.i_ (by walk_at "ci") ?_) | ((with_reducible show rEq (V.int _) (V.int _) _ _); first | (with_reducible refine AU.eqr_ ?_) | refine AU.eqi_ ?_) | ((with_reducible show rEq (V.str _) (V.str _) _ _); (with_reducible refine AU.eqs_ ?_)) | ((with_reducible show rNe (V.int _) (V.int _) _ _); refine AU.nei_ ?_) | ((with_reducible show rEq _ _ _ _); refine AU.eq_ rfl ?_) | ((with_reducible show rNe _ _ _ _); refine AU.ne_ rfl ?_) | ((with_reducible show tTest _ _ _ _); refine AU.test_ ?_) | ((with_reducible show tB _ _ _ _); refine AU.b_ ?_) | ((with_reducible show tAnd _ _ _ _ _); refine AU.and_ ?_) | ((with_reducible show tOr _ _ _ _ _); refine AU.or_ ?_) | ((with_reducible show tNot _ _ _ _); refine AU.not_ ?_) | ((with_reducible show tAndV _ _ _ _ _); refine AU.andV_ ?_) | ((with_reducible show tOrV _ _ _ _ _); refine AU.orV_ ?_) | ((with_reducible show tNotV _ _ _ _); refine AU.notV_ ?_) | ((with_reducible show tIf _ _ _ _ _ _); refine AU.if_ ?_) | ((with_reducible show tNil _ _ _); refine AU.nil_ ?_) | ((with_reducible show tCons _ _ _ _ _); refine AU.cons_ ?_) | ((with_reducible show tLst _ _ _ _); refine AU.lst_ ?_) | ((with_reducible show tTup _ _ _ _); refine AU.tup_ ?_) | ((with_reducible show tCall _ _ _ _ _ _ _); refine AU.call_ ?_) | ((with_reducible show tCallS _ _ _ _ _ _); refine AU.callS_ ?_) | ((with_reducible show tCB _ _ _ _ _); refine AU.cb_ ?_) | ((with_reducible show tBM _ _ _ _ _ _ _ _); refine AU.bm_ ?_) | ((with_reducible show rIxL _ _ _ _ _); refine AU.ixL_ (by walk_at "sl") (by first | assumption | rfl) ?_) | ((with_reducible show rIxT _ _ _ _ _); refine AU.ixT_ (by walk_at "tl") (by first | assumption | rfl) ?_) | ((with_reducible show Evl.rLenS _ _ _ _); first | refine AU.lenL_ (by walk_at "sl") ?_ | refine AU.lenT_ (by walk_at "tl") ?_) | ((with_reducible show rAppend (V.ref _) [_] _ _); refine AU.app_ (by walk_at "hl") (by walk_at "ll") ?_) | ((with_reducible show tyV _ _ (V.ref _) _ ∧ _); refine AU.tyl_ (by walk_at "sl") ?_) | ((with_reducible show rCat (V.ref _) (V.ref _) _ _); refine AU.cat_ (by walk_at "hl") (by walk_at "hl") (by walk_at "le") ?_) | ((with_reducible show tFor _ _ _ _ _ _); refine AU.for_ ?_) | ((with_reducible show tLc _ _ _ _ _ _ _ _); refine AU.lc_ ?_) | ((with_reducible show iRng1 _ _ _ _); refine AU.rng1_ ?_) | ((with_reducible show iList _ _ _ _ _); refine AU.list_ ?_) | ((with_reducible show iTup _ _ _ _ _); refine AU.itup_ ?_) | ((with_reducible show (∃ i, [V.bl _] = [V.int i] ∧ _) ∨ _); refine AU.intb_ ?_) | ((with_reducible show (∃ i, [V.int _] = [V.int i] ∧ _) ∨ _); refine AU.inti_ ?_) | ((with_reducible show tYes _ _ _); refine AU.yes_ ?_) | ((with_reducible show ∃ p ys, [V.ref _] = [V.ref p] ∧ (SqL _ _ p ys ∨ SqT _ _ p ys) ∧ _); first | refine AU.listof_ (by walk_at "sl") ?_ | refine AU.listofT_ (by walk_at "tl") ?_) | ((with_reducible show ∃ p ys, [V.ref _] = [V.ref p] ∧ ((SqL _ _ p ys ∧ _) ∨ (SqT _ _ p ys ∧ _))); first | refine AU.tupleof_ (by walk_at "sl") ?_ | refine AU.tupleofT_ (by walk_at "tl") ?_) | ((with_reducible show V.non = V.non ∧ _); refine ⟨rfl, ?_⟩) | ((with_reducible show OT.rIsX _ _ _ _ [V.ref _, _] _ _); refine OT.isX_ (by walk_at "hh") (by first | exact .own _ | exact .ty _) (by assumption) ?_) | ((with_reducible show OT.tFA _ _ _ _ _ _ _ _ _); refine OT.fA_ ?_) | ((with_reducible show OT.tCallE _ _ _ _ _ _ _ _); refine OT.callE_ ?_) | ((with_reducible show rIsi _ [_, _] _ _); refine OT.isi_ (by first | exact .own _ | exact .ty _) (by walk_at "tyx") (by first | assumption | exact kit_ty OT.kq_int_int | exact kit_ty OT.kq_int_bool | exact kit_ty OT.kq_bool_bool | exact kit_ty OT.kq_bool_int | exact kit_ty OT.kq_str_str | exact kit_ty OT.kq_tuple_tuple | exact kit_ty OT.kq_list_list | exact kit_ty OT.kq_list_tuple | exact kit_ty OT.kq_tuple_list | exact kit_ty OT.kq_list_int | exact kit_ty OT.kq_tuple_int | exact kit_ty OT.kq_list_bool | exact kit_ty OT.kq_tuple_bool | exact kit_ty OT.kq_str_int | exact kit_ty OT.kq_int_str | exact kit_ty OT.kq_int_list | exact kit_ty OT.kq_int_tuple | exact kit_ty OT.kq_bool_list | exact kit_ty OT.kq_bool_tuple) ?_) | ((with_reducible show ∃ k, V.bl _ = V.bl k ∧ _); refine AU.bool_ ?_) | ((with_reducible refine AU.trueT ?_)) | ((with_reducible refine AU.refNon ?_)) | ((with_reducible refine AU.nonNon ?_)) | ((with_reducible refine AU.trueN ?_)) | ((with_reducible refine AU.falseN ?_)) | ((with_reducible refine AU.falseF ?_)))
local macro_rules | `(tactic| walk_at "st") => `(tactic| repeat walk_at "st1")
theorem boxN_ok {m : Nat} (h1 : 1 ≤ m) (h3 : m ≤ 3) : BoxOk 4 (boxN m) ∧ pr (boxN m) ≤ 900 ∧ pr (boxN m) ≤ 8 := by
  have small : ∀ bs : List Nat, (bs.length ≤ 3 ∧ ∀ n ∈ bs, n ≤ 4) → (∀ i, i ≤ bs.length → pr (bs.take i) ≤ 64000) → BoxOk 4 bs := fun bs h hp => ⟨h.1, h.2, fun i => by
    by_cases c : i ≤ bs.length
    · exact hp i c
    · have := hp bs.length (Nat.le_refl _)
      rw [List.take_length] at this
      rw [List.take_of_length_le (by omega)]
      exact this⟩
  obtain rfl | rfl | rfl : m = 1 ∨ m = 2 ∨ m = 3 := by omega
  · refine ⟨small [4] (by decide) (by decide), by decide, by decide⟩
  · refine ⟨small [4, 2] (by decide) (by decide), by decide, by decide⟩
  · refine ⟨small [2, 2, 2] (by decide) (by decide), by decide, by decide⟩
theorem boxed_at {m : Nat} {q : Pl} {v : Int} (h1 : 1 ≤ m) (h3 : m ≤ 3) (hq : q.length = m) : Boxed (boxN m) [(q, v)] := by
  have l := boxN_len h1 h3
  refine ⟨q, by omega, fun e he i x y b hx hy hb => ?_⟩
  rw [List.mem_singleton.mp he] at hx
  have hx' : q[i]? = some x := hx
  rw [hy] at hx'
  cases hx'
  have := boxN_pos b (List.mem_of_getElem? hb)
  omega
theorem LR.moved {H H' : Hp} {a p : Addr} {ws : List V} {R : List Ent} {m L C U c : Nat} {l : Pl} (h : LR H a R m L C U) (hl : l.length = m) (hc : ∀ x ∈ l, x.natAbs ≤ c) (hp : H' p = some (.lst ws)) (hE : Ents H' ws (movL R l)) : LR H' p (movL R l) m L (C + c) U := by
  refine ⟨⟨ws, hp, hE⟩, movL_valid h.v fun e he => by rw [h.d e he, hl]; exact Nat.le_refl _, fun e he => ?_, by show (R.map _).length ≤ L; rw [List.length_map]; exact h.z, fun e he x hx => ?_, fun e he => ?_⟩
  · obtain ⟨g, hg, rfl⟩ := List.mem_map.mp he
    show (plusP g.1 l).length = m
    rw [plusP_len (by rw [h.d g hg, hl]; exact Nat.le_refl _), h.d g hg]
  · obtain ⟨g, hg, rfl⟩ := List.mem_map.mp he
    obtain ⟨u, hu, v, hv, rfl⟩ := plusP_mem hx
    have := h.c g hg u hu
    have := hc v hv
    omega
  · obtain ⟨g, hg, rfl⟩ := List.mem_map.mp he
    exact h.u g hg
theorem LR.inE {K : PySem.W.Frag} {H : Hp} {a : Addr} {R : List Ent} {m L C U : Nat} (h : LR H a R m L C U) (hL : L ≤ 1000) : ∃ xs, InEnts K H a xs R := by
  obtain ⟨xs, h1, h2⟩ := h.ex
  exact ⟨xs, AU.sqL h1, h2, AU.line (by have := h.z; omega)⟩
theorem plus_back : ∀ {f p : Pl}, p.length = f.length → plusP f (plusP p (negP f)) = p
  | [], [], _ => rfl
  | [], _ :: _, h => by cases h
  | _ :: _, [], h => by cases h
  | x :: f, y :: p, h => by
    show (x + (y + -x)) :: plusP f (plusP p (negP f)) = y :: p
    rw [plus_back (Nat.succ.inj h)]
    congr 1
    omega
theorem LR.nil {H : Hp} {p : Addr} {m L C U : Nat} (h : H p = some (.lst [])) : LR H p [] m L C U := ⟨⟨[], h, .nil⟩, ⟨.nil, fun e h => (by cases h)⟩, fun e h => (by cases h), Nat.zero_le _, fun e h => (by cases h), fun e h => (by cases h)⟩
theorem fits_nil {m : Nat} (h1 : 1 ≤ m) (h3 : m ≤ 3) : Fits [] m := fits_dbl h1 h3 (fun e h => (by cases h)) ⟨zeros (dblB (boxN m)).length, List.length_replicate, fun e h => (by cases h)⟩
theorem times_nil : ∀ es : List Ent, timesL es [] = []
  | [] => rfl
  | e :: r => by
    show rowT e [] ++ timesL r [] = []
    rw [times_nil r]
    rfl
theorem mix_yes {G F : List Ent} {n m : Nat} (dG : DimN n G) (dF : DimN m F) (hG : G ≠ []) (hF : F ≠ []) (h : n ≠ m) (n1 : 1 ≤ n) (m1 : 1 ≤ m) : mixB G F = true := by
  unfold mixB
  rw [dimE_eq' dG hG, dimE_eq' dF hF]
  exact decide_eq_true ⟨by omega, by omega, h⟩
/-- one number of the product changed, the quotient with it -/
theorem extra_fac {f : Ent} {S S2 R R2 : List Ent} {q : Pl} {v : Int} (hl : q.length = f.1.length) (hd : f.2 ∣ v) (f0 : f.2 ≠ 0) (eR : ∀ k, numAt R k = numAt (timesL [f] S) k) (hR : ∀ k, numAt R2 k = numAt (R ++ [(q, v)]) k) (hS : ∀ k, numAt S2 k = numAt (S ++ [(plusP q (negP f.1), v.fdiv f.2)]) k) (k : Pl) : numAt R2 k = numAt (timesL [f] S2) k := by
  have hcq : f.2 * v.fdiv f.2 = v := by
    obtain ⟨y, rfl⟩ := hd
    rw [Int.mul_fdiv_cancel_left _ f0]
  rw [hR, timesL_eq2 [f] hS, timesL_app2, numAt_app, timesL_one, eR]
  show _ = _ + numAt [(plusP f.1 (plusP q (negP f.1)), f.2 * v.fdiv f.2)] k
  rw [plus_back hl, hcq]
theorem near_c {R : List Ent} {q : Pl} {mg C : Nat} (h : NearP R mg q) (hc : CB C R) : ∀ x ∈ q, x.natAbs ≤ C + mg := fun x hx => by
  obtain ⟨k, hk⟩ := List.getElem?_of_mem hx
  obtain ⟨h1, h2⟩ := h k x hk
  by_cases c : R = []
  · have := h1 c
    omega
  · obtain ⟨⟨e, he, y, ey, ly⟩, e2, he2, z, ez, lz⟩ := h2 c
    have := hc e he y (List.mem_of_getElem? ey)
    have := hc e2 he2 z (List.mem_of_getElem? ez)
    omega
section
variable {P : Program} {w : World} {K : PySem.W.Frag} {mg : Str → Option Value} {base : Heap}
def spLaw (K : PySem.W.Frag) : Sp := fun vs H Q _ => ∃ (a : Addr) (ns : List Int), vs = [.ref a] ∧ SqL K H a (ns.map V.int) ∧ ns.length ≤ 63 ∧ ∀ H', Q (.bl true) H'
theorem c_law {f : Addr} {fd : FuncData} (D : C8.Def K mg "law" s_law f fd) (b : Binds K fd ["_law_script"] []) (T : Bi mg) (c__law_cell : C8.Cal P w K mg base 1 "_law_cell" (spCell K) []) (c__law_draws : C8.Cal P w K mg base 1 "_law_draws" (spDraws K) []) (c__law_box : C8.Cal P w K mg base 1 "_law_box" (spBox K) []) (c__law_drawn : C8.Cal P w K mg base 3 "_law_drawn" (spDrawn K) []) (c__law_single : C8.Cal P w K mg base 2 "_law_single" spSingle [])
    (c__law_widened : C8.Cal P w K mg base 3 "_law_widened" (spWidened K) []) (c__law_moved : C8.Cal P w K mg base 2 "_law_moved" (spMoved K) []) (c__law_aside : C8.Cal P w K mg base 1 "_law_aside" spAside []) (c__law_times : C8.Cal P w K mg base 2 "_law_times" (spTimes K) []) (c__law_mirror : C8.Cal P w K mg base 2 "_law_mirror" spMir []) (c__law_flips : C8.Cal P w K mg base 8 "_law_flips" (spFlips K) []) (c__law_by_number : C8.Cal P w K mg base 9 "_law_by_number" (spByNum K) []) (c__law_refuses : C8.Cal P w K mg base 8 "_law_refuses" (spRefuses K) [])
    (c__law_foreign : C8.Cal P w K mg base 4 "_law_foreign" spForeign []) (c__law_near : C8.Cal P w K mg base 2 "_law_near" (spNear K) []) (c__law_add : C8.Cal P w K mg base 2 "_law_add" spAdd []) (c__law_quotient : C8.Cal P w K mg base 3 "_law_quotient" (spLQ K) []) : FnOk P w K mg base L2.CX0 10 f fd ["_law_script"] (spLaw K) := by
  refine C8.fn0 D.fn sc_law (fun vs H Q E h => ?_) (fun cdv A outer s H vs Q E hr h => ?_)
  · obtain ⟨a, ns, rfl, _⟩ := h
    rfl
  · obtain ⟨a, ns, rfl, hS, hl, q⟩ := h
    refine ⟨_, (pss_cons (ps_set (i := 1) sc_law.nd rfl (Or.inl rfl) (C8.pe_c c__law_draws hr (by decide) (by rfl) (pa_cons (C8.pe_c c__law_cell hr (by decide) (by rfl) (pa_cons (pv 0) (pa_cons pe_int pa_nil))) (pa_cons (pe_lst (pa_cons pe_int (pa_cons pe_int (pa_cons pe_int (pa_cons pe_int (pa_cons pe_int (pa_cons pe_int (pa_cons pe_int pa_nil)))))))) pa_nil))))
  (pss_cons (ps_set (i := 2) sc_law.nd rfl (Or.inl rfl) (C8.pe_c c__law_box hr (by decide) (by rfl) (pa_cons (pe_ix ix_list (pv 1) pe_int (fun _ _ => rfl)) (pa_cons pe_int pa_nil))))
  (pss_cons (ps_set (i := 3) sc_law.nd rfl (Or.inl rfl) (pe_callB call_len_seq (by rfl) T.n_len OT.b_len (pa_cons (pv 2) pa_nil)))
  (pss_cons (ps_set (i := 4) sc_law.nd rfl (Or.inl rfl) (pe_ix ix_list (pv 1) pe_int (fun _ _ => rfl)))
  (pss_cons (ps_set (i := 5) sc_law.nd rfl (Or.inl rfl) (C8.pe_c c__law_drawn hr (by decide) (by rfl) (pa_cons (C8.pe_c c__law_cell hr (by decide) (by rfl) (pa_cons (pv 0) (pa_cons pe_int pa_nil))) (pa_cons (pv 2) (pa_cons pe_int (pa_cons pe_int pa_nil))))))
  (C8.pss_cut (ps_if (pt_cmpR op_eq (pv 4) pe_int (nomark _)) (pss_one (ps_set (i := 5) sc_law.nd rfl (Or.inl rfl) (C8.pe_c c__law_single hr (by decide) (by rfl) (pa_cons (C8.pe_c c__law_cell hr (by decide) (by rfl) (pa_cons (pv 0) (pa_cons pe_int pa_nil))) (pa_cons (pv 3) pa_nil))))) pss_nil)
  (pss_cons (ps_set (i := 6) sc_law.nd rfl (Or.inl rfl) (C8.pe_c c__law_widened hr (by decide) (by rfl) (pa_cons (C8.pe_c c__law_drawn hr (by decide) (by rfl) (pa_cons (C8.pe_c c__law_cell hr (by decide) (by rfl) (pa_cons (pv 0) (pa_cons pe_int pa_nil))) (pa_cons (pv 2) (pa_cons pe_int (pa_cons pe_int pa_nil))))) (pa_cons (pe_ix ix_list (pv 1) pe_int (fun _ _ => rfl)) (pa_cons (pv 3) pa_nil)))))
  (C8.pss_cut (ps_if (pt_cmpR op_eq (pv 4) pe_int (nomark _)) (pss_one (ps_set (i := 6) sc_law.nd rfl (Or.inl rfl) (pe_lst pa_nil))) pss_nil)
  (C8.pss_cut (ps_if (pt_cmpR op_eq (pe_ix ix_list (pv 1) pe_int (fun _ _ => rfl)) pe_int (nomark _)) (pss_cons (ps_set (i := 5) sc_law.nd rfl (Or.inl rfl) (C8.pe_c c__law_moved hr (by decide) (by rfl) (pa_cons (pv 5) (pa_cons (C8.pe_c c__law_aside hr (by decide) (by rfl) (pa_cons pe_int (pa_cons (pv 3) pa_nil))) pa_nil))))
  (pss_one (ps_set (i := 6) sc_law.nd rfl (Or.inl rfl) (C8.pe_c c__law_moved hr (by decide) (by rfl) (pa_cons (pv 6) (pa_cons (C8.pe_c c__law_aside hr (by decide) (by rfl) (pa_cons (pe_un un_neg pe_int) (pa_cons (pv 3) pa_nil))) pa_nil)))))) pss_nil)
  (pss_cons (ps_set (i := 7) sc_law.nd rfl (Or.inl rfl) (C8.pe_c c__law_times hr (by decide) (by rfl) (pa_cons (pv 5) (pa_cons (pv 6) pa_nil))))
  (pss_cons (ps_set (i := 8) sc_law.nd rfl (Or.inl rfl) (C8.pe_c c__law_mirror hr (by decide) (by rfl) (pa_cons (pv 5) pa_nil)))
  (C8.pss_cut (ps_if (PW.pt (pw_and (pt_cmpR op_gt (pe_callB call_len_seq (by rfl) T.n_len OT.b_len (pa_cons (pv 5) pa_nil)) pe_int (nomark _)) (pw_and1 (pt_not (pt_val (C8.pe_c c__law_flips hr (by decide) (by rfl) (pa_cons (pv 7) (pa_cons (pv 5) (pa_cons (C8.pe_c c__law_times hr (by decide) (by rfl) (pa_cons (pv 8) (pa_cons (pv 6) pa_nil))) pa_nil))))))))) (pss_one (ps_ret pe_bl)) pss_nil)
  (C8.pss_cut (ps_if (PW.pt (pw_and (pt_cmpR op_gt (pe_callB call_len_seq (by rfl) T.n_len OT.b_len (pa_cons (pv 5) pa_nil)) pe_int (nomark _)) (pw_and (pt_cmpR op_eq (pe_ix ix_list (pv 1) pe_int (fun _ _ => rfl)) pe_int (nomark _)) (pw_and1 (pt_not (pt_val (C8.pe_c c__law_by_number hr (by decide) (by rfl) (pa_cons (pv 7) (pa_cons (pv 5) (pa_cons (pv 6) (pa_cons (pe_op op_add (pe_ix ix_list (pv 1) pe_int (fun _ _ => rfl)) pe_int) pa_nil))))))))))) (pss_one (ps_ret pe_bl)) pss_nil)
  (pss_cons (ps_if (PW.pt (pw_or (pt_cmpR op_eq (pe_callB call_len_seq (by rfl) T.n_len OT.b_len (pa_cons (pv 5) pa_nil)) pe_int (nomark _)) (pw_or1 (pt_cmpR op_eq (pv 4) pe_int (nomark _))))) (pss_one (ps_ret (pe_and (C8.pe_c c__law_refuses hr (by decide) (by rfl) (pa_cons (pv 6) (pa_cons (pe_lst pa_nil) (pa_cons pe_str pa_nil)))) (pe_one (C8.pe_c c__law_refuses hr (by decide) (by rfl) (pa_cons (pe_lst pa_nil) (pa_cons (pe_lst pa_nil) (pa_cons pe_str pa_nil)))))))) pss_nil)
  (pss_cons (ps_if (pt_cmpR op_eq (pv 4) pe_int (nomark _)) (pss_cons (ps_set (i := 13) sc_law.nd rfl (Or.inl rfl) (C8.pe_c c__law_foreign hr (by decide) (by rfl) (pa_cons (C8.pe_c c__law_cell hr (by decide) (by rfl) (pa_cons (pv 0) (pa_cons pe_int pa_nil))) (pa_cons (pe_op op_add pe_int (pe_op op_mod (pe_callTy call_int1 (by rfl) T.n_int OT.b_int (pa_cons (pe_op op_add (pv 3) (pe_ix ix_list (pv 1) pe_int (fun _ _ => rfl))) pa_nil)) pe_int)) pa_nil))))
  (pss_cons (ps_if (pt_not (pt_val (C8.pe_c c__law_refuses hr (by decide) (by rfl) (pa_cons (pv 13) (pa_cons (pv 5) (pa_cons pe_str pa_nil)))))) (pss_one (ps_ret pe_bl)) pss_nil)
  (pss_cons (ps_if (pt_cmpR op_gt (pe_callB call_len_seq (by rfl) T.n_len OT.b_len (pa_cons (pv 7) pa_nil)) pe_int (nomark _)) (pss_one (ps_ret (C8.pe_c c__law_refuses hr (by decide) (by rfl) (pa_cons (pv 7) (pa_cons (pv 13) (pa_cons pe_str pa_nil)))))) pss_nil)
  (pss_one (ps_ret (C8.pe_c c__law_flips hr (by decide) (by rfl) (pa_cons (pe_lst pa_nil) (pa_cons (pv 13) (pa_cons (pe_lst pa_nil) pa_nil))))))))) pss_nil)
  (pss_cons (ps_if (PW.pt (pw_or (pt_cmpR op_eq (pv 4) pe_int (nomark _)) (pw_or1 (pt_cmpR op_eq (pv 4) pe_int (nomark _))))) (pss_one (ps_ret pe_bl)) pss_nil)
  (pss_cons (ps_set (i := 9) sc_law.nd rfl (Or.inl rfl) (pe_op op_sub (pe_ix ix_list (pv 1) pe_int (fun _ _ => rfl)) pe_int))
  (pss_cons (ps_set (i := 10) sc_law.nd rfl (Or.inl rfl) (C8.pe_c c__law_near hr (by decide) (by rfl) (pa_cons (C8.pe_c c__law_cell hr (by decide) (by rfl) (pa_cons (pv 0) (pa_cons pe_int pa_nil))) (pa_cons (pv 7) (pa_cons (pv 3) pa_nil)))))
  (pss_cons (ps_set (i := 11) sc_law.nd rfl (Or.inl rfl) (C8.pe_c c__law_add hr (by decide) (by rfl) (pa_cons (pv 7) (pa_cons (pe_lst (pa_cons (pe_tup (pa_cons (pv 10) (pa_cons (pv 9) pa_nil))) pa_nil)) pa_nil))))
  (pss_cons (ps_set (i := 12) sc_law.nd rfl (Or.inl rfl) (C8.pe_c c__law_quotient hr (by decide) (by rfl) (pa_cons (pv 5) (pa_cons (pv 6) (pa_cons (pv 9) (pa_cons (pv 10) pa_nil))))))
  (pss_cons (ps_if (pt_cmpR op_isN (pv 12) pe_non (nomark _)) (pss_one (ps_ret (C8.pe_c c__law_refuses hr (by decide) (by rfl) (pa_cons (pv 11) (pa_cons (pv 5) (pa_cons pe_str pa_nil)))))) pss_nil)
  (pss_one (ps_ret (C8.pe_c c__law_flips hr (by decide) (by rfl) (pa_cons (pv 11) (pa_cons (pv 5) (pa_cons (C8.pe_c c__law_times hr (by decide) (by rfl) (pa_cons (pv 8) (pa_cons (pv 12) pa_nil))) pa_nil))))))))))))))))))))))))))), ?_⟩
    walk_at "st"
    refine ⟨a, ns, 0, rfl, hS, by decide, fun c0 => ?_⟩
    walk_at "st"
    refine ⟨by walk_at "sz", fun l1 nl1 => ?_⟩; generalize eH1 : upd _ l1 _ = H1; have s1 := AU.newS nl1 eH1; have hl1 := AU.newH eH1; clear eH1
    walk_at "st"
    refine ⟨l1, [3, 8, 7, 2, 4, 3, 8], c0, rfl, AU.sqL hl1, by decide, fun z hz => by simp at hz; omega, fun ds H2 da hin s2 nda hda => ?_⟩
    obtain ⟨d0, g0, b00, b01⟩ := hin.get (i := 0) (z := 3) rfl
    obtain ⟨d1, g1, b10, b11⟩ := hin.get (i := 1) (z := 8) rfl
    obtain ⟨d2, g2, b20, b21⟩ := hin.get (i := 2) (z := 7) rfl
    obtain ⟨d3, g3, b30, b31⟩ := hin.get (i := 3) (z := 2) rfl
    obtain ⟨d4, g4, b40, b41⟩ := hin.get (i := 4) (z := 4) rfl
    obtain ⟨d5, g5, b50, b51⟩ := hin.get (i := 5) (z := 3) rfl
    obtain ⟨d6, g6, b60, b61⟩ := hin.get (i := 6) (z := 8) rfl
    have at0 : atI (ds.map V.int) 0 = some (.int d0) := AU.atN (j := 0) rfl g0
    have at1 : atI (ds.map V.int) 1 = some (.int d1) := AU.atN (j := 1) rfl g1
    have at2 : atI (ds.map V.int) 2 = some (.int d2) := AU.atN (j := 2) rfl g2
    have at3 : atI (ds.map V.int) 3 = some (.int d3) := AU.atN (j := 3) rfl g3
    have at4 : atI (ds.map V.int) 4 = some (.int d4) := AU.atN (j := 4) rfl g4
    have at5 : atI (ds.map V.int) 5 = some (.int d5) := AU.atN (j := 5) rfl g5
    have at6 : atI (ds.map V.int) 6 = some (.int d6) := AU.atN (j := 6) rfl g6
    obtain ⟨k, rfl⟩ := Int.eq_ofNat_of_zero_le b00
    clear g0 g1 g2 g3 g4 g5 g6 hin hl1 nl1 nda
    walk_at "st"
    refine ⟨k, 4, rfl, by omega, fun pb bs H3 hbs hbl s3 hpb => ?_⟩
    obtain ⟨m, rfl⟩ : ∃ m, m = k + 1 := ⟨_, rfl⟩
    have hm1 : 1 ≤ k + 1 := by omega
    have hm3 : k + 1 ≤ 3 := by omega
    have hbe := boxN_of hbs hbl
    subst hbe
    have hbk := boxN_ok hm1 hm3
    have hN := boxN_len hm1 hm3
    have hlen : ((boxN (k + 1)).map fun (n : Nat) => V.int (n : Int)).length = k + 1 := by rw [List.length_map]; exact hN
    walk_at "st"
    simp only [hlen]
    generalize hm : k + 1 = m at hm1 hm3 hbk hN hpb hbl hbs hlen ⊢
    refine ⟨a, ns, 1, rfl, by walk_at "sl", by decide, fun c1 => ?_⟩
    walk_at "st"
    refine ⟨c1, pb, boxN m, 2, 3, 4, rfl, AU.sqL hpb, hbk.1, by decide, by omega, hbk.2.1, by decide, by decide, fun pf ws F H4 s4 npf hpf hEF dF bF => ?_⟩
    have LF0 : LR H4 pf F m 8 1000 1000 := ⟨⟨ws, hpf, hEF⟩, dF.v, (by have := dF.n; rw [hN] at this; exact this), Nat.le_trans dF.m hbk.2.2, fun e he x hx => by have := dF.c e he x hx; omega, fun e he => by have := dF.u e he; have := hbk.2.2; omega⟩
    clear hpf hEF dF npf hbs hbl
    walk_at "st"
    let St1 : L2.St → Hp → Prop := fun σ H' => ∃ pf F, σ = [some (.ref a), some (.ref da), some (.ref pb), some (.int (m : Int)), some (.int d1), some (.ref pf), none, none, none, none, none, none, none, none] ∧ Same H4 H' ∧ LR H' pf F m 8 1000 1000 ∧ Boxed (boxN m) F
    refine ⟨St1, ?_, ?_⟩
    · walk_at "st"
      refine iteD (fun _ => ?_) (fun _ => ?_)
      · walk_at "st"
        refine ⟨a, ns, 1, rfl, by walk_at "sl", by decide, fun c1 => ?_⟩
        walk_at "st"
        refine ⟨c1, m, rfl, hm3, fun p ws q0 v H5 s5 np hp hE hq hqb hv0 hv3 => ?_⟩
        walk_at "st"
        exact ⟨p, [(q0, v)], rfl, s5, ⟨⟨ws, hp, hE⟩, ⟨List.pairwise_singleton _ _, fun e he => by rw [List.mem_singleton.mp he]; exact hv0⟩, fun e he => by rw [List.mem_singleton.mp he]; exact hq, (by show 1 ≤ 8; decide), fun e he x hx => by rw [List.mem_singleton.mp he] at hx; have := hqb x hx; omega, fun e he => by rw [List.mem_singleton.mp he]; show v.natAbs ≤ 1000; omega⟩, boxed_at hm1 hm3 hq⟩
      · walk_at "st"
        exact ⟨pf, F, rfl, Same.refl _, LF0, bF⟩
    clear LF0 bF
    rintro σ H5 ⟨pf, F, rfl, s5, LF, bF⟩
    walk_at "st"
    refine ⟨a, ns, 2, rfl, by walk_at "sl", by decide, fun c2 => ?_⟩
    walk_at "st"
    refine ⟨c2, pb, boxN m, 3, 3, 4, rfl, by walk_at "sl", hbk.1, by decide, by omega, hbk.2.1, by decide, by decide, fun pr0 ws S0 H6 s6 npr hpr hER dR bR => ?_⟩
    have LR0 : LR H6 pr0 S0 m 8 100 100 := ⟨⟨ws, hpr, hER⟩, dR.v, (by have := dR.n; rw [hN] at this; exact this), Nat.le_trans dR.m hbk.2.2, fun e he x hx => by have := dR.c e he x hx; omega, fun e he => by have := dR.u e he; have := hbk.2.2; omega⟩
    clear hpr hER dR npr
    walk_at "st"
    refine ⟨pr0, d4, m, 100, 100, S0, rfl, LR0, hm1, hm3, fun _ _ _ => trivial, fun pr S H7 s7 LS0 bS0 => ?_⟩
    have bS := bS0 _ hN bR
    have LF7 := LF.mono (s6.trans s7)
    walk_at "st"
    let St2 : L2.St → Hp → Prop := fun σ H' => ∃ pr S, σ = [some (.ref a), some (.ref da), some (.ref pb), some (.int (m : Int)), some (.int d1), some (.ref pf), some (.ref pr), none, none, none, none, none, none, none] ∧ Same H7 H' ∧ LR H' pr S m 8 1500 1000000000000 ∧ Boxed (boxN m) S ∧ (d1 = 4 → S = [])
    refine ⟨St2, ?_, ?_⟩
    · walk_at "st"
      refine iteD (fun h4 => ?_) (fun h4 => ?_)
      · walk_at "st"
        refine ⟨by walk_at "sz", fun p8 n8 => ?_⟩; generalize eH8 : upd _ p8 _ = H8; have s8 := AU.newS n8 eH8; have hp8 := AU.newH eH8; clear eH8
        walk_at "st"
        exact ⟨p8, [], rfl, s8, ⟨⟨[], hp8, .nil⟩, ⟨.nil, fun e h => by cases h⟩, fun e h => (by cases h), Nat.zero_le _, fun e h => (by cases h), fun e h => (by cases h)⟩, ⟨zeros (boxN m).length, List.length_replicate, fun e h => (by cases h)⟩, fun _ => rfl⟩
      · walk_at "st"
        exact ⟨pr, S, rfl, Same.refl _, LS0.le (Nat.le_refl _) (by decide) (by decide), bS, fun z => absurd z h4⟩
    clear LS0 bS0 LR0 bR bS LF
    rintro σ H8 ⟨pr, S, rfl, s8, LS, bS, hS4⟩
    have LF := LF7.mono s8
    clear LF7
    walk_at "st"
    let St3 : L2.St → Hp → Prop := fun σ H' => ∃ pf pr F S, σ = [some (.ref a), some (.ref da), some (.ref pb), some (.int (m : Int)), some (.int d1), some (.ref pf), some (.ref pr), none, none, none, none, none, none, none] ∧ Same H8 H' ∧ LR H' pf F m 8 2000 1000 ∧ LR H' pr S m 8 2000 1000000000000 ∧ Boxed (boxN m) F ∧ Boxed (boxN m) S ∧ (d1 = 4 → S = [])
    refine ⟨St3, ?_, ?_⟩
    · walk_at "st"
      refine iteD (fun _ => ?_) (fun _ => ?_)
      · walk_at "st"
        refine ⟨400, m, rfl, hm3, by decide, fun pa l H9 s9 hl hlb hpa => ?_⟩
        obtain ⟨xs, hIF⟩ := (LF.mono s9).inE (K := K) (by decide)
        walk_at "st"
        refine ⟨pf, pa, xs, F, l, rfl, hIF, AU.sqT hpa, fun e he => by rw [LF.d e he, hl]; exact Nat.le_refl _, by omega, fun p1 w1 H10 s10 np1 hp1 hE1 => ?_⟩
        have LF' := LF.moved (c := 400) hl hlb hp1 hE1
        walk_at "st"
        refine ⟨-400, m, rfl, hm3, by decide, fun pa2 l2 H11 s11 hl2 hlb2 hpa2 => ?_⟩
        obtain ⟨ys, hIS⟩ := (LS.mono (s9.trans (s10.trans s11))).inE (K := K) (by decide)
        walk_at "st"
        refine ⟨pr, pa2, ys, S, l2, rfl, hIS, AU.sqT hpa2, fun e he => by rw [LS.d e he, hl2]; exact Nat.le_refl _, by omega, fun p2 w2 H12 s12 np2 hp2 hE2 => ?_⟩
        have LS' := LS.moved (c := 400) hl2 hlb2 hp2 hE2
        walk_at "st"
        exact ⟨p1, p2, _, _, rfl, s9.trans (s10.trans (s11.trans s12)), (LF'.mono (s11.trans s12)).le (Nat.le_refl _) (by decide) (Nat.le_refl _), LS'.le (Nat.le_refl _) (by decide) (Nat.le_refl _), boxed_mov (by omega) bF, boxed_mov (by omega) bS, fun z => by rw [hS4 z]; rfl⟩
      · walk_at "st"
        exact ⟨pf, pr, F, S, rfl, Same.refl _, LF.le (Nat.le_refl _) (by decide) (Nat.le_refl _), LS.le (Nat.le_refl _) (by decide) (Nat.le_refl _), bF, bS, hS4⟩
    clear LS LF bF bS
    rintro σ H9 ⟨pf, pr, F, S, rfl, s9, LF, LS, bF, bS, hS4⟩
    walk_at "st"
    obtain ⟨xf, hLF⟩ := LF.lst hm1 (by decide)
    obtain ⟨xr, hLS⟩ := LS.lst hm1 (by decide)
    have zz : F.length * S.length ≤ 64 := Nat.mul_le_mul LF.z LS.z
    have dim1 : ∀ {G : List Ent}, DimN m G → ∀ e ∈ G, e.1 ≠ [] ∧ e.1.length ≤ 1000 := fun {G} d e he => ⟨dim_ne d hm1 e he, by rw [d e he]; omega⟩
    refine ⟨pf, pr, xf, xr, F, S, rfl, AU.sqL hLF.l, AU.sqL hLS.l, hLF.e, hLS.e, by omega, fun e he g hg => by rw [LF.d e he, LS.d g hg], dim1 LF.d, LS.u.num (by decide), fun R pp xp H10 hR s10 npp hpp hEp => ?_⟩
    have LP : LR H10 pp R m 64 4000 (64 * (1000 * 1000000000000)) := LR.row hR hpp hEp (LF.d.times LS.d) (by rw [timesL_len]; exact zz) (LF.c.times LS.c) (LF.u.times LS.u)
    have bP : Boxed (dblB (boxN m)) R := boxed_row hR (boxed_times bF bS)
    have fP : Fits R m := fits_dbl hm1 hm3 LP.d bP
    have LF10 := LF.mono s10
    have LS10 := LS.mono s10
    walk_at "st"
    refine ⟨pf, xf, F, rfl, ⟨s10 _ _ hLF.l, hLF.e.mono s10, by have := LF.z; omega, dim_ne LF.d hm1⟩, fun e he => by rw [LF.d e he]; omega, fun M pm xm H11 hM s11 npm hpm hEm => ?_⟩
    have hMe : M = mirP F := hM.one (mirP_is LF.v LF.d)
    have dM : DimN m M := by rw [hMe]; exact mirP_dim LF.d
    have zM : M.length ≤ 8 := by rw [hMe, mirP_len]; exact LF.z
    have hxl := hLF.e.len
    have hpf9 := hLF.l
    have hpr9 := hLS.l
    let σ0 : L2.St := [some (.ref a), some (.ref da), some (.ref pb), some (.int (m : Int)), some (.int d1), some (.ref pf), some (.ref pr), some (.ref pp), some (.ref pm), none, none, none, none, none]
    walk_at "st"
    refine ⟨fun σ H' => σ = σ0 ∧ Same H11 H', ?_, ?_⟩
    · walk_at "st"
      refine iteD (fun hpos => ?_) (fun _ => ?_)
      · walk_at "st"
        refine ⟨pm, pr, xm, xr, M, S, rfl, AU.sqL hpm, by walk_at "sl", hEm, hLS.e.mono (s10.trans s11), Nat.le_trans (Nat.mul_le_mul zM LS.z) (by decide), fun e he g hg => by rw [dM e he, LS.d g hg], dim1 dM, LS.u.num (by decide), fun X px xx H12 hX s12 npx hpx hEx => ?_⟩
        have hX' : RowIs X (timesL (mirL F) S) := ⟨hX.v, fun k => by rw [hX.s, timesL_eq1 _ hM.s]⟩
        have LX : LR H12 px X m 100 10000 (10 ^ 19) := exp_row hX' hpx hEx LF.d LS.d LF.c LF.u LS.c LS.u (by omega) (by decide) (by decide)
        have fX : Fits X m := fits_dbl hm1 hm3 LX.d (boxed_row hX' (bF2 hm1 hm3 LF.d bF LS.d bS))
        have hne : F ≠ [] := fun z => by rw [z] at hxl; rw [hxl] at hpos; exact absurd hpos (by decide)
        obtain ⟨xs, ys2, es2, U, U2, hFl⟩ := mkFlips (K := K) ((LP.mono (s11.trans s12)).big (by decide) (by decide) (by decide)) ((LF10.mono (s11.trans s12)).big (by decide) (by decide) (by decide)) LX hm1 hm3 hne ⟨LS.v, LS.d, by have := LS.z; omega, LS.c.le (by decide), LS.u.le (by decide)⟩ (by omega) hR.s hX' fP fX
        walk_at "st"
        refine ⟨pp, pf, px, xs, ys2, es2, R, F, S, X, m, 10000, U, U2, rfl, hFl, fun H13 s13 => ?_⟩
        walk_at "st"
        exact ⟨rfl, s12.trans s13⟩
      · walk_at "st"
        exact ⟨rfl, Same.refl _⟩
    rintro σ H12 ⟨rfl, s12⟩
    walk_at "st"
    refine ⟨fun σ H' => σ = σ0 ∧ Same H12 H', ?_, ?_⟩
    · walk_at "st"
      refine iteD (fun hpos => ?_) (fun _ => ?_)
      · walk_at "st"
        refine iteD (fun _ => ?_) (fun _ => ?_)
        · walk_at "st"
          have hne : F ≠ [] := fun z => by rw [z] at hxl; rw [hxl] at hpos; exact absurd hpos (by decide)
          refine ⟨pp, pf, pr, R, F, S, m, d6 + 2, rfl, (LP.mono (s11.trans s12)).big (by decide) (by decide) (by decide), LF10.mono (s11.trans s12), LS10.mono (s11.trans s12), hm1, hm3, by omega, by omega, hne, hR.s, bF, bS, fP, fun H13 s13 => ?_⟩
          walk_at "st"
          exact ⟨rfl, s13⟩
        · walk_at "st"
          exact ⟨rfl, Same.refl _⟩
      · walk_at "st"
        exact ⟨rfl, Same.refl _⟩
    rintro σ H13 ⟨rfl, s13⟩
    have sB := s11.trans (s12.trans s13)
    have LF13 := LF10.mono sB
    have LS13 := LS10.mono sB
    have LP13 := LP.mono sB
    have hpm13 := (s12.trans s13) _ _ hpm
    have hEm13 := hEm.mono (s12.trans s13)
    have hpf13 := sB _ _ (s10 _ _ hpf9)
    walk_at "st"
    refine iteD (fun h0 => ?_) (fun h0 => ?_)
    · walk_at "st"
      refine ⟨by walk_at "sz", fun z1 nz1 => ?_⟩; generalize eH14 : upd _ z1 _ = H14; have s14 := AU.newS nz1 eH14; have hz1 := AU.newH eH14; clear eH14
      walk_at "st"
      obtain ⟨xs1, ys1, U1, hQ1⟩ := mkQuo (K := K) ((LS13.mono s14).big (by decide) (by decide) (by decide)) (LR.nil (m := m) (C := 10000) (L := 100) (U := 10 ^ 19) hz1) hm1 hm3 hm1 hm3 (fits_dbl hm1 hm3 LS.d (boxed_dbl bS))
      refine ⟨pr, z1, _, xs1, ys1, S, [], m, m, 10000, U1, rfl, hQ1, .inr (.inl ⟨mixB_same (n := m) (m := m) (fun _ _ => rfl) LS.d (fun e h => (by cases h)), rfl, rfl⟩), fun H15 s15 => ?_⟩
      walk_at "st"
      refine ⟨by walk_at "sz", fun z2 nz2 => ?_⟩; generalize eH16 : upd _ z2 _ = H16; have s16 := AU.newS nz2 eH16; have hz2 := AU.newH eH16; clear eH16
      walk_at "st"
      refine ⟨by walk_at "sz", fun z3 nz3 => ?_⟩; generalize eH17 : upd _ z3 _ = H17; have s17 := AU.newS nz3 eH17; have hz3 := AU.newH eH17; clear eH17
      walk_at "st"
      obtain ⟨xs2, ys2, U2, hQ2⟩ := mkQuo (K := K) (LR.nil (m := m) (C := 10000) (L := 100) (U := 10 ^ 19) (s17 _ _ hz2)) (LR.nil (m := m) (C := 10000) (L := 100) (U := 10 ^ 19) hz3) hm1 hm3 hm1 hm3 (fits_nil hm1 hm3)
      refine ⟨z2, z3, _, xs2, ys2, [], [], m, m, 10000, U2, rfl, hQ2, .inr (.inl ⟨mixB_same (n := m) (m := m) (fun _ _ => rfl) (fun e h => (by cases h)) (fun e h => (by cases h)), rfl, rfl⟩), fun H18 s18 => ?_⟩
      walk_at "st"
      exact q H18
    have hne : F ≠ [] := fun z => h0 (by rw [hxl, z]; rfl)
    walk_at "st"
    refine iteD (fun _ => ?_) (fun _ => ?_)
    · walk_at "st"
      refine ⟨by walk_at "sz", fun z1 nz1 => ?_⟩; generalize eH14 : upd _ z1 _ = H14; have s14 := AU.newS nz1 eH14; have hz1 := AU.newH eH14; clear eH14
      walk_at "st"
      obtain ⟨xs1, ys1, U1, hQ1⟩ := mkQuo (K := K) ((LS13.mono s14).big (by decide) (by decide) (by decide)) (LR.nil (m := m) (C := 10000) (L := 100) (U := 10 ^ 19) hz1) hm1 hm3 hm1 hm3 (fits_dbl hm1 hm3 LS.d (boxed_dbl bS))
      refine ⟨pr, z1, _, xs1, ys1, S, [], m, m, 10000, U1, rfl, hQ1, .inr (.inl ⟨mixB_same (n := m) (m := m) (fun _ _ => rfl) LS.d (fun e h => (by cases h)), rfl, rfl⟩), fun H15 s15 => ?_⟩
      walk_at "st"
      refine ⟨by walk_at "sz", fun z2 nz2 => ?_⟩; generalize eH16 : upd _ z2 _ = H16; have s16 := AU.newS nz2 eH16; have hz2 := AU.newH eH16; clear eH16
      walk_at "st"
      refine ⟨by walk_at "sz", fun z3 nz3 => ?_⟩; generalize eH17 : upd _ z3 _ = H17; have s17 := AU.newS nz3 eH17; have hz3 := AU.newH eH17; clear eH17
      walk_at "st"
      obtain ⟨xs2, ys2, U2, hQ2⟩ := mkQuo (K := K) (LR.nil (m := m) (C := 10000) (L := 100) (U := 10 ^ 19) (s17 _ _ hz2)) (LR.nil (m := m) (C := 10000) (L := 100) (U := 10 ^ 19) hz3) hm1 hm3 hm1 hm3 (fits_nil hm1 hm3)
      refine ⟨z2, z3, _, xs2, ys2, [], [], m, m, 10000, U2, rfl, hQ2, .inr (.inl ⟨mixB_same (n := m) (m := m) (fun _ _ => rfl) (fun e h => (by cases h)) (fun e h => (by cases h)), rfl, rfl⟩), fun H18 s18 => ?_⟩
      walk_at "st"
      exact q H18
    walk_at "st"
    refine iteD (fun _ => ?_) (fun _ => ?_)
    · walk_at "st"
      refine ⟨a, ns, 3, rfl, by walk_at "sl", by decide, fun c3 => ?_⟩
      walk_at "st"
      obtain ⟨n, hn, hnm, n1, n3⟩ : ∃ n : Nat, (1 : Int) + ((m : Int) + d3) % 3 = (n : Int) ∧ n ≠ m ∧ 1 ≤ n ∧ n ≤ 3 := ⟨((1 : Int) + ((m : Int) + d3) % 3).toNat, by omega, by omega, by omega, by omega⟩
      simp only [hn]
      refine ⟨c3, n, rfl, n1, n3, fun po G H14 s14 LG hG fG => ?_⟩
      walk_at "st"
      have LG' := LG.big (by decide) (by decide) (by decide)
      obtain ⟨xs1, ys1, U1, hQ1⟩ := mkQuo (K := K) LG' ((LF13.mono s14).big (by decide) (by decide) (by decide)) n1 n3 hm1 hm3 fG
      refine ⟨po, pf, _, xs1, ys1, G, F, n, m, 10000, U1, rfl, hQ1, .inl ⟨mix_yes LG.d LF.d hG hne hnm n1 hm1, rfl⟩, fun H15 s15 => ?_⟩
      obtain ⟨xp2, hpp15, hEp15⟩ := (LP13.mono (s14.trans s15)).ex
      have hpl := hEp15.len
      walk_at "st"
      refine iteD (fun hp => ?_) (fun hp => ?_)
      · walk_at "st"
        have hRn : R ≠ [] := fun z => by rw [z] at hpl; rw [hpl] at hp; exact absurd hp (by decide)
        obtain ⟨xs2, ys2, U2, hQ2⟩ := mkQuo (K := K) ((LP13.mono (s14.trans s15)).big (by decide) (by decide) (by decide)) (LG'.mono s15) hm1 hm3 n1 n3 fP
        refine ⟨pp, po, _, xs2, ys2, R, G, m, n, 10000, U2, rfl, hQ2, .inl ⟨mix_yes LP.d LG.d hRn hG (fun z => hnm z.symm) hm1 n1, rfl⟩, fun H16 s16 => ?_⟩
        walk_at "st"
        exact q H16
      · walk_at "st"
        refine ⟨by walk_at "sz", fun z2 nz2 => ?_⟩; generalize eH16 : upd _ z2 _ = H16; have s16 := AU.newS nz2 eH16; have hz2 := AU.newH eH16; clear eH16
        walk_at "st"
        refine ⟨by walk_at "sz", fun z3 nz3 => ?_⟩; generalize eH17 : upd _ z3 _ = H17; have s17 := AU.newS nz3 eH17; have hz3 := AU.newH eH17; clear eH17
        walk_at "st"
        obtain ⟨xs2, ys2, es2, U, U2, hFl⟩ := mkFlips (K := K) (LR.nil (m := n) (C := 10000) (L := 100) (U := 10 ^ 19) (s17 _ _ hz2)) (LG'.mono (s15.trans (s16.trans s17))) (LR.nil (m := n) (C := 10000) (L := 100) (U := 10 ^ 19) hz3) n1 n3 hG (S := []) ⟨⟨.nil, fun e h => (by cases h)⟩, fun e h => (by cases h), Nat.zero_le _, fun e h => (by cases h), fun e h => (by cases h)⟩ (by show G.length * 0 < 2000; omega) (fun k => by rw [times_nil]) ⟨⟨.nil, fun e h => (by cases h)⟩, fun k => by rw [times_nil]⟩ (fits_nil n1 n3) (fits_nil n1 n3)
        refine ⟨z2, po, z3, xs2, ys2, es2, [], G, [], [], n, 10000, U, U2, rfl, hFl, fun H18 s18 => ?_⟩
        walk_at "st"
        exact q H18
    walk_at "st"
    refine iteD (fun _ => ?_) (fun _ => ?_)
    · walk_at "st"
      exact q H13
    walk_at "st"
    refine iteD (fun _ => ?_) (fun hd4 => ?_)
    · walk_at "st"
      exact q H13
    walk_at "st"
    refine ⟨a, ns, 3, rfl, by walk_at "sl", by decide, fun c3 => ?_⟩
    walk_at "st"
    obtain ⟨xp2, hpp13, hEp13⟩ := LP13.ex
    refine ⟨pp, xp2, R, m, c3, rfl, hpp13, hEp13, LP.d, hm3, by have := LP.z; omega, fun pq q0 H14 s14 hpq hql hnear => ?_⟩
    have cq := near_c hnear LP.c
    walk_at "st"
    refine ⟨by walk_at "sz", fun t5 nt5 => ?_⟩; generalize eH15 : upd _ t5 _ = H15; have s15 := AU.newS nt5 eH15; have ht5 := AU.newH eH15; clear eH15
    walk_at "st"
    refine ⟨by walk_at "sz", fun l6 nl6 => ?_⟩; generalize eH16 : upd _ l6 _ = H16; have s16 := AU.newS nl6 eH16; have hl6 := AU.newH eH16; clear eH16
    walk_at "st"
    have q0n : q0 ≠ [] := fun z => by rw [z] at hql; have : 0 = m := hql; omega
    refine ⟨pp, l6, xp2, [.ref t5], R, [(q0, d2 - 3)], rfl, ⟨by walk_at "hl", hEp13.mono (s14.trans (s15.trans s16)), by have := LP.z; omega, dim_ne LP.d hm1⟩, ⟨hl6, .cons ⟨t5, pq, rfl, s16 _ _ ht5, s16 _ _ (s15 _ _ hpq)⟩ .nil, (by show 1 ≤ 1000; decide), fun e he => by rw [List.mem_singleton.mp he]; exact q0n⟩, fun R2 p2 x2 H17 hR2 s17 np2 hp2 hE2 => ?_⟩
    have dq : DimN m (R ++ [(q0, d2 - 3)]) := LP.d.app fun e he => by rw [List.mem_singleton.mp he]; exact hql
    have L2' : LR H17 p2 R2 m 100 10000 (10 ^ 19) := LR.le (LR.row (L := 65) (C := 4006) (U := 64 * (1000 * 1000000000000)) hR2 hp2 hE2 dq (by rw [List.length_append, List.length_singleton]; have := LP.z; omega) (fun e he x hx => by
      rcases List.mem_append.mp he with h | h
      · have := LP.c e h x hx; omega
      · rw [List.mem_singleton.mp h] at hx
        exact cq x hx) (fun e he => by
      rcases List.mem_append.mp he with h | h
      · exact LP.u e h
      · rw [List.mem_singleton.mp h]; show (d2 - 3).natAbs ≤ _; omega)) (by decide) (by decide) (by decide)
    have f2 : Fits R2 m := fits_near hm1 hm3 L2'.d hR2 hql (by decide) bP hnear
    have eR2 : ∀ k, numAt R2 k = numAt (timesL F S ++ [(q0, d2 - 3)]) k := fun k => by rw [hR2.s, numAt_app, numAt_app, hR.s]
    walk_at "st"
    have s47 := s14.trans (s15.trans (s16.trans s17))
    have hpq17 : H17 pq = some (.tup (q0.map V.int)) := (s15.trans (s16.trans s17)) _ _ hpq
    refine ⟨pf, pr, pq, F, S, q0, d2 - 3, m, 2000, 1000, 2000, 1000000000000, rfl, LF13.mono s47, (LS13.mono s47).le (by decide) (Nat.le_refl _) (Nat.le_refl _), hm1, hm3, hpq17, hql, by omega, hne, by decide, fun hv0 H18 s18 => ?_, fun hv0 hno H18 s18 => ?_, fun hv0 f0 hf0 hdv => ?_⟩
    · walk_at "st"
      have hpm18 := (s47.trans s18) _ _ hpm13
      have hpr18 := (s10.trans (sB.trans (s47.trans s18))) _ _ hpr9
      refine ⟨pm, pr, xm, xr, M, S, rfl, AU.sqL hpm18, AU.sqL hpr18, hEm13.mono (s47.trans s18), hLS.e.mono (s10.trans (sB.trans (s47.trans s18))), Nat.le_trans (Nat.mul_le_mul zM LS.z) (by decide), fun e he g hg => by rw [dM e he, LS.d g hg], dim1 dM, LS.u.num (by decide), fun X px xx H19 hX s19 npx hpx hEx => ?_⟩
      have hX' : RowIs X (timesL (mirL F) S) := ⟨hX.v, fun k => by rw [hX.s, timesL_eq1 _ hM.s]⟩
      have LX : LR H19 px X m 100 10000 (10 ^ 19) := exp_row hX' hpx hEx LF.d LS.d LF.c LF.u LS.c LS.u (by omega) (by decide) (by decide)
      have fX : Fits X m := fits_dbl hm1 hm3 LX.d (boxed_row hX' (bF2 hm1 hm3 LF.d bF LS.d bS))
      obtain ⟨xs, ys2, es2, U, U2, hFl⟩ := mkFlips (K := K) (L2'.mono (s18.trans s19)) ((LF13.mono (s47.trans (s18.trans s19))).big (by decide) (by decide) (by decide)) LX hm1 hm3 hne ⟨LS.v, LS.d, by have := LS.z; omega, LS.c.le (by decide), LS.u.le (by decide)⟩ (by omega) (fun k => by
        rw [eR2, numAt_app, hv0]
        show _ + ((if q0 = k then 0 else 0) + 0) = _
        by_cases c : q0 = k
        · rw [if_pos c]; omega
        · rw [if_neg c]; omega) hX' f2 fX
      walk_at "st"
      refine ⟨p2, pf, px, xs, ys2, es2, R2, F, S, X, m, 10000, U, U2, rfl, hFl, fun H20 s20 => ?_⟩
      walk_at "st"
      exact q H20
    · walk_at "st"
      obtain ⟨xs1, ys1, U1, hQ1⟩ := mkQuo (K := K) (L2'.mono s18) ((LF13.mono (s47.trans s18)).big (by decide) (by decide) (by decide)) hm1 hm3 hm1 hm3 f2
      refine ⟨p2, pf, _, xs1, ys1, R2, F, m, m, 10000, U1, rfl, hQ1, .inr (.inr ⟨mixB_same (n := m) (m := m) (fun _ _ => rfl) L2'.d LF.d, hne, fun hF => hno (mono_fac LF.v LF.d LS.d hne hv0 eR2 hF), rfl⟩), fun H19 s19 => ?_⟩
      walk_at "st"
      exact q H19
    · intro S2 ps xs2 H18 hS2 s18 nps hps hEs
      walk_at "st"
      subst hf0
      have f0d := LF.d f0 List.mem_cons_self
      have f0n := LF.v.nz f0 List.mem_cons_self
      have dS2 : DimN m (S ++ [(plusP q0 (negP f0.1), (d2 - 3).fdiv f0.2)]) := LS.d.app fun e he => by
        rw [List.mem_singleton.mp he]
        show (plusP q0 (negP f0.1)).length = m
        rw [plusP_len (by rw [negP_len]; omega)]
        exact hql
      have fu : ((d2 - 3).fdiv f0.2).natAbs ≤ 10 := by
        obtain ⟨y, hy⟩ := hdv
        rw [hy, Int.mul_fdiv_cancel_left _ f0n]
        have h1 : (f0.2 * y).natAbs ≤ 10 := by rw [← hy]; omega
        rw [Int.natAbs_mul] at h1
        exact Nat.le_trans (Nat.le_mul_of_pos_left _ (by omega)) h1
      have LS2 : LR H18 ps S2 m 9 6100 (9 * 1000000000000) := LR.row hS2 hps hEs dS2 (by rw [List.length_append, List.length_singleton]; have := LS.z; omega) (fun e he x hx => by
        rcases List.mem_append.mp he with h | h
        · have := LS.c e h x hx; omega
        · rw [List.mem_singleton.mp h] at hx
          obtain ⟨u, hu, v, hv, rfl⟩ := plusP_mem hx
          obtain ⟨z, hz, rfl⟩ := List.mem_map.mp hv
          have := cq u hu
          have := LF.c f0 List.mem_cons_self z hz
          omega) (fun e he => by
        rcases List.mem_append.mp he with h | h
        · exact LS.u e h
        · rw [List.mem_singleton.mp h]; show ((d2 - 3).fdiv f0.2).natAbs ≤ _; omega)
      have hpm18 := (s47.trans s18) _ _ hpm13
      refine ⟨pm, ps, xm, xs2, M, S2, rfl, AU.sqL hpm18, AU.sqL hps, hEm13.mono (s47.trans s18), hEs, Nat.le_trans (Nat.mul_le_mul zM LS2.z) (by decide), fun e he g hg => by rw [dM e he, LS2.d g hg], dim1 dM, LS2.u.num (by decide), fun X px xx H19 hX s19 npx hpx hEx => ?_⟩
      have hX' : RowIs X (timesL (mirL [f0]) S2) := ⟨hX.v, fun k => by rw [hX.s, timesL_eq1 _ hM.s]⟩
      have LX : LR H19 px X m 100 10000 (10 ^ 19) := exp_row hX' hpx hEx LF.d LS2.d LF.c LF.u LS2.c LS2.u (by have := LS2.z; show 1 * S2.length ≤ 100; omega) (by decide) (by decide)
      have hR2' : ∀ k, numAt R2 k = numAt (timesL [f0] S2) k := fun k => extra_fac (S := S) (R := R) (by rw [f0d]; exact hql) hdv f0n hR.s hR2.s hS2.s k
      have fX : Fits X m := fits_mirror f0n f0d LS2.v LS2.d ⟨hR2.v, hR2'⟩ hX' f2
      obtain ⟨xs, ys2, es2, U, U2, hFl⟩ := mkFlips (K := K) (L2'.mono (s18.trans s19)) ((LF13.mono (s47.trans (s18.trans s19))).big (by decide) (by decide) (by decide)) LX hm1 hm3 hne ⟨LS2.v, LS2.d, by have := LS2.z; omega, LS2.c.le (by decide), LS2.u.le (by decide)⟩ (by have := LS2.z; show 1 * S2.length < 2000; omega) hR2' hX' f2 fX
      walk_at "st"
      refine ⟨p2, pf, px, xs, ys2, es2, R2, [f0], S2, X, m, 10000, U, U2, rfl, hFl, fun H20 s20 => ?_⟩
      walk_at "st"
      exact q H20
end
end OT

set_option Elab.async false
set_option linter.all false
set_option maxRecDepth 100000
set_option maxHeartbeats 4000000
namespace OT
open PySem PySem.Spec PyProof.Rows L2
theorem all_mk {l : PySem.W.OpenLaw} {w : World} {K : PySem.W.Frag} {h : Heap} {mg : Str → Option Value} {fa : Addr} {f_places_length f_same_lengths f_same_dimension f_bounds f_product_sizes f_longest f_digit_bits f_is_crowded f_digit_at f_place_at f_joined_digits f_low_digit f_split_digits f_great_integer f_crowded_product f_reach f_key_base f_key_of f_place_of f_keyed f_unkeyed f_multiply f_mirror f_quotient_box f_inside f_divide f_quotient f_flip f__law_cell f__law_draws f__law_is_integer f__law_is_place f__law_is_row f__law_same f__law_plus f__law_back f__law_row f__law_add f__law_scaled f__law_times f__law_mirror f__law_moved f__law_cross f__law_own f__law_corner f__law_zero f__law_places f__law_drawn f__law_box f__law_is_error f__law_words f__law_refuses f__law_flips f__law_widened f__law_aside f__law_single f__law_near f__law_foreign f__law_quotient f__law_by_number f_law f_te f_ie B I N M Z : Addr} (X : K.In h) (G : h.Ns mainGlobals mg) (hfa : mg "law" = some (.ref fa))
    {tk_FEW : Tok}
    {od_places_length an_places_length : Option Addr} {sl_places_length : Array (Option Value)} {oc_places_length kV_places_length dc_places_length pm_places_length cd_places_length ct_places_length : Value}
    {od_same_lengths an_same_lengths : Option Addr} {sl_same_lengths : Array (Option Value)} {oc_same_lengths kV_same_lengths dc_same_lengths pm_same_lengths cd_same_lengths ct_same_lengths : Value}
    {od_same_dimension an_same_dimension : Option Addr} {sl_same_dimension : Array (Option Value)} {oc_same_dimension kV_same_dimension dc_same_dimension pm_same_dimension cd_same_dimension ct_same_dimension : Value}
    {TD_same_dimension A0_same_dimension : Addr} {to_same_dimension uo_same_dimension : Option Addr} {tn_same_dimension un_same_dimension : Nat} {ts_same_dimension us_same_dimension : Array (Option Value)}
    {tc_same_dimension : Value}
    {od_bounds an_bounds : Option Addr} {sl_bounds : Array (Option Value)} {oc_bounds kV_bounds dc_bounds pm_bounds cd_bounds ct_bounds : Value}
    {od_product_sizes an_product_sizes : Option Addr} {sl_product_sizes : Array (Option Value)} {oc_product_sizes kV_product_sizes dc_product_sizes pm_product_sizes cd_product_sizes ct_product_sizes : Value}
    {od_longest an_longest : Option Addr} {sl_longest : Array (Option Value)} {oc_longest kV_longest dc_longest pm_longest cd_longest ct_longest : Value}
    {od_digit_bits an_digit_bits : Option Addr} {sl_digit_bits : Array (Option Value)} {oc_digit_bits kV_digit_bits dc_digit_bits pm_digit_bits cd_digit_bits ct_digit_bits : Value}
    {od_is_crowded an_is_crowded : Option Addr} {sl_is_crowded : Array (Option Value)} {oc_is_crowded kV_is_crowded dc_is_crowded pm_is_crowded cd_is_crowded ct_is_crowded : Value}
    {od_digit_at an_digit_at : Option Addr} {sl_digit_at : Array (Option Value)} {oc_digit_at kV_digit_at dc_digit_at pm_digit_at cd_digit_at ct_digit_at : Value}
    {od_place_at an_place_at : Option Addr} {sl_place_at : Array (Option Value)} {oc_place_at kV_place_at dc_place_at pm_place_at cd_place_at ct_place_at : Value}
    {od_joined_digits an_joined_digits : Option Addr} {sl_joined_digits : Array (Option Value)} {oc_joined_digits kV_joined_digits dc_joined_digits pm_joined_digits cd_joined_digits ct_joined_digits : Value}
    {od_low_digit an_low_digit : Option Addr} {sl_low_digit : Array (Option Value)} {oc_low_digit kV_low_digit dc_low_digit pm_low_digit cd_low_digit ct_low_digit : Value}
    {od_split_digits an_split_digits : Option Addr} {sl_split_digits : Array (Option Value)} {oc_split_digits kV_split_digits dc_split_digits pm_split_digits cd_split_digits ct_split_digits : Value}
    {od_great_integer an_great_integer : Option Addr} {sl_great_integer : Array (Option Value)} {oc_great_integer kV_great_integer dc_great_integer pm_great_integer cd_great_integer ct_great_integer : Value}
    {od_crowded_product an_crowded_product : Option Addr} {sl_crowded_product : Array (Option Value)} {oc_crowded_product kV_crowded_product dc_crowded_product pm_crowded_product cd_crowded_product ct_crowded_product : Value}
    {od_reach an_reach : Option Addr} {sl_reach : Array (Option Value)} {oc_reach kV_reach dc_reach pm_reach cd_reach ct_reach : Value}
    {od_key_base an_key_base : Option Addr} {sl_key_base : Array (Option Value)} {oc_key_base kV_key_base dc_key_base pm_key_base cd_key_base ct_key_base : Value}
    {od_key_of an_key_of : Option Addr} {sl_key_of : Array (Option Value)} {oc_key_of kV_key_of dc_key_of pm_key_of cd_key_of ct_key_of : Value}
    {od_place_of an_place_of : Option Addr} {sl_place_of : Array (Option Value)} {oc_place_of kV_place_of dc_place_of pm_place_of cd_place_of ct_place_of : Value}
    {od_keyed an_keyed : Option Addr} {sl_keyed : Array (Option Value)} {oc_keyed kV_keyed dc_keyed pm_keyed cd_keyed ct_keyed : Value}
    {od_unkeyed an_unkeyed : Option Addr} {sl_unkeyed : Array (Option Value)} {oc_unkeyed kV_unkeyed dc_unkeyed pm_unkeyed cd_unkeyed ct_unkeyed : Value}
    {od_multiply an_multiply : Option Addr} {sl_multiply : Array (Option Value)} {oc_multiply kV_multiply dc_multiply pm_multiply cd_multiply ct_multiply : Value}
    {od_mirror an_mirror : Option Addr} {sl_mirror : Array (Option Value)} {oc_mirror kV_mirror dc_mirror pm_mirror cd_mirror ct_mirror : Value}
    {od_quotient_box an_quotient_box : Option Addr} {sl_quotient_box : Array (Option Value)} {oc_quotient_box kV_quotient_box dc_quotient_box pm_quotient_box cd_quotient_box ct_quotient_box : Value}
    {od_inside an_inside : Option Addr} {sl_inside : Array (Option Value)} {oc_inside kV_inside dc_inside pm_inside cd_inside ct_inside : Value}
    {od_divide an_divide : Option Addr} {sl_divide : Array (Option Value)} {oc_divide kV_divide dc_divide pm_divide cd_divide ct_divide : Value}
    {od_quotient an_quotient : Option Addr} {sl_quotient : Array (Option Value)} {oc_quotient kV_quotient dc_quotient pm_quotient cd_quotient ct_quotient : Value}
    {od_flip an_flip : Option Addr} {sl_flip : Array (Option Value)} {oc_flip kV_flip dc_flip pm_flip cd_flip ct_flip : Value}
    {od__law_cell an__law_cell : Option Addr} {sl__law_cell : Array (Option Value)} {oc__law_cell kV__law_cell dc__law_cell pm__law_cell cd__law_cell ct__law_cell : Value}
    {od__law_draws an__law_draws : Option Addr} {sl__law_draws : Array (Option Value)} {oc__law_draws kV__law_draws dc__law_draws pm__law_draws cd__law_draws ct__law_draws : Value}
    {od__law_is_integer an__law_is_integer : Option Addr} {sl__law_is_integer : Array (Option Value)} {oc__law_is_integer kV__law_is_integer dc__law_is_integer pm__law_is_integer cd__law_is_integer ct__law_is_integer : Value}
    {od__law_is_place an__law_is_place : Option Addr} {sl__law_is_place : Array (Option Value)} {oc__law_is_place kV__law_is_place dc__law_is_place pm__law_is_place cd__law_is_place ct__law_is_place : Value}
    {od__law_is_row an__law_is_row : Option Addr} {sl__law_is_row : Array (Option Value)} {oc__law_is_row kV__law_is_row dc__law_is_row pm__law_is_row cd__law_is_row ct__law_is_row : Value}
    {od__law_same an__law_same : Option Addr} {sl__law_same : Array (Option Value)} {oc__law_same kV__law_same dc__law_same pm__law_same cd__law_same ct__law_same : Value}
    {od__law_plus an__law_plus : Option Addr} {sl__law_plus : Array (Option Value)} {oc__law_plus kV__law_plus dc__law_plus pm__law_plus cd__law_plus ct__law_plus : Value}
    {od__law_back an__law_back : Option Addr} {sl__law_back : Array (Option Value)} {oc__law_back kV__law_back dc__law_back pm__law_back cd__law_back ct__law_back : Value}
    {od__law_row an__law_row : Option Addr} {sl__law_row : Array (Option Value)} {oc__law_row kV__law_row dc__law_row pm__law_row cd__law_row ct__law_row : Value}
    {od__law_add an__law_add : Option Addr} {sl__law_add : Array (Option Value)} {oc__law_add kV__law_add dc__law_add pm__law_add cd__law_add ct__law_add : Value}
    {od__law_scaled an__law_scaled : Option Addr} {sl__law_scaled : Array (Option Value)} {oc__law_scaled kV__law_scaled dc__law_scaled pm__law_scaled cd__law_scaled ct__law_scaled : Value}
    {od__law_times an__law_times : Option Addr} {sl__law_times : Array (Option Value)} {oc__law_times kV__law_times dc__law_times pm__law_times cd__law_times ct__law_times : Value}
    {od__law_mirror an__law_mirror : Option Addr} {sl__law_mirror : Array (Option Value)} {oc__law_mirror kV__law_mirror dc__law_mirror pm__law_mirror cd__law_mirror ct__law_mirror : Value}
    {od__law_moved an__law_moved : Option Addr} {sl__law_moved : Array (Option Value)} {oc__law_moved kV__law_moved dc__law_moved pm__law_moved cd__law_moved ct__law_moved : Value}
    {od__law_cross an__law_cross : Option Addr} {sl__law_cross : Array (Option Value)} {oc__law_cross kV__law_cross dc__law_cross pm__law_cross cd__law_cross ct__law_cross : Value}
    {od__law_own an__law_own : Option Addr} {sl__law_own : Array (Option Value)} {oc__law_own kV__law_own dc__law_own pm__law_own cd__law_own ct__law_own : Value}
    {od__law_corner an__law_corner : Option Addr} {sl__law_corner : Array (Option Value)} {oc__law_corner kV__law_corner dc__law_corner pm__law_corner cd__law_corner ct__law_corner : Value}
    {od__law_zero an__law_zero : Option Addr} {sl__law_zero : Array (Option Value)} {oc__law_zero kV__law_zero dc__law_zero pm__law_zero cd__law_zero ct__law_zero : Value}
    {od__law_places an__law_places : Option Addr} {sl__law_places : Array (Option Value)} {oc__law_places kV__law_places dc__law_places pm__law_places cd__law_places ct__law_places : Value}
    {od__law_drawn an__law_drawn : Option Addr} {sl__law_drawn : Array (Option Value)} {oc__law_drawn kV__law_drawn dc__law_drawn pm__law_drawn cd__law_drawn ct__law_drawn : Value}
    {od__law_box an__law_box : Option Addr} {sl__law_box : Array (Option Value)} {oc__law_box kV__law_box dc__law_box pm__law_box cd__law_box ct__law_box : Value}
    {od__law_is_error an__law_is_error : Option Addr} {sl__law_is_error : Array (Option Value)} {oc__law_is_error kV__law_is_error dc__law_is_error pm__law_is_error cd__law_is_error ct__law_is_error : Value}
    {od__law_words an__law_words : Option Addr} {sl__law_words : Array (Option Value)} {oc__law_words kV__law_words dc__law_words pm__law_words cd__law_words ct__law_words : Value}
    {od__law_refuses an__law_refuses : Option Addr} {sl__law_refuses : Array (Option Value)} {oc__law_refuses kV__law_refuses dc__law_refuses pm__law_refuses cd__law_refuses ct__law_refuses : Value}
    {od__law_flips an__law_flips : Option Addr} {sl__law_flips : Array (Option Value)} {oc__law_flips kV__law_flips dc__law_flips pm__law_flips cd__law_flips ct__law_flips : Value}
    {od__law_widened an__law_widened : Option Addr} {sl__law_widened : Array (Option Value)} {oc__law_widened kV__law_widened dc__law_widened pm__law_widened cd__law_widened ct__law_widened : Value}
    {od__law_aside an__law_aside : Option Addr} {sl__law_aside : Array (Option Value)} {oc__law_aside kV__law_aside dc__law_aside pm__law_aside cd__law_aside ct__law_aside : Value}
    {od__law_single an__law_single : Option Addr} {sl__law_single : Array (Option Value)} {oc__law_single kV__law_single dc__law_single pm__law_single cd__law_single ct__law_single : Value}
    {od__law_near an__law_near : Option Addr} {sl__law_near : Array (Option Value)} {oc__law_near kV__law_near dc__law_near pm__law_near cd__law_near ct__law_near : Value}
    {od__law_foreign an__law_foreign : Option Addr} {sl__law_foreign : Array (Option Value)} {oc__law_foreign kV__law_foreign dc__law_foreign pm__law_foreign cd__law_foreign ct__law_foreign : Value}
    {od__law_quotient an__law_quotient : Option Addr} {sl__law_quotient : Array (Option Value)} {oc__law_quotient kV__law_quotient dc__law_quotient pm__law_quotient cd__law_quotient ct__law_quotient : Value}
    {od__law_by_number an__law_by_number : Option Addr} {sl__law_by_number : Array (Option Value)} {oc__law_by_number kV__law_by_number dc__law_by_number pm__law_by_number cd__law_by_number ct__law_by_number : Value}
    {od_law an_law : Option Addr} {sl_law : Array (Option Value)} {oc_law kV_law dc_law pm_law cd_law ct_law : Value}
    {od_te an_te : Option Addr} {sl_te : Array (Option Value)} {oc_te kV_te dc_te pm_te cd_te ct_te : Value}
    {od_ie an_ie : Option Addr} {sl_ie : Array (Option Value)} {oc_ie kV_ie dc_ie pm_ie cd_ie ct_ie : Value}
    {nm_N q_N : Str} {N_N : Addr} {bs_N bm_N : List Value} {sn_N : List Str} {sub_N : List Value} {ab_N : Bool} {col_N : Option Bool} {dd_N : Option Addr} {m0_N m1_N m3_N m5_N : Option Value} {tk_N : Tok}
    {nm_M q_M : Str} {N_M : Addr} {bs_M bm_M : List Value} {sn_M : List Str} {sub_M : List Value} {ab_M : Bool} {col_M : Option Bool} {dd_M : Option Addr} {m0_M m1_M m3_M m5_M : Option Value} {tk_M : Tok}
    {nm_Z q_Z : Str} {N_Z : Addr} {bs_Z bm_Z : List Value} {sn_Z : List Str} {sub_Z : List Value} {ab_Z : Bool} {col_Z : Option Bool} {dd_Z : Option Addr} {m0_Z m1_Z m3_Z m5_Z : Option Value} {tk_Z : Tok}
    (z_len : PySem.W.nsIn K mainGlobals "len" = some none)
    (z_int : PySem.W.nsIn K mainGlobals "int" = some none)
    (z_str : PySem.W.nsIn K mainGlobals "str" = some none)
    (z_bool : PySem.W.nsIn K mainGlobals "bool" = some none)
    (z_list : PySem.W.nsIn K mainGlobals "list" = some none)
    (z_tuple : PySem.W.nsIn K mainGlobals "tuple" = some none)
    (z_range : PySem.W.nsIn K mainGlobals "range" = some none)
    (z_enumerate : PySem.W.nsIn K mainGlobals "enumerate" = some none)
    (z_isinstance : PySem.W.nsIn K mainGlobals "isinstance" = some none)
    (z_sorted : PySem.W.nsIn K mainGlobals "sorted" = some none)
    (z_abs : PySem.W.nsIn K mainGlobals "abs" = some none)
    (z_any : PySem.W.nsIn K mainGlobals "any" = some none)
    (z_all : PySem.W.nsIn K mainGlobals "all" = some none)
    (z_sum : PySem.W.nsIn K mainGlobals "sum" = some none)
    (z_min : PySem.W.nsIn K mainGlobals "min" = some none)
    (z_max : PySem.W.nsIn K mainGlobals "max" = some none)
    (z_zip : PySem.W.nsIn K mainGlobals "zip" = some none)
    (z_set : PySem.W.nsIn K mainGlobals "set" = some none)
    (z_ValueError : PySem.W.nsIn K mainGlobals "ValueError" = some none)
    (a_places_length : PySem.W.nsIn K mainGlobals "places_length" = some (some (.ref f_places_length)))
    (l_places_length : K.lookup f_places_length = some ⟨oc_places_length, od_places_length, .func (PySem.W.fnOf "places_length" "places_length" (C8.fnArgs s_places_length) (C8.fnBody s_places_length) (C8.fnScope s_places_length) .none kV_places_length dc_places_length pm_places_length an_places_length cd_places_length ct_places_length), sl_places_length⟩)
    (co_places_length : PySem.W.codeIn K cd_places_length "places_length" = true)
    (k_places_length : PySem.W.keepIn K (.ref f_places_length) = true)
    (a_same_lengths : PySem.W.nsIn K mainGlobals "same_lengths" = some (some (.ref f_same_lengths)))
    (l_same_lengths : K.lookup f_same_lengths = some ⟨oc_same_lengths, od_same_lengths, .func (PySem.W.fnOf "same_lengths" "same_lengths" (C8.fnArgs s_same_lengths) (C8.fnBody s_same_lengths) (C8.fnScope s_same_lengths) .none kV_same_lengths dc_same_lengths pm_same_lengths an_same_lengths cd_same_lengths ct_same_lengths), sl_same_lengths⟩)
    (co_same_lengths : PySem.W.codeIn K cd_same_lengths "same_lengths" = true)
    (k_same_lengths : PySem.W.keepIn K (.ref f_same_lengths) = true)
    (a_same_dimension : PySem.W.nsIn K mainGlobals "same_dimension" = some (some (.ref f_same_dimension)))
    (l_same_dimension : K.lookup f_same_dimension = some ⟨oc_same_dimension, od_same_dimension, .func (PySem.W.fnOf "same_dimension" "same_dimension" (C8.fnArgs s_same_dimension) (C8.fnBody s_same_dimension) (C8.fnScope s_same_dimension) (.ref TD_same_dimension) kV_same_dimension dc_same_dimension pm_same_dimension an_same_dimension cd_same_dimension ct_same_dimension), sl_same_dimension⟩)
    (lt_same_dimension : K.lookup TD_same_dimension = some ⟨tc_same_dimension, to_same_dimension, .seq #[.ref A0_same_dimension] tn_same_dimension, ts_same_dimension⟩)
    (lu_same_dimension : K.lookup A0_same_dimension = some ⟨.type "tuple", uo_same_dimension, .seq #[] un_same_dimension, us_same_dimension⟩)
    (co_same_dimension : PySem.W.codeIn K cd_same_dimension "same_dimension" = true)
    (k_same_dimension : PySem.W.keepIn K (.ref f_same_dimension) = true)
    (a_bounds : PySem.W.nsIn K mainGlobals "bounds" = some (some (.ref f_bounds)))
    (l_bounds : K.lookup f_bounds = some ⟨oc_bounds, od_bounds, .func (PySem.W.fnOf "bounds" "bounds" (C8.fnArgs s_bounds) (C8.fnBody s_bounds) (C8.fnScope s_bounds) .none kV_bounds dc_bounds pm_bounds an_bounds cd_bounds ct_bounds), sl_bounds⟩)
    (co_bounds : PySem.W.codeIn K cd_bounds "bounds" = true)
    (k_bounds : PySem.W.keepIn K (.ref f_bounds) = true)
    (a_product_sizes : PySem.W.nsIn K mainGlobals "product_sizes" = some (some (.ref f_product_sizes)))
    (l_product_sizes : K.lookup f_product_sizes = some ⟨oc_product_sizes, od_product_sizes, .func (PySem.W.fnOf "product_sizes" "product_sizes" (C8.fnArgs s_product_sizes) (C8.fnBody s_product_sizes) (C8.fnScope s_product_sizes) .none kV_product_sizes dc_product_sizes pm_product_sizes an_product_sizes cd_product_sizes ct_product_sizes), sl_product_sizes⟩)
    (co_product_sizes : PySem.W.codeIn K cd_product_sizes "product_sizes" = true)
    (k_product_sizes : PySem.W.keepIn K (.ref f_product_sizes) = true)
    (a_longest : PySem.W.nsIn K mainGlobals "longest" = some (some (.ref f_longest)))
    (l_longest : K.lookup f_longest = some ⟨oc_longest, od_longest, .func (PySem.W.fnOf "longest" "longest" (C8.fnArgs s_longest) (C8.fnBody s_longest) (C8.fnScope s_longest) .none kV_longest dc_longest pm_longest an_longest cd_longest ct_longest), sl_longest⟩)
    (co_longest : PySem.W.codeIn K cd_longest "longest" = true)
    (k_longest : PySem.W.keepIn K (.ref f_longest) = true)
    (a_digit_bits : PySem.W.nsIn K mainGlobals "digit_bits" = some (some (.ref f_digit_bits)))
    (l_digit_bits : K.lookup f_digit_bits = some ⟨oc_digit_bits, od_digit_bits, .func (PySem.W.fnOf "digit_bits" "digit_bits" (C8.fnArgs s_digit_bits) (C8.fnBody s_digit_bits) (C8.fnScope s_digit_bits) .none kV_digit_bits dc_digit_bits pm_digit_bits an_digit_bits cd_digit_bits ct_digit_bits), sl_digit_bits⟩)
    (co_digit_bits : PySem.W.codeIn K cd_digit_bits "digit_bits" = true)
    (k_digit_bits : PySem.W.keepIn K (.ref f_digit_bits) = true)
    (a_is_crowded : PySem.W.nsIn K mainGlobals "is_crowded" = some (some (.ref f_is_crowded)))
    (l_is_crowded : K.lookup f_is_crowded = some ⟨oc_is_crowded, od_is_crowded, .func (PySem.W.fnOf "is_crowded" "is_crowded" (C8.fnArgs s_is_crowded) (C8.fnBody s_is_crowded) (C8.fnScope s_is_crowded) .none kV_is_crowded dc_is_crowded pm_is_crowded an_is_crowded cd_is_crowded ct_is_crowded), sl_is_crowded⟩)
    (co_is_crowded : PySem.W.codeIn K cd_is_crowded "is_crowded" = true)
    (k_is_crowded : PySem.W.keepIn K (.ref f_is_crowded) = true)
    (a_digit_at : PySem.W.nsIn K mainGlobals "digit_at" = some (some (.ref f_digit_at)))
    (l_digit_at : K.lookup f_digit_at = some ⟨oc_digit_at, od_digit_at, .func (PySem.W.fnOf "digit_at" "digit_at" (C8.fnArgs s_digit_at) (C8.fnBody s_digit_at) (C8.fnScope s_digit_at) .none kV_digit_at dc_digit_at pm_digit_at an_digit_at cd_digit_at ct_digit_at), sl_digit_at⟩)
    (co_digit_at : PySem.W.codeIn K cd_digit_at "digit_at" = true)
    (k_digit_at : PySem.W.keepIn K (.ref f_digit_at) = true)
    (a_place_at : PySem.W.nsIn K mainGlobals "place_at" = some (some (.ref f_place_at)))
    (l_place_at : K.lookup f_place_at = some ⟨oc_place_at, od_place_at, .func (PySem.W.fnOf "place_at" "place_at" (C8.fnArgs s_place_at) (C8.fnBody s_place_at) (C8.fnScope s_place_at) .none kV_place_at dc_place_at pm_place_at an_place_at cd_place_at ct_place_at), sl_place_at⟩)
    (co_place_at : PySem.W.codeIn K cd_place_at "place_at" = true)
    (k_place_at : PySem.W.keepIn K (.ref f_place_at) = true)
    (a_joined_digits : PySem.W.nsIn K mainGlobals "joined_digits" = some (some (.ref f_joined_digits)))
    (l_joined_digits : K.lookup f_joined_digits = some ⟨oc_joined_digits, od_joined_digits, .func (PySem.W.fnOf "joined_digits" "joined_digits" (C8.fnArgs s_joined_digits) (C8.fnBody s_joined_digits) (C8.fnScope s_joined_digits) .none kV_joined_digits dc_joined_digits pm_joined_digits an_joined_digits cd_joined_digits ct_joined_digits), sl_joined_digits⟩)
    (co_joined_digits : PySem.W.codeIn K cd_joined_digits "joined_digits" = true)
    (k_joined_digits : PySem.W.keepIn K (.ref f_joined_digits) = true)
    (a_low_digit : PySem.W.nsIn K mainGlobals "low_digit" = some (some (.ref f_low_digit)))
    (l_low_digit : K.lookup f_low_digit = some ⟨oc_low_digit, od_low_digit, .func (PySem.W.fnOf "low_digit" "low_digit" (C8.fnArgs s_low_digit) (C8.fnBody s_low_digit) (C8.fnScope s_low_digit) .none kV_low_digit dc_low_digit pm_low_digit an_low_digit cd_low_digit ct_low_digit), sl_low_digit⟩)
    (co_low_digit : PySem.W.codeIn K cd_low_digit "low_digit" = true)
    (k_low_digit : PySem.W.keepIn K (.ref f_low_digit) = true)
    (a_split_digits : PySem.W.nsIn K mainGlobals "split_digits" = some (some (.ref f_split_digits)))
    (l_split_digits : K.lookup f_split_digits = some ⟨oc_split_digits, od_split_digits, .func (PySem.W.fnOf "split_digits" "split_digits" (C8.fnArgs s_split_digits) (C8.fnBody s_split_digits) (C8.fnScope s_split_digits) .none kV_split_digits dc_split_digits pm_split_digits an_split_digits cd_split_digits ct_split_digits), sl_split_digits⟩)
    (co_split_digits : PySem.W.codeIn K cd_split_digits "split_digits" = true)
    (k_split_digits : PySem.W.keepIn K (.ref f_split_digits) = true)
    (a_great_integer : PySem.W.nsIn K mainGlobals "great_integer" = some (some (.ref f_great_integer)))
    (l_great_integer : K.lookup f_great_integer = some ⟨oc_great_integer, od_great_integer, .func (PySem.W.fnOf "great_integer" "great_integer" (C8.fnArgs s_great_integer) (C8.fnBody s_great_integer) (C8.fnScope s_great_integer) .none kV_great_integer dc_great_integer pm_great_integer an_great_integer cd_great_integer ct_great_integer), sl_great_integer⟩)
    (co_great_integer : PySem.W.codeIn K cd_great_integer "great_integer" = true)
    (k_great_integer : PySem.W.keepIn K (.ref f_great_integer) = true)
    (a_crowded_product : PySem.W.nsIn K mainGlobals "crowded_product" = some (some (.ref f_crowded_product)))
    (l_crowded_product : K.lookup f_crowded_product = some ⟨oc_crowded_product, od_crowded_product, .func (PySem.W.fnOf "crowded_product" "crowded_product" (C8.fnArgs s_crowded_product) (C8.fnBody s_crowded_product) (C8.fnScope s_crowded_product) .none kV_crowded_product dc_crowded_product pm_crowded_product an_crowded_product cd_crowded_product ct_crowded_product), sl_crowded_product⟩)
    (co_crowded_product : PySem.W.codeIn K cd_crowded_product "crowded_product" = true)
    (k_crowded_product : PySem.W.keepIn K (.ref f_crowded_product) = true)
    (a_reach : PySem.W.nsIn K mainGlobals "reach" = some (some (.ref f_reach)))
    (l_reach : K.lookup f_reach = some ⟨oc_reach, od_reach, .func (PySem.W.fnOf "reach" "reach" (C8.fnArgs s_reach) (C8.fnBody s_reach) (C8.fnScope s_reach) .none kV_reach dc_reach pm_reach an_reach cd_reach ct_reach), sl_reach⟩)
    (co_reach : PySem.W.codeIn K cd_reach "reach" = true)
    (k_reach : PySem.W.keepIn K (.ref f_reach) = true)
    (a_key_base : PySem.W.nsIn K mainGlobals "key_base" = some (some (.ref f_key_base)))
    (l_key_base : K.lookup f_key_base = some ⟨oc_key_base, od_key_base, .func (PySem.W.fnOf "key_base" "key_base" (C8.fnArgs s_key_base) (C8.fnBody s_key_base) (C8.fnScope s_key_base) .none kV_key_base dc_key_base pm_key_base an_key_base cd_key_base ct_key_base), sl_key_base⟩)
    (co_key_base : PySem.W.codeIn K cd_key_base "key_base" = true)
    (k_key_base : PySem.W.keepIn K (.ref f_key_base) = true)
    (a_key_of : PySem.W.nsIn K mainGlobals "key_of" = some (some (.ref f_key_of)))
    (l_key_of : K.lookup f_key_of = some ⟨oc_key_of, od_key_of, .func (PySem.W.fnOf "key_of" "key_of" (C8.fnArgs s_key_of) (C8.fnBody s_key_of) (C8.fnScope s_key_of) .none kV_key_of dc_key_of pm_key_of an_key_of cd_key_of ct_key_of), sl_key_of⟩)
    (co_key_of : PySem.W.codeIn K cd_key_of "key_of" = true)
    (k_key_of : PySem.W.keepIn K (.ref f_key_of) = true)
    (a_place_of : PySem.W.nsIn K mainGlobals "place_of" = some (some (.ref f_place_of)))
    (l_place_of : K.lookup f_place_of = some ⟨oc_place_of, od_place_of, .func (PySem.W.fnOf "place_of" "place_of" (C8.fnArgs s_place_of) (C8.fnBody s_place_of) (C8.fnScope s_place_of) .none kV_place_of dc_place_of pm_place_of an_place_of cd_place_of ct_place_of), sl_place_of⟩)
    (co_place_of : PySem.W.codeIn K cd_place_of "place_of" = true)
    (k_place_of : PySem.W.keepIn K (.ref f_place_of) = true)
    (a_keyed : PySem.W.nsIn K mainGlobals "keyed" = some (some (.ref f_keyed)))
    (l_keyed : K.lookup f_keyed = some ⟨oc_keyed, od_keyed, .func (PySem.W.fnOf "keyed" "keyed" (C8.fnArgs s_keyed) (C8.fnBody s_keyed) (C8.fnScope s_keyed) .none kV_keyed dc_keyed pm_keyed an_keyed cd_keyed ct_keyed), sl_keyed⟩)
    (co_keyed : PySem.W.codeIn K cd_keyed "keyed" = true)
    (k_keyed : PySem.W.keepIn K (.ref f_keyed) = true)
    (a_unkeyed : PySem.W.nsIn K mainGlobals "unkeyed" = some (some (.ref f_unkeyed)))
    (l_unkeyed : K.lookup f_unkeyed = some ⟨oc_unkeyed, od_unkeyed, .func (PySem.W.fnOf "unkeyed" "unkeyed" (C8.fnArgs s_unkeyed) (C8.fnBody s_unkeyed) (C8.fnScope s_unkeyed) .none kV_unkeyed dc_unkeyed pm_unkeyed an_unkeyed cd_unkeyed ct_unkeyed), sl_unkeyed⟩)
    (co_unkeyed : PySem.W.codeIn K cd_unkeyed "unkeyed" = true)
    (k_unkeyed : PySem.W.keepIn K (.ref f_unkeyed) = true)
    (a_multiply : PySem.W.nsIn K mainGlobals "multiply" = some (some (.ref f_multiply)))
    (l_multiply : K.lookup f_multiply = some ⟨oc_multiply, od_multiply, .func (PySem.W.fnOf "multiply" "multiply" (C8.fnArgs s_multiply) (C8.fnBody s_multiply) (C8.fnScope s_multiply) .none kV_multiply dc_multiply pm_multiply an_multiply cd_multiply ct_multiply), sl_multiply⟩)
    (co_multiply : PySem.W.codeIn K cd_multiply "multiply" = true)
    (k_multiply : PySem.W.keepIn K (.ref f_multiply) = true)
    (a_mirror : PySem.W.nsIn K mainGlobals "mirror" = some (some (.ref f_mirror)))
    (l_mirror : K.lookup f_mirror = some ⟨oc_mirror, od_mirror, .func (PySem.W.fnOf "mirror" "mirror" (C8.fnArgs s_mirror) (C8.fnBody s_mirror) (C8.fnScope s_mirror) .none kV_mirror dc_mirror pm_mirror an_mirror cd_mirror ct_mirror), sl_mirror⟩)
    (co_mirror : PySem.W.codeIn K cd_mirror "mirror" = true)
    (k_mirror : PySem.W.keepIn K (.ref f_mirror) = true)
    (a_quotient_box : PySem.W.nsIn K mainGlobals "quotient_box" = some (some (.ref f_quotient_box)))
    (l_quotient_box : K.lookup f_quotient_box = some ⟨oc_quotient_box, od_quotient_box, .func (PySem.W.fnOf "quotient_box" "quotient_box" (C8.fnArgs s_quotient_box) (C8.fnBody s_quotient_box) (C8.fnScope s_quotient_box) .none kV_quotient_box dc_quotient_box pm_quotient_box an_quotient_box cd_quotient_box ct_quotient_box), sl_quotient_box⟩)
    (co_quotient_box : PySem.W.codeIn K cd_quotient_box "quotient_box" = true)
    (k_quotient_box : PySem.W.keepIn K (.ref f_quotient_box) = true)
    (a_inside : PySem.W.nsIn K mainGlobals "inside" = some (some (.ref f_inside)))
    (l_inside : K.lookup f_inside = some ⟨oc_inside, od_inside, .func (PySem.W.fnOf "inside" "inside" (C8.fnArgs s_inside) (C8.fnBody s_inside) (C8.fnScope s_inside) .none kV_inside dc_inside pm_inside an_inside cd_inside ct_inside), sl_inside⟩)
    (co_inside : PySem.W.codeIn K cd_inside "inside" = true)
    (k_inside : PySem.W.keepIn K (.ref f_inside) = true)
    (a_divide : PySem.W.nsIn K mainGlobals "divide" = some (some (.ref f_divide)))
    (l_divide : K.lookup f_divide = some ⟨oc_divide, od_divide, .func (PySem.W.fnOf "divide" "divide" (C8.fnArgs s_divide) (C8.fnBody s_divide) (C8.fnScope s_divide) .none kV_divide dc_divide pm_divide an_divide cd_divide ct_divide), sl_divide⟩)
    (co_divide : PySem.W.codeIn K cd_divide "divide" = true)
    (k_divide : PySem.W.keepIn K (.ref f_divide) = true)
    (a_quotient : PySem.W.nsIn K mainGlobals "quotient" = some (some (.ref f_quotient)))
    (l_quotient : K.lookup f_quotient = some ⟨oc_quotient, od_quotient, .func (PySem.W.fnOf "quotient" "quotient" (C8.fnArgs s_quotient) (C8.fnBody s_quotient) (C8.fnScope s_quotient) .none kV_quotient dc_quotient pm_quotient an_quotient cd_quotient ct_quotient), sl_quotient⟩)
    (co_quotient : PySem.W.codeIn K cd_quotient "quotient" = true)
    (k_quotient : PySem.W.keepIn K (.ref f_quotient) = true)
    (a_flip : PySem.W.nsIn K mainGlobals "flip" = some (some (.ref f_flip)))
    (l_flip : K.lookup f_flip = some ⟨oc_flip, od_flip, .func (PySem.W.fnOf "flip" "flip" (C8.fnArgs s_flip) (C8.fnBody s_flip) (C8.fnScope s_flip) .none kV_flip dc_flip pm_flip an_flip cd_flip ct_flip), sl_flip⟩)
    (co_flip : PySem.W.codeIn K cd_flip "flip" = true)
    (k_flip : PySem.W.keepIn K (.ref f_flip) = true)
    (a__law_cell : PySem.W.nsIn K mainGlobals "_law_cell" = some (some (.ref f__law_cell)))
    (l__law_cell : K.lookup f__law_cell = some ⟨oc__law_cell, od__law_cell, .func (PySem.W.fnOf "_law_cell" "_law_cell" (C8.fnArgs s__law_cell) (C8.fnBody s__law_cell) (C8.fnScope s__law_cell) .none kV__law_cell dc__law_cell pm__law_cell an__law_cell cd__law_cell ct__law_cell), sl__law_cell⟩)
    (co__law_cell : PySem.W.codeIn K cd__law_cell "_law_cell" = true)
    (k__law_cell : PySem.W.keepIn K (.ref f__law_cell) = true)
    (a__law_draws : PySem.W.nsIn K mainGlobals "_law_draws" = some (some (.ref f__law_draws)))
    (l__law_draws : K.lookup f__law_draws = some ⟨oc__law_draws, od__law_draws, .func (PySem.W.fnOf "_law_draws" "_law_draws" (C8.fnArgs s__law_draws) (C8.fnBody s__law_draws) (C8.fnScope s__law_draws) .none kV__law_draws dc__law_draws pm__law_draws an__law_draws cd__law_draws ct__law_draws), sl__law_draws⟩)
    (co__law_draws : PySem.W.codeIn K cd__law_draws "_law_draws" = true)
    (k__law_draws : PySem.W.keepIn K (.ref f__law_draws) = true)
    (a__law_is_integer : PySem.W.nsIn K mainGlobals "_law_is_integer" = some (some (.ref f__law_is_integer)))
    (l__law_is_integer : K.lookup f__law_is_integer = some ⟨oc__law_is_integer, od__law_is_integer, .func (PySem.W.fnOf "_law_is_integer" "_law_is_integer" (C8.fnArgs s__law_is_integer) (C8.fnBody s__law_is_integer) (C8.fnScope s__law_is_integer) .none kV__law_is_integer dc__law_is_integer pm__law_is_integer an__law_is_integer cd__law_is_integer ct__law_is_integer), sl__law_is_integer⟩)
    (co__law_is_integer : PySem.W.codeIn K cd__law_is_integer "_law_is_integer" = true)
    (k__law_is_integer : PySem.W.keepIn K (.ref f__law_is_integer) = true)
    (a__law_is_place : PySem.W.nsIn K mainGlobals "_law_is_place" = some (some (.ref f__law_is_place)))
    (l__law_is_place : K.lookup f__law_is_place = some ⟨oc__law_is_place, od__law_is_place, .func (PySem.W.fnOf "_law_is_place" "_law_is_place" (C8.fnArgs s__law_is_place) (C8.fnBody s__law_is_place) (C8.fnScope s__law_is_place) .none kV__law_is_place dc__law_is_place pm__law_is_place an__law_is_place cd__law_is_place ct__law_is_place), sl__law_is_place⟩)
    (co__law_is_place : PySem.W.codeIn K cd__law_is_place "_law_is_place" = true)
    (k__law_is_place : PySem.W.keepIn K (.ref f__law_is_place) = true)
    (a__law_is_row : PySem.W.nsIn K mainGlobals "_law_is_row" = some (some (.ref f__law_is_row)))
    (l__law_is_row : K.lookup f__law_is_row = some ⟨oc__law_is_row, od__law_is_row, .func (PySem.W.fnOf "_law_is_row" "_law_is_row" (C8.fnArgs s__law_is_row) (C8.fnBody s__law_is_row) (C8.fnScope s__law_is_row) .none kV__law_is_row dc__law_is_row pm__law_is_row an__law_is_row cd__law_is_row ct__law_is_row), sl__law_is_row⟩)
    (co__law_is_row : PySem.W.codeIn K cd__law_is_row "_law_is_row" = true)
    (k__law_is_row : PySem.W.keepIn K (.ref f__law_is_row) = true)
    (a__law_same : PySem.W.nsIn K mainGlobals "_law_same" = some (some (.ref f__law_same)))
    (l__law_same : K.lookup f__law_same = some ⟨oc__law_same, od__law_same, .func (PySem.W.fnOf "_law_same" "_law_same" (C8.fnArgs s__law_same) (C8.fnBody s__law_same) (C8.fnScope s__law_same) .none kV__law_same dc__law_same pm__law_same an__law_same cd__law_same ct__law_same), sl__law_same⟩)
    (co__law_same : PySem.W.codeIn K cd__law_same "_law_same" = true)
    (k__law_same : PySem.W.keepIn K (.ref f__law_same) = true)
    (a__law_plus : PySem.W.nsIn K mainGlobals "_law_plus" = some (some (.ref f__law_plus)))
    (l__law_plus : K.lookup f__law_plus = some ⟨oc__law_plus, od__law_plus, .func (PySem.W.fnOf "_law_plus" "_law_plus" (C8.fnArgs s__law_plus) (C8.fnBody s__law_plus) (C8.fnScope s__law_plus) .none kV__law_plus dc__law_plus pm__law_plus an__law_plus cd__law_plus ct__law_plus), sl__law_plus⟩)
    (co__law_plus : PySem.W.codeIn K cd__law_plus "_law_plus" = true)
    (k__law_plus : PySem.W.keepIn K (.ref f__law_plus) = true)
    (a__law_back : PySem.W.nsIn K mainGlobals "_law_back" = some (some (.ref f__law_back)))
    (l__law_back : K.lookup f__law_back = some ⟨oc__law_back, od__law_back, .func (PySem.W.fnOf "_law_back" "_law_back" (C8.fnArgs s__law_back) (C8.fnBody s__law_back) (C8.fnScope s__law_back) .none kV__law_back dc__law_back pm__law_back an__law_back cd__law_back ct__law_back), sl__law_back⟩)
    (co__law_back : PySem.W.codeIn K cd__law_back "_law_back" = true)
    (k__law_back : PySem.W.keepIn K (.ref f__law_back) = true)
    (a__law_row : PySem.W.nsIn K mainGlobals "_law_row" = some (some (.ref f__law_row)))
    (l__law_row : K.lookup f__law_row = some ⟨oc__law_row, od__law_row, .func (PySem.W.fnOf "_law_row" "_law_row" (C8.fnArgs s__law_row) (C8.fnBody s__law_row) (C8.fnScope s__law_row) .none kV__law_row dc__law_row pm__law_row an__law_row cd__law_row ct__law_row), sl__law_row⟩)
    (co__law_row : PySem.W.codeIn K cd__law_row "_law_row" = true)
    (k__law_row : PySem.W.keepIn K (.ref f__law_row) = true)
    (a__law_add : PySem.W.nsIn K mainGlobals "_law_add" = some (some (.ref f__law_add)))
    (l__law_add : K.lookup f__law_add = some ⟨oc__law_add, od__law_add, .func (PySem.W.fnOf "_law_add" "_law_add" (C8.fnArgs s__law_add) (C8.fnBody s__law_add) (C8.fnScope s__law_add) .none kV__law_add dc__law_add pm__law_add an__law_add cd__law_add ct__law_add), sl__law_add⟩)
    (co__law_add : PySem.W.codeIn K cd__law_add "_law_add" = true)
    (k__law_add : PySem.W.keepIn K (.ref f__law_add) = true)
    (a__law_scaled : PySem.W.nsIn K mainGlobals "_law_scaled" = some (some (.ref f__law_scaled)))
    (l__law_scaled : K.lookup f__law_scaled = some ⟨oc__law_scaled, od__law_scaled, .func (PySem.W.fnOf "_law_scaled" "_law_scaled" (C8.fnArgs s__law_scaled) (C8.fnBody s__law_scaled) (C8.fnScope s__law_scaled) .none kV__law_scaled dc__law_scaled pm__law_scaled an__law_scaled cd__law_scaled ct__law_scaled), sl__law_scaled⟩)
    (co__law_scaled : PySem.W.codeIn K cd__law_scaled "_law_scaled" = true)
    (k__law_scaled : PySem.W.keepIn K (.ref f__law_scaled) = true)
    (a__law_times : PySem.W.nsIn K mainGlobals "_law_times" = some (some (.ref f__law_times)))
    (l__law_times : K.lookup f__law_times = some ⟨oc__law_times, od__law_times, .func (PySem.W.fnOf "_law_times" "_law_times" (C8.fnArgs s__law_times) (C8.fnBody s__law_times) (C8.fnScope s__law_times) .none kV__law_times dc__law_times pm__law_times an__law_times cd__law_times ct__law_times), sl__law_times⟩)
    (co__law_times : PySem.W.codeIn K cd__law_times "_law_times" = true)
    (k__law_times : PySem.W.keepIn K (.ref f__law_times) = true)
    (a__law_mirror : PySem.W.nsIn K mainGlobals "_law_mirror" = some (some (.ref f__law_mirror)))
    (l__law_mirror : K.lookup f__law_mirror = some ⟨oc__law_mirror, od__law_mirror, .func (PySem.W.fnOf "_law_mirror" "_law_mirror" (C8.fnArgs s__law_mirror) (C8.fnBody s__law_mirror) (C8.fnScope s__law_mirror) .none kV__law_mirror dc__law_mirror pm__law_mirror an__law_mirror cd__law_mirror ct__law_mirror), sl__law_mirror⟩)
    (co__law_mirror : PySem.W.codeIn K cd__law_mirror "_law_mirror" = true)
    (k__law_mirror : PySem.W.keepIn K (.ref f__law_mirror) = true)
    (a__law_moved : PySem.W.nsIn K mainGlobals "_law_moved" = some (some (.ref f__law_moved)))
    (l__law_moved : K.lookup f__law_moved = some ⟨oc__law_moved, od__law_moved, .func (PySem.W.fnOf "_law_moved" "_law_moved" (C8.fnArgs s__law_moved) (C8.fnBody s__law_moved) (C8.fnScope s__law_moved) .none kV__law_moved dc__law_moved pm__law_moved an__law_moved cd__law_moved ct__law_moved), sl__law_moved⟩)
    (co__law_moved : PySem.W.codeIn K cd__law_moved "_law_moved" = true)
    (k__law_moved : PySem.W.keepIn K (.ref f__law_moved) = true)
    (a__law_cross : PySem.W.nsIn K mainGlobals "_law_cross" = some (some (.ref f__law_cross)))
    (l__law_cross : K.lookup f__law_cross = some ⟨oc__law_cross, od__law_cross, .func (PySem.W.fnOf "_law_cross" "_law_cross" (C8.fnArgs s__law_cross) (C8.fnBody s__law_cross) (C8.fnScope s__law_cross) .none kV__law_cross dc__law_cross pm__law_cross an__law_cross cd__law_cross ct__law_cross), sl__law_cross⟩)
    (co__law_cross : PySem.W.codeIn K cd__law_cross "_law_cross" = true)
    (k__law_cross : PySem.W.keepIn K (.ref f__law_cross) = true)
    (a__law_own : PySem.W.nsIn K mainGlobals "_law_own" = some (some (.ref f__law_own)))
    (l__law_own : K.lookup f__law_own = some ⟨oc__law_own, od__law_own, .func (PySem.W.fnOf "_law_own" "_law_own" (C8.fnArgs s__law_own) (C8.fnBody s__law_own) (C8.fnScope s__law_own) .none kV__law_own dc__law_own pm__law_own an__law_own cd__law_own ct__law_own), sl__law_own⟩)
    (co__law_own : PySem.W.codeIn K cd__law_own "_law_own" = true)
    (k__law_own : PySem.W.keepIn K (.ref f__law_own) = true)
    (a__law_corner : PySem.W.nsIn K mainGlobals "_law_corner" = some (some (.ref f__law_corner)))
    (l__law_corner : K.lookup f__law_corner = some ⟨oc__law_corner, od__law_corner, .func (PySem.W.fnOf "_law_corner" "_law_corner" (C8.fnArgs s__law_corner) (C8.fnBody s__law_corner) (C8.fnScope s__law_corner) .none kV__law_corner dc__law_corner pm__law_corner an__law_corner cd__law_corner ct__law_corner), sl__law_corner⟩)
    (co__law_corner : PySem.W.codeIn K cd__law_corner "_law_corner" = true)
    (k__law_corner : PySem.W.keepIn K (.ref f__law_corner) = true)
    (a__law_zero : PySem.W.nsIn K mainGlobals "_law_zero" = some (some (.ref f__law_zero)))
    (l__law_zero : K.lookup f__law_zero = some ⟨oc__law_zero, od__law_zero, .func (PySem.W.fnOf "_law_zero" "_law_zero" (C8.fnArgs s__law_zero) (C8.fnBody s__law_zero) (C8.fnScope s__law_zero) .none kV__law_zero dc__law_zero pm__law_zero an__law_zero cd__law_zero ct__law_zero), sl__law_zero⟩)
    (co__law_zero : PySem.W.codeIn K cd__law_zero "_law_zero" = true)
    (k__law_zero : PySem.W.keepIn K (.ref f__law_zero) = true)
    (a__law_places : PySem.W.nsIn K mainGlobals "_law_places" = some (some (.ref f__law_places)))
    (l__law_places : K.lookup f__law_places = some ⟨oc__law_places, od__law_places, .func (PySem.W.fnOf "_law_places" "_law_places" (C8.fnArgs s__law_places) (C8.fnBody s__law_places) (C8.fnScope s__law_places) .none kV__law_places dc__law_places pm__law_places an__law_places cd__law_places ct__law_places), sl__law_places⟩)
    (co__law_places : PySem.W.codeIn K cd__law_places "_law_places" = true)
    (k__law_places : PySem.W.keepIn K (.ref f__law_places) = true)
    (a__law_drawn : PySem.W.nsIn K mainGlobals "_law_drawn" = some (some (.ref f__law_drawn)))
    (l__law_drawn : K.lookup f__law_drawn = some ⟨oc__law_drawn, od__law_drawn, .func (PySem.W.fnOf "_law_drawn" "_law_drawn" (C8.fnArgs s__law_drawn) (C8.fnBody s__law_drawn) (C8.fnScope s__law_drawn) .none kV__law_drawn dc__law_drawn pm__law_drawn an__law_drawn cd__law_drawn ct__law_drawn), sl__law_drawn⟩)
    (co__law_drawn : PySem.W.codeIn K cd__law_drawn "_law_drawn" = true)
    (k__law_drawn : PySem.W.keepIn K (.ref f__law_drawn) = true)
    (a__law_box : PySem.W.nsIn K mainGlobals "_law_box" = some (some (.ref f__law_box)))
    (l__law_box : K.lookup f__law_box = some ⟨oc__law_box, od__law_box, .func (PySem.W.fnOf "_law_box" "_law_box" (C8.fnArgs s__law_box) (C8.fnBody s__law_box) (C8.fnScope s__law_box) .none kV__law_box dc__law_box pm__law_box an__law_box cd__law_box ct__law_box), sl__law_box⟩)
    (co__law_box : PySem.W.codeIn K cd__law_box "_law_box" = true)
    (k__law_box : PySem.W.keepIn K (.ref f__law_box) = true)
    (a__law_is_error : PySem.W.nsIn K mainGlobals "_law_is_error" = some (some (.ref f__law_is_error)))
    (l__law_is_error : K.lookup f__law_is_error = some ⟨oc__law_is_error, od__law_is_error, .func (PySem.W.fnOf "_law_is_error" "_law_is_error" (C8.fnArgs s__law_is_error) (C8.fnBody s__law_is_error) (C8.fnScope s__law_is_error) .none kV__law_is_error dc__law_is_error pm__law_is_error an__law_is_error cd__law_is_error ct__law_is_error), sl__law_is_error⟩)
    (co__law_is_error : PySem.W.codeIn K cd__law_is_error "_law_is_error" = true)
    (k__law_is_error : PySem.W.keepIn K (.ref f__law_is_error) = true)
    (a__law_words : PySem.W.nsIn K mainGlobals "_law_words" = some (some (.ref f__law_words)))
    (l__law_words : K.lookup f__law_words = some ⟨oc__law_words, od__law_words, .func (PySem.W.fnOf "_law_words" "_law_words" (C8.fnArgs s__law_words) (C8.fnBody s__law_words) (C8.fnScope s__law_words) .none kV__law_words dc__law_words pm__law_words an__law_words cd__law_words ct__law_words), sl__law_words⟩)
    (co__law_words : PySem.W.codeIn K cd__law_words "_law_words" = true)
    (k__law_words : PySem.W.keepIn K (.ref f__law_words) = true)
    (a__law_refuses : PySem.W.nsIn K mainGlobals "_law_refuses" = some (some (.ref f__law_refuses)))
    (l__law_refuses : K.lookup f__law_refuses = some ⟨oc__law_refuses, od__law_refuses, .func (PySem.W.fnOf "_law_refuses" "_law_refuses" (C8.fnArgs s__law_refuses) (C8.fnBody s__law_refuses) (C8.fnScope s__law_refuses) .none kV__law_refuses dc__law_refuses pm__law_refuses an__law_refuses cd__law_refuses ct__law_refuses), sl__law_refuses⟩)
    (co__law_refuses : PySem.W.codeIn K cd__law_refuses "_law_refuses" = true)
    (k__law_refuses : PySem.W.keepIn K (.ref f__law_refuses) = true)
    (a__law_flips : PySem.W.nsIn K mainGlobals "_law_flips" = some (some (.ref f__law_flips)))
    (l__law_flips : K.lookup f__law_flips = some ⟨oc__law_flips, od__law_flips, .func (PySem.W.fnOf "_law_flips" "_law_flips" (C8.fnArgs s__law_flips) (C8.fnBody s__law_flips) (C8.fnScope s__law_flips) .none kV__law_flips dc__law_flips pm__law_flips an__law_flips cd__law_flips ct__law_flips), sl__law_flips⟩)
    (co__law_flips : PySem.W.codeIn K cd__law_flips "_law_flips" = true)
    (k__law_flips : PySem.W.keepIn K (.ref f__law_flips) = true)
    (a__law_widened : PySem.W.nsIn K mainGlobals "_law_widened" = some (some (.ref f__law_widened)))
    (l__law_widened : K.lookup f__law_widened = some ⟨oc__law_widened, od__law_widened, .func (PySem.W.fnOf "_law_widened" "_law_widened" (C8.fnArgs s__law_widened) (C8.fnBody s__law_widened) (C8.fnScope s__law_widened) .none kV__law_widened dc__law_widened pm__law_widened an__law_widened cd__law_widened ct__law_widened), sl__law_widened⟩)
    (co__law_widened : PySem.W.codeIn K cd__law_widened "_law_widened" = true)
    (k__law_widened : PySem.W.keepIn K (.ref f__law_widened) = true)
    (a__law_aside : PySem.W.nsIn K mainGlobals "_law_aside" = some (some (.ref f__law_aside)))
    (l__law_aside : K.lookup f__law_aside = some ⟨oc__law_aside, od__law_aside, .func (PySem.W.fnOf "_law_aside" "_law_aside" (C8.fnArgs s__law_aside) (C8.fnBody s__law_aside) (C8.fnScope s__law_aside) .none kV__law_aside dc__law_aside pm__law_aside an__law_aside cd__law_aside ct__law_aside), sl__law_aside⟩)
    (co__law_aside : PySem.W.codeIn K cd__law_aside "_law_aside" = true)
    (k__law_aside : PySem.W.keepIn K (.ref f__law_aside) = true)
    (a__law_single : PySem.W.nsIn K mainGlobals "_law_single" = some (some (.ref f__law_single)))
    (l__law_single : K.lookup f__law_single = some ⟨oc__law_single, od__law_single, .func (PySem.W.fnOf "_law_single" "_law_single" (C8.fnArgs s__law_single) (C8.fnBody s__law_single) (C8.fnScope s__law_single) .none kV__law_single dc__law_single pm__law_single an__law_single cd__law_single ct__law_single), sl__law_single⟩)
    (co__law_single : PySem.W.codeIn K cd__law_single "_law_single" = true)
    (k__law_single : PySem.W.keepIn K (.ref f__law_single) = true)
    (a__law_near : PySem.W.nsIn K mainGlobals "_law_near" = some (some (.ref f__law_near)))
    (l__law_near : K.lookup f__law_near = some ⟨oc__law_near, od__law_near, .func (PySem.W.fnOf "_law_near" "_law_near" (C8.fnArgs s__law_near) (C8.fnBody s__law_near) (C8.fnScope s__law_near) .none kV__law_near dc__law_near pm__law_near an__law_near cd__law_near ct__law_near), sl__law_near⟩)
    (co__law_near : PySem.W.codeIn K cd__law_near "_law_near" = true)
    (k__law_near : PySem.W.keepIn K (.ref f__law_near) = true)
    (a__law_foreign : PySem.W.nsIn K mainGlobals "_law_foreign" = some (some (.ref f__law_foreign)))
    (l__law_foreign : K.lookup f__law_foreign = some ⟨oc__law_foreign, od__law_foreign, .func (PySem.W.fnOf "_law_foreign" "_law_foreign" (C8.fnArgs s__law_foreign) (C8.fnBody s__law_foreign) (C8.fnScope s__law_foreign) .none kV__law_foreign dc__law_foreign pm__law_foreign an__law_foreign cd__law_foreign ct__law_foreign), sl__law_foreign⟩)
    (co__law_foreign : PySem.W.codeIn K cd__law_foreign "_law_foreign" = true)
    (k__law_foreign : PySem.W.keepIn K (.ref f__law_foreign) = true)
    (a__law_quotient : PySem.W.nsIn K mainGlobals "_law_quotient" = some (some (.ref f__law_quotient)))
    (l__law_quotient : K.lookup f__law_quotient = some ⟨oc__law_quotient, od__law_quotient, .func (PySem.W.fnOf "_law_quotient" "_law_quotient" (C8.fnArgs s__law_quotient) (C8.fnBody s__law_quotient) (C8.fnScope s__law_quotient) .none kV__law_quotient dc__law_quotient pm__law_quotient an__law_quotient cd__law_quotient ct__law_quotient), sl__law_quotient⟩)
    (co__law_quotient : PySem.W.codeIn K cd__law_quotient "_law_quotient" = true)
    (k__law_quotient : PySem.W.keepIn K (.ref f__law_quotient) = true)
    (a__law_by_number : PySem.W.nsIn K mainGlobals "_law_by_number" = some (some (.ref f__law_by_number)))
    (l__law_by_number : K.lookup f__law_by_number = some ⟨oc__law_by_number, od__law_by_number, .func (PySem.W.fnOf "_law_by_number" "_law_by_number" (C8.fnArgs s__law_by_number) (C8.fnBody s__law_by_number) (C8.fnScope s__law_by_number) .none kV__law_by_number dc__law_by_number pm__law_by_number an__law_by_number cd__law_by_number ct__law_by_number), sl__law_by_number⟩)
    (co__law_by_number : PySem.W.codeIn K cd__law_by_number "_law_by_number" = true)
    (k__law_by_number : PySem.W.keepIn K (.ref f__law_by_number) = true)
    (a_law : PySem.W.nsIn K mainGlobals "law" = some (some (.ref f_law)))
    (l_law : K.lookup f_law = some ⟨oc_law, od_law, .func (PySem.W.fnOf "law" "law" (C8.fnArgs s_law) (C8.fnBody s_law) (C8.fnScope s_law) .none kV_law dc_law pm_law an_law cd_law ct_law), sl_law⟩)
    (co_law : PySem.W.codeIn K cd_law "law" = true)
    (k_law : PySem.W.keepIn K (.ref f_law) = true)
    (a_te : PySem.W.findIn K (.ref B) "__init__" = some (some (.ref f_te)))
    (l_te : K.lookup f_te = some ⟨oc_te, od_te, .func (PySem.W.fnOf "__init__" "TableError.__init__" (C8.fnArgs s_TableError___init__) (C8.fnBody s_TableError___init__) (C8.fnScope s_TableError___init__) .none kV_te dc_te pm_te an_te cd_te ct_te), sl_te⟩)
    (co_te : PySem.W.codeIn K cd_te "TableError.__init__" = true)
    (k_te : PySem.W.keepIn K (.ref f_te) = true)
    (a_ie : PySem.W.findIn K (.ref I) "__init__" = some (some (.ref f_ie)))
    (l_ie : K.lookup f_ie = some ⟨oc_ie, od_ie, .func (PySem.W.fnOf "__init__" "IndexedError.__init__" (C8.fnArgs s_IndexedError___init__) (C8.fnBody s_IndexedError___init__) (C8.fnScope s_IndexedError___init__) .none kV_ie dc_ie pm_ie an_ie cd_ie ct_ie), sl_ie⟩)
    (co_ie : PySem.W.codeIn K cd_ie "IndexedError.__init__" = true)
    (k_ie : PySem.W.keepIn K (.ref f_ie) = true)
    (g_B : PySem.W.nsIn K mainGlobals "TableError" = some (some (.ref B)))
    (g_I : PySem.W.nsIn K mainGlobals "IndexedError" = some (some (.ref I)))
    (g_N : PySem.W.nsIn K mainGlobals "NotAFactor" = some (some (.ref N)))
    (g_M : PySem.W.nsIn K mainGlobals "MixedDimensions" = some (some (.ref M)))
    (g_Z : PySem.W.nsIn K mainGlobals "ZeroRow" = some (some (.ref Z)))
    (xl_N : K.lookup N = some (excClassObj nm_N q_N N N_N bs_N bm_N true sn_N sub_N ab_N col_N dd_N m0_N m1_N (some (.str "NotAFactor" tk_N)) m3_N m5_N "ValueError.__new__"))
    (vb_N : PySem.HandSPX.refsVE bm_N = true)
    (sa_N : PySem.W.findIn K (.ref N) "__setattr__" = some (some (.builtin "object.__setattr__")))
    (ex_N : PySem.W.subIn K (.ref N) (.type "BaseException") = some true)
    (ty_N : PySem.W.typeIn K (.ref N) = some (.type "type"))
    (kc_N : PySem.W.keepIn K (.ref N) = true)
    (ga_N : PySem.W.findIn K (.ref N) "__getattribute__" = some (some (.builtin "BaseException.__getattribute__")))
    (gg_N : PySem.W.findIn K (.ref N) "__getattr__" = some none)
    (hd_N : PySem.W.hasDictIn K N = true)
    (ha_N : PySem.W.findIn K (.ref N) "__class__" = some (some (.builtin "object.__class__")))
    (mr_N : PySem.W.mroIn K N (.type "object") = some true)
    (rd_N : PySem.W.readsIn K N (.type "type") = true)
    (fn_N : PySem.W.findCls K (.ref N) (.type "type") "__name__" = some (.get (.builtin "getset_descriptor.__get__") (.builtin "type.__name__") (.ref N) (.type "type")))
    (nw_N : PySem.W.findIn K (.ref N) "word" = some none)
    (ni_N : PySem.W.findIn K (.ref N) "index" = some none)
    (in_N : PySem.W.findIn K (.ref N) "__init__" = some (some (.ref f_ie)))
    (xl_M : K.lookup M = some (excClassObj nm_M q_M M N_M bs_M bm_M true sn_M sub_M ab_M col_M dd_M m0_M m1_M (some (.str "MixedDimensions" tk_M)) m3_M m5_M "ValueError.__new__"))
    (vb_M : PySem.HandSPX.refsVE bm_M = true)
    (sa_M : PySem.W.findIn K (.ref M) "__setattr__" = some (some (.builtin "object.__setattr__")))
    (ex_M : PySem.W.subIn K (.ref M) (.type "BaseException") = some true)
    (ty_M : PySem.W.typeIn K (.ref M) = some (.type "type"))
    (kc_M : PySem.W.keepIn K (.ref M) = true)
    (ga_M : PySem.W.findIn K (.ref M) "__getattribute__" = some (some (.builtin "BaseException.__getattribute__")))
    (gg_M : PySem.W.findIn K (.ref M) "__getattr__" = some none)
    (hd_M : PySem.W.hasDictIn K M = true)
    (ha_M : PySem.W.findIn K (.ref M) "__class__" = some (some (.builtin "object.__class__")))
    (mr_M : PySem.W.mroIn K M (.type "object") = some true)
    (rd_M : PySem.W.readsIn K M (.type "type") = true)
    (fn_M : PySem.W.findCls K (.ref M) (.type "type") "__name__" = some (.get (.builtin "getset_descriptor.__get__") (.builtin "type.__name__") (.ref M) (.type "type")))
    (nw_M : PySem.W.findIn K (.ref M) "word" = some none)
    (ni_M : PySem.W.findIn K (.ref M) "index" = some none)
    (in_M : PySem.W.findIn K (.ref M) "__init__" = some (some (.ref f_te)))
    (xl_Z : K.lookup Z = some (excClassObj nm_Z q_Z Z N_Z bs_Z bm_Z true sn_Z sub_Z ab_Z col_Z dd_Z m0_Z m1_Z (some (.str "ZeroRow" tk_Z)) m3_Z m5_Z "ValueError.__new__"))
    (vb_Z : PySem.HandSPX.refsVE bm_Z = true)
    (sa_Z : PySem.W.findIn K (.ref Z) "__setattr__" = some (some (.builtin "object.__setattr__")))
    (ex_Z : PySem.W.subIn K (.ref Z) (.type "BaseException") = some true)
    (ty_Z : PySem.W.typeIn K (.ref Z) = some (.type "type"))
    (kc_Z : PySem.W.keepIn K (.ref Z) = true)
    (ga_Z : PySem.W.findIn K (.ref Z) "__getattribute__" = some (some (.builtin "BaseException.__getattribute__")))
    (gg_Z : PySem.W.findIn K (.ref Z) "__getattr__" = some none)
    (hd_Z : PySem.W.hasDictIn K Z = true)
    (ha_Z : PySem.W.findIn K (.ref Z) "__class__" = some (some (.builtin "object.__class__")))
    (mr_Z : PySem.W.mroIn K Z (.type "object") = some true)
    (rd_Z : PySem.W.readsIn K Z (.type "type") = true)
    (fn_Z : PySem.W.findCls K (.ref Z) (.type "type") "__name__" = some (.get (.builtin "getset_descriptor.__get__") (.builtin "type.__name__") (.ref Z) (.type "type")))
    (nw_Z : PySem.W.findIn K (.ref Z) "word" = some none)
    (ni_Z : PySem.W.findIn K (.ref Z) "index" = some none)
    (in_Z : PySem.W.findIn K (.ref Z) "__init__" = some (some (.ref f_te)))
    (hn : PySem.W.specialIn K (.builtin "object.__class__") "__get__" = some (some (.builtin "getset_descriptor.__get__")))
    (ht : PySem.W.takesIn K (.builtin "object.__class__") = some true)
    (g_FEW : PySem.W.nsIn K mainGlobals "FEW_PAIRS" = some (some (.int 2000 tk_FEW)))
    (ti_ie : PySem.W.typeIn K (.ref f_ie) = some (.type "function"))
    (ti_te : PySem.W.typeIn K (.ref f_te) = some (.type "function"))
    (rB : PySem.W.readsIn K B (.type "type") = true)
    (sB : PySem.W.specialIn K (.ref B) "__getattribute__" = some (some (.builtin "type.__getattribute__")))
    (fB : PySem.W.findCls K (.ref B) (.type "type") "__init__" = some (.val (.ref f_te)))
    (xM : PySem.W.exmOne K (.ref M) (.ref B) = some true)
    (vM : PySem.W.kitOne K (.ref M) (.type "ValueError") = some true)
    (xN : PySem.W.exmOne K (.ref N) (.ref B) = some true)
    (vN : PySem.W.kitOne K (.ref N) (.type "ValueError") = some true)
    (xZ : PySem.W.exmOne K (.ref Z) (.ref B) = some true)
    (vZ : PySem.W.kitOne K (.ref Z) (.type "ValueError") = some true)
    (k1 : PySem.W.kitOne K (.ref M) (.ref M) = some true)
    (k2 : PySem.W.kitOne K (.ref M) (.ref N) = some false)
    (k3 : PySem.W.kitOne K (.ref M) (.ref Z) = some false)
    (k4 : PySem.W.kitOne K (.ref N) (.ref M) = some false)
    (k5 : PySem.W.kitOne K (.ref N) (.ref N) = some true)
    (k6 : PySem.W.kitOne K (.ref N) (.ref Z) = some false)
    (k7 : PySem.W.kitOne K (.ref Z) (.ref M) = some false)
    (k8 : PySem.W.kitOne K (.ref Z) (.ref N) = some false)
    (k9 : PySem.W.kitOne K (.ref Z) (.ref Z) = some true)
    (hpop : PySem.W.nsIn K mainGlobals "heappop" = some (some (.builtin "_heapq.heappop")))
    (hpush : PySem.W.nsIn K mainGlobals "heappush" = some (some (.builtin "_heapq.heappush")))
    (bM : PySem.W.kitOne K (.ref M) (.ref B) = some true)
    (bN : PySem.W.kitOne K (.ref N) (.ref B) = some true)
    (bZ : PySem.W.kitOne K (.ref Z) (.ref B) = some true) :
    ∃ fd : FuncData, (∀ (s : Shared) (v : Value), BindsTo s fd ⟨[v], []⟩ [("_law_script", v)]) ∧ ∀ base : Heap, K.In base → base.Ns mainGlobals mg → FnOk l.prog w K mg base L2.CX0 10 fa fd ["_law_script"] (spLaw K) := by
  have e := hfa.symm.trans (PySem.W.mg_of X G a_law)
  cases e
  have T : Bi mg := ⟨PySem.W.mg_none_of X G z_len, PySem.W.mg_none_of X G z_int, PySem.W.mg_none_of X G z_str, PySem.W.mg_none_of X G z_bool, PySem.W.mg_none_of X G z_list, PySem.W.mg_none_of X G z_tuple, PySem.W.mg_none_of X G z_range, PySem.W.mg_none_of X G z_enumerate, PySem.W.mg_none_of X G z_isinstance, PySem.W.mg_none_of X G z_sorted, PySem.W.mg_none_of X G z_abs, PySem.W.mg_none_of X G z_any, PySem.W.mg_none_of X G z_all, PySem.W.mg_none_of X G z_sum, PySem.W.mg_none_of X G z_min, PySem.W.mg_none_of X G z_max, PySem.W.mg_none_of X G z_zip, PySem.W.mg_none_of X G z_set⟩
  have D_places_length : C8.Def K mg "places_length" s_places_length f_places_length _ := ⟨⟨⟨_, _, _, _, _, _, _, _, _, _, rfl, l_places_length, co_places_length⟩⟩, PySem.W.mg_of X G a_places_length, k_places_length⟩
  have b_places_length := D_places_length.fn.binds (ps := ["row"]) rfl fun _ _ _ _ _ _ us hl => match us, hl with | [_], _ => rfl
  have D_same_lengths : C8.Def K mg "same_lengths" s_same_lengths f_same_lengths _ := ⟨⟨⟨_, _, _, _, _, _, _, _, _, _, rfl, l_same_lengths, co_same_lengths⟩⟩, PySem.W.mg_of X G a_same_lengths, k_same_lengths⟩
  have b_same_lengths := D_same_lengths.fn.binds (ps := ["lengths"]) rfl fun _ _ _ _ _ _ us hl => match us, hl with | [_], _ => rfl
  have D_same_dimension : C8.Def K mg "same_dimension" s_same_dimension f_same_dimension _ := ⟨⟨⟨_, _, _, _, _, _, _, _, _, _, rfl, l_same_dimension, co_same_dimension⟩⟩, PySem.W.mg_of X G a_same_dimension, k_same_dimension⟩
  have D_bounds : C8.Def K mg "bounds" s_bounds f_bounds _ := ⟨⟨⟨_, _, _, _, _, _, _, _, _, _, rfl, l_bounds, co_bounds⟩⟩, PySem.W.mg_of X G a_bounds, k_bounds⟩
  have b_bounds := D_bounds.fn.binds (ps := ["row"]) rfl fun _ _ _ _ _ _ us hl => match us, hl with | [_], _ => rfl
  have D_product_sizes : C8.Def K mg "product_sizes" s_product_sizes f_product_sizes _ := ⟨⟨⟨_, _, _, _, _, _, _, _, _, _, rfl, l_product_sizes, co_product_sizes⟩⟩, PySem.W.mg_of X G a_product_sizes, k_product_sizes⟩
  have b_product_sizes := D_product_sizes.fn.binds (ps := ["first", "second"]) rfl fun _ _ _ _ _ _ us hl => match us, hl with | [_, _], _ => rfl
  have D_longest : C8.Def K mg "longest" s_longest f_longest _ := ⟨⟨⟨_, _, _, _, _, _, _, _, _, _, rfl, l_longest, co_longest⟩⟩, PySem.W.mg_of X G a_longest, k_longest⟩
  have b_longest := D_longest.fn.binds (ps := ["row"]) rfl fun _ _ _ _ _ _ us hl => match us, hl with | [_], _ => rfl
  have D_digit_bits : C8.Def K mg "digit_bits" s_digit_bits f_digit_bits _ := ⟨⟨⟨_, _, _, _, _, _, _, _, _, _, rfl, l_digit_bits, co_digit_bits⟩⟩, PySem.W.mg_of X G a_digit_bits, k_digit_bits⟩
  have b_digit_bits := D_digit_bits.fn.binds (ps := ["first", "second"]) rfl fun _ _ _ _ _ _ us hl => match us, hl with | [_, _], _ => rfl
  have D_is_crowded : C8.Def K mg "is_crowded" s_is_crowded f_is_crowded _ := ⟨⟨⟨_, _, _, _, _, _, _, _, _, _, rfl, l_is_crowded, co_is_crowded⟩⟩, PySem.W.mg_of X G a_is_crowded, k_is_crowded⟩
  have b_is_crowded := D_is_crowded.fn.binds (ps := ["first", "second"]) rfl fun _ _ _ _ _ _ us hl => match us, hl with | [_, _], _ => rfl
  have D_digit_at : C8.Def K mg "digit_at" s_digit_at f_digit_at _ := ⟨⟨⟨_, _, _, _, _, _, _, _, _, _, rfl, l_digit_at, co_digit_at⟩⟩, PySem.W.mg_of X G a_digit_at, k_digit_at⟩
  have b_digit_at := D_digit_at.fn.binds (ps := ["place", "lows", "sizes"]) rfl fun _ _ _ _ _ _ us hl => match us, hl with | [_, _, _], _ => rfl
  have D_place_at : C8.Def K mg "place_at" s_place_at f_place_at _ := ⟨⟨⟨_, _, _, _, _, _, _, _, _, _, rfl, l_place_at, co_place_at⟩⟩, PySem.W.mg_of X G a_place_at, k_place_at⟩
  have b_place_at := D_place_at.fn.binds (ps := ["index", "lows", "sizes"]) rfl fun _ _ _ _ _ _ us hl => match us, hl with | [_, _, _], _ => rfl
  have D_joined_digits : C8.Def K mg "joined_digits" s_joined_digits f_joined_digits _ := ⟨⟨⟨_, _, _, _, _, _, _, _, _, _, rfl, l_joined_digits, co_joined_digits⟩⟩, PySem.W.mg_of X G a_joined_digits, k_joined_digits⟩
  have b_joined_digits := D_joined_digits.fn.binds (ps := ["digits", "bits"]) rfl fun _ _ _ _ _ _ us hl => match us, hl with | [_, _], _ => rfl
  have D_low_digit : C8.Def K mg "low_digit" s_low_digit f_low_digit _ := ⟨⟨⟨_, _, _, _, _, _, _, _, _, _, rfl, l_low_digit, co_low_digit⟩⟩, PySem.W.mg_of X G a_low_digit, k_low_digit⟩
  have b_low_digit := D_low_digit.fn.binds (ps := ["number", "bits"]) rfl fun _ _ _ _ _ _ us hl => match us, hl with | [_, _], _ => rfl
  have D_split_digits : C8.Def K mg "split_digits" s_split_digits f_split_digits _ := ⟨⟨⟨_, _, _, _, _, _, _, _, _, _, rfl, l_split_digits, co_split_digits⟩⟩, PySem.W.mg_of X G a_split_digits, k_split_digits⟩
  have b_split_digits := D_split_digits.fn.binds (ps := ["number", "bits", "many"]) rfl fun _ _ _ _ _ _ us hl => match us, hl with | [_, _, _], _ => rfl
  have D_great_integer : C8.Def K mg "great_integer" s_great_integer f_great_integer _ := ⟨⟨⟨_, _, _, _, _, _, _, _, _, _, rfl, l_great_integer, co_great_integer⟩⟩, PySem.W.mg_of X G a_great_integer, k_great_integer⟩
  have b_great_integer := D_great_integer.fn.binds (ps := ["row", "sizes", "bits"]) rfl fun _ _ _ _ _ _ us hl => match us, hl with | [_, _, _], _ => rfl
  have D_crowded_product : C8.Def K mg "crowded_product" s_crowded_product f_crowded_product _ := ⟨⟨⟨_, _, _, _, _, _, _, _, _, _, rfl, l_crowded_product, co_crowded_product⟩⟩, PySem.W.mg_of X G a_crowded_product, k_crowded_product⟩
  have b_crowded_product := D_crowded_product.fn.binds (ps := ["first", "second"]) rfl fun _ _ _ _ _ _ us hl => match us, hl with | [_, _], _ => rfl
  have D_reach : C8.Def K mg "reach" s_reach f_reach _ := ⟨⟨⟨_, _, _, _, _, _, _, _, _, _, rfl, l_reach, co_reach⟩⟩, PySem.W.mg_of X G a_reach, k_reach⟩
  have b_reach := D_reach.fn.binds (ps := ["row"]) rfl fun _ _ _ _ _ _ us hl => match us, hl with | [_], _ => rfl
  have D_key_base : C8.Def K mg "key_base" s_key_base f_key_base _ := ⟨⟨⟨_, _, _, _, _, _, _, _, _, _, rfl, l_key_base, co_key_base⟩⟩, PySem.W.mg_of X G a_key_base, k_key_base⟩
  have b_key_base := D_key_base.fn.binds (ps := ["first", "second"]) rfl fun _ _ _ _ _ _ us hl => match us, hl with | [_, _], _ => rfl
  have D_key_of : C8.Def K mg "key_of" s_key_of f_key_of _ := ⟨⟨⟨_, _, _, _, _, _, _, _, _, _, rfl, l_key_of, co_key_of⟩⟩, PySem.W.mg_of X G a_key_of, k_key_of⟩
  have b_key_of := D_key_of.fn.binds (ps := ["place", "base"]) rfl fun _ _ _ _ _ _ us hl => match us, hl with | [_, _], _ => rfl
  have D_place_of : C8.Def K mg "place_of" s_place_of f_place_of _ := ⟨⟨⟨_, _, _, _, _, _, _, _, _, _, rfl, l_place_of, co_place_of⟩⟩, PySem.W.mg_of X G a_place_of, k_place_of⟩
  have b_place_of := D_place_of.fn.binds (ps := ["key", "base", "length"]) rfl fun _ _ _ _ _ _ us hl => match us, hl with | [_, _, _], _ => rfl
  have D_keyed : C8.Def K mg "keyed" s_keyed f_keyed _ := ⟨⟨⟨_, _, _, _, _, _, _, _, _, _, rfl, l_keyed, co_keyed⟩⟩, PySem.W.mg_of X G a_keyed, k_keyed⟩
  have b_keyed := D_keyed.fn.binds (ps := ["row", "base"]) rfl fun _ _ _ _ _ _ us hl => match us, hl with | [_, _], _ => rfl
  have D_unkeyed : C8.Def K mg "unkeyed" s_unkeyed f_unkeyed _ := ⟨⟨⟨_, _, _, _, _, _, _, _, _, _, rfl, l_unkeyed, co_unkeyed⟩⟩, PySem.W.mg_of X G a_unkeyed, k_unkeyed⟩
  have b_unkeyed := D_unkeyed.fn.binds (ps := ["numbers", "base", "length"]) rfl fun _ _ _ _ _ _ us hl => match us, hl with | [_, _, _], _ => rfl
  have D_multiply : C8.Def K mg "multiply" s_multiply f_multiply _ := ⟨⟨⟨_, _, _, _, _, _, _, _, _, _, rfl, l_multiply, co_multiply⟩⟩, PySem.W.mg_of X G a_multiply, k_multiply⟩
  have b_multiply := D_multiply.fn.binds (ps := ["first", "second"]) rfl fun _ _ _ _ _ _ us hl => match us, hl with | [_, _], _ => rfl
  have D_mirror : C8.Def K mg "mirror" s_mirror f_mirror _ := ⟨⟨⟨_, _, _, _, _, _, _, _, _, _, rfl, l_mirror, co_mirror⟩⟩, PySem.W.mg_of X G a_mirror, k_mirror⟩
  have b_mirror := D_mirror.fn.binds (ps := ["row"]) rfl fun _ _ _ _ _ _ us hl => match us, hl with | [_], _ => rfl
  have D_quotient_box : C8.Def K mg "quotient_box" s_quotient_box f_quotient_box _ := ⟨⟨⟨_, _, _, _, _, _, _, _, _, _, rfl, l_quotient_box, co_quotient_box⟩⟩, PySem.W.mg_of X G a_quotient_box, k_quotient_box⟩
  have b_quotient_box := D_quotient_box.fn.binds (ps := ["row", "factor"]) rfl fun _ _ _ _ _ _ us hl => match us, hl with | [_, _], _ => rfl
  have D_inside : C8.Def K mg "inside" s_inside f_inside _ := ⟨⟨⟨_, _, _, _, _, _, _, _, _, _, rfl, l_inside, co_inside⟩⟩, PySem.W.mg_of X G a_inside, k_inside⟩
  have b_inside := D_inside.fn.binds (ps := ["place", "box"]) rfl fun _ _ _ _ _ _ us hl => match us, hl with | [_, _], _ => rfl
  have D_divide : C8.Def K mg "divide" s_divide f_divide _ := ⟨⟨⟨_, _, _, _, _, _, _, _, _, _, rfl, l_divide, co_divide⟩⟩, PySem.W.mg_of X G a_divide, k_divide⟩
  have b_divide := D_divide.fn.binds (ps := ["row", "factor"]) rfl fun _ _ _ _ _ _ us hl => match us, hl with | [_, _], _ => rfl
  have D_quotient : C8.Def K mg "quotient" s_quotient f_quotient _ := ⟨⟨⟨_, _, _, _, _, _, _, _, _, _, rfl, l_quotient, co_quotient⟩⟩, PySem.W.mg_of X G a_quotient, k_quotient⟩
  have b_quotient := D_quotient.fn.binds (ps := ["row", "factor"]) rfl fun _ _ _ _ _ _ us hl => match us, hl with | [_, _], _ => rfl
  have D_flip : C8.Def K mg "flip" s_flip f_flip _ := ⟨⟨⟨_, _, _, _, _, _, _, _, _, _, rfl, l_flip, co_flip⟩⟩, PySem.W.mg_of X G a_flip, k_flip⟩
  have b_flip := D_flip.fn.binds (ps := ["row", "factor"]) rfl fun _ _ _ _ _ _ us hl => match us, hl with | [_, _], _ => rfl
  have D__law_cell : C8.Def K mg "_law_cell" s__law_cell f__law_cell _ := ⟨⟨⟨_, _, _, _, _, _, _, _, _, _, rfl, l__law_cell, co__law_cell⟩⟩, PySem.W.mg_of X G a__law_cell, k__law_cell⟩
  have b__law_cell := D__law_cell.fn.binds (ps := ["_law_script", "_law_k"]) rfl fun _ _ _ _ _ _ us hl => match us, hl with | [_, _], _ => rfl
  have D__law_draws : C8.Def K mg "_law_draws" s__law_draws f__law_draws _ := ⟨⟨⟨_, _, _, _, _, _, _, _, _, _, rfl, l__law_draws, co__law_draws⟩⟩, PySem.W.mg_of X G a__law_draws, k__law_draws⟩
  have b__law_draws := D__law_draws.fn.binds (ps := ["_law_cell_here", "_law_sizes"]) rfl fun _ _ _ _ _ _ us hl => match us, hl with | [_, _], _ => rfl
  have D__law_is_integer : C8.Def K mg "_law_is_integer" s__law_is_integer f__law_is_integer _ := ⟨⟨⟨_, _, _, _, _, _, _, _, _, _, rfl, l__law_is_integer, co__law_is_integer⟩⟩, PySem.W.mg_of X G a__law_is_integer, k__law_is_integer⟩
  have b__law_is_integer := D__law_is_integer.fn.binds (ps := ["_law_actual"]) rfl fun _ _ _ _ _ _ us hl => match us, hl with | [_], _ => rfl
  have D__law_is_place : C8.Def K mg "_law_is_place" s__law_is_place f__law_is_place _ := ⟨⟨⟨_, _, _, _, _, _, _, _, _, _, rfl, l__law_is_place, co__law_is_place⟩⟩, PySem.W.mg_of X G a__law_is_place, k__law_is_place⟩
  have b__law_is_place := D__law_is_place.fn.binds (ps := ["_law_actual"]) rfl fun _ _ _ _ _ _ us hl => match us, hl with | [_], _ => rfl
  have D__law_is_row : C8.Def K mg "_law_is_row" s__law_is_row f__law_is_row _ := ⟨⟨⟨_, _, _, _, _, _, _, _, _, _, rfl, l__law_is_row, co__law_is_row⟩⟩, PySem.W.mg_of X G a__law_is_row, k__law_is_row⟩
  have b__law_is_row := D__law_is_row.fn.binds (ps := ["_law_actual"]) rfl fun _ _ _ _ _ _ us hl => match us, hl with | [_], _ => rfl
  have D__law_same : C8.Def K mg "_law_same" s__law_same f__law_same _ := ⟨⟨⟨_, _, _, _, _, _, _, _, _, _, rfl, l__law_same, co__law_same⟩⟩, PySem.W.mg_of X G a__law_same, k__law_same⟩
  have b__law_same := D__law_same.fn.binds (ps := ["_law_actual", "_law_expected"]) rfl fun _ _ _ _ _ _ us hl => match us, hl with | [_, _], _ => rfl
  have D__law_plus : C8.Def K mg "_law_plus" s__law_plus f__law_plus _ := ⟨⟨⟨_, _, _, _, _, _, _, _, _, _, rfl, l__law_plus, co__law_plus⟩⟩, PySem.W.mg_of X G a__law_plus, k__law_plus⟩
  have b__law_plus := D__law_plus.fn.binds (ps := ["_law_place", "_law_other"]) rfl fun _ _ _ _ _ _ us hl => match us, hl with | [_, _], _ => rfl
  have D__law_back : C8.Def K mg "_law_back" s__law_back f__law_back _ := ⟨⟨⟨_, _, _, _, _, _, _, _, _, _, rfl, l__law_back, co__law_back⟩⟩, PySem.W.mg_of X G a__law_back, k__law_back⟩
  have b__law_back := D__law_back.fn.binds (ps := ["_law_place"]) rfl fun _ _ _ _ _ _ us hl => match us, hl with | [_], _ => rfl
  have D__law_row : C8.Def K mg "_law_row" s__law_row f__law_row _ := ⟨⟨⟨_, _, _, _, _, _, _, _, _, _, rfl, l__law_row, co__law_row⟩⟩, PySem.W.mg_of X G a__law_row, k__law_row⟩
  have b__law_row := D__law_row.fn.binds (ps := ["_law_pairs"]) rfl fun _ _ _ _ _ _ us hl => match us, hl with | [_], _ => rfl
  have D__law_add : C8.Def K mg "_law_add" s__law_add f__law_add _ := ⟨⟨⟨_, _, _, _, _, _, _, _, _, _, rfl, l__law_add, co__law_add⟩⟩, PySem.W.mg_of X G a__law_add, k__law_add⟩
  have b__law_add := D__law_add.fn.binds (ps := ["_law_first", "_law_second"]) rfl fun _ _ _ _ _ _ us hl => match us, hl with | [_, _], _ => rfl
  have D__law_scaled : C8.Def K mg "_law_scaled" s__law_scaled f__law_scaled _ := ⟨⟨⟨_, _, _, _, _, _, _, _, _, _, rfl, l__law_scaled, co__law_scaled⟩⟩, PySem.W.mg_of X G a__law_scaled, k__law_scaled⟩
  have b__law_scaled := D__law_scaled.fn.binds (ps := ["_law_row_here", "_law_factor"]) rfl fun _ _ _ _ _ _ us hl => match us, hl with | [_, _], _ => rfl
  have D__law_times : C8.Def K mg "_law_times" s__law_times f__law_times _ := ⟨⟨⟨_, _, _, _, _, _, _, _, _, _, rfl, l__law_times, co__law_times⟩⟩, PySem.W.mg_of X G a__law_times, k__law_times⟩
  have b__law_times := D__law_times.fn.binds (ps := ["_law_first", "_law_second"]) rfl fun _ _ _ _ _ _ us hl => match us, hl with | [_, _], _ => rfl
  have D__law_mirror : C8.Def K mg "_law_mirror" s__law_mirror f__law_mirror _ := ⟨⟨⟨_, _, _, _, _, _, _, _, _, _, rfl, l__law_mirror, co__law_mirror⟩⟩, PySem.W.mg_of X G a__law_mirror, k__law_mirror⟩
  have b__law_mirror := D__law_mirror.fn.binds (ps := ["_law_row_here"]) rfl fun _ _ _ _ _ _ us hl => match us, hl with | [_], _ => rfl
  have D__law_moved : C8.Def K mg "_law_moved" s__law_moved f__law_moved _ := ⟨⟨⟨_, _, _, _, _, _, _, _, _, _, rfl, l__law_moved, co__law_moved⟩⟩, PySem.W.mg_of X G a__law_moved, k__law_moved⟩
  have b__law_moved := D__law_moved.fn.binds (ps := ["_law_row_here", "_law_by"]) rfl fun _ _ _ _ _ _ us hl => match us, hl with | [_, _], _ => rfl
  have D__law_cross : C8.Def K mg "_law_cross" s__law_cross f__law_cross _ := ⟨⟨⟨_, _, _, _, _, _, _, _, _, _, rfl, l__law_cross, co__law_cross⟩⟩, PySem.W.mg_of X G a__law_cross, k__law_cross⟩
  have b__law_cross := D__law_cross.fn.binds (ps := ["_law_first", "_law_second"]) rfl fun _ _ _ _ _ _ us hl => match us, hl with | [_, _], _ => rfl
  have D__law_own : C8.Def K mg "_law_own" s__law_own f__law_own _ := ⟨⟨⟨_, _, _, _, _, _, _, _, _, _, rfl, l__law_own, co__law_own⟩⟩, PySem.W.mg_of X G a__law_own, k__law_own⟩
  have b__law_own := D__law_own.fn.binds (ps := ["_law_row_here"]) rfl fun _ _ _ _ _ _ us hl => match us, hl with | [_], _ => rfl
  have D__law_corner : C8.Def K mg "_law_corner" s__law_corner f__law_corner _ := ⟨⟨⟨_, _, _, _, _, _, _, _, _, _, rfl, l__law_corner, co__law_corner⟩⟩, PySem.W.mg_of X G a__law_corner, k__law_corner⟩
  have b__law_corner := D__law_corner.fn.binds (ps := ["_law_row_here"]) rfl fun _ _ _ _ _ _ us hl => match us, hl with | [_], _ => rfl
  have D__law_zero : C8.Def K mg "_law_zero" s__law_zero f__law_zero _ := ⟨⟨⟨_, _, _, _, _, _, _, _, _, _, rfl, l__law_zero, co__law_zero⟩⟩, PySem.W.mg_of X G a__law_zero, k__law_zero⟩
  have b__law_zero := D__law_zero.fn.binds (ps := ["_law_count"]) rfl fun _ _ _ _ _ _ us hl => match us, hl with | [_], _ => rfl
  have D__law_places : C8.Def K mg "_law_places" s__law_places f__law_places _ := ⟨⟨⟨_, _, _, _, _, _, _, _, _, _, rfl, l__law_places, co__law_places⟩⟩, PySem.W.mg_of X G a__law_places, k__law_places⟩
  have b__law_places := D__law_places.fn.binds (ps := ["_law_box_here"]) rfl fun _ _ _ _ _ _ us hl => match us, hl with | [_], _ => rfl
  have D__law_drawn : C8.Def K mg "_law_drawn" s__law_drawn f__law_drawn _ := ⟨⟨⟨_, _, _, _, _, _, _, _, _, _, rfl, l__law_drawn, co__law_drawn⟩⟩, PySem.W.mg_of X G a__law_drawn, k__law_drawn⟩
  have b__law_drawn := D__law_drawn.fn.binds (ps := ["_law_cell_here", "_law_box_here", "_law_reach", "_law_moves"]) rfl fun _ _ _ _ _ _ us hl => match us, hl with | [_, _, _, _], _ => rfl
  have D__law_box : C8.Def K mg "_law_box" s__law_box f__law_box _ := ⟨⟨⟨_, _, _, _, _, _, _, _, _, _, rfl, l__law_box, co__law_box⟩⟩, PySem.W.mg_of X G a__law_box, k__law_box⟩
  have b__law_box := D__law_box.fn.binds (ps := ["_law_kind", "_law_wide"]) rfl fun _ _ _ _ _ _ us hl => match us, hl with | [_, _], _ => rfl
  have D__law_is_error : C8.Def K mg "_law_is_error" s__law_is_error f__law_is_error _ := ⟨⟨⟨_, _, _, _, _, _, _, _, _, _, rfl, l__law_is_error, co__law_is_error⟩⟩, PySem.W.mg_of X G a__law_is_error, k__law_is_error⟩
  have b__law_is_error := D__law_is_error.fn.binds (ps := ["_law_e", "_law_word"]) rfl fun _ _ _ _ _ _ us hl => match us, hl with | [_, _], _ => rfl
  have D__law_words : C8.Def K mg "_law_words" s__law_words f__law_words _ := ⟨⟨⟨_, _, _, _, _, _, _, _, _, _, rfl, l__law_words, co__law_words⟩⟩, PySem.W.mg_of X G a__law_words, k__law_words⟩
  have b__law_words := D__law_words.fn.binds (ps := ["_law_e"]) rfl fun _ _ _ _ _ _ us hl => match us, hl with | [_], _ => rfl
  have D__law_refuses : C8.Def K mg "_law_refuses" s__law_refuses f__law_refuses _ := ⟨⟨⟨_, _, _, _, _, _, _, _, _, _, rfl, l__law_refuses, co__law_refuses⟩⟩, PySem.W.mg_of X G a__law_refuses, k__law_refuses⟩
  have b__law_refuses := D__law_refuses.fn.binds (ps := ["_law_row_here", "_law_factor", "_law_word"]) rfl fun _ _ _ _ _ _ us hl => match us, hl with | [_, _, _], _ => rfl
  have D__law_flips : C8.Def K mg "_law_flips" s__law_flips f__law_flips _ := ⟨⟨⟨_, _, _, _, _, _, _, _, _, _, rfl, l__law_flips, co__law_flips⟩⟩, PySem.W.mg_of X G a__law_flips, k__law_flips⟩
  have b__law_flips := D__law_flips.fn.binds (ps := ["_law_row_here", "_law_factor", "_law_expected"]) rfl fun _ _ _ _ _ _ us hl => match us, hl with | [_, _, _], _ => rfl
  have D__law_widened : C8.Def K mg "_law_widened" s__law_widened f__law_widened _ := ⟨⟨⟨_, _, _, _, _, _, _, _, _, _, rfl, l__law_widened, co__law_widened⟩⟩, PySem.W.mg_of X G a__law_widened, k__law_widened⟩
  have b__law_widened := D__law_widened.fn.binds (ps := ["_law_row_here", "_law_draw", "_law_count"]) rfl fun _ _ _ _ _ _ us hl => match us, hl with | [_, _, _], _ => rfl
  have D__law_aside : C8.Def K mg "_law_aside" s__law_aside f__law_aside _ := ⟨⟨⟨_, _, _, _, _, _, _, _, _, _, rfl, l__law_aside, co__law_aside⟩⟩, PySem.W.mg_of X G a__law_aside, k__law_aside⟩
  have b__law_aside := D__law_aside.fn.binds (ps := ["_law_far", "_law_count"]) rfl fun _ _ _ _ _ _ us hl => match us, hl with | [_, _], _ => rfl
  have D__law_single : C8.Def K mg "_law_single" s__law_single f__law_single _ := ⟨⟨⟨_, _, _, _, _, _, _, _, _, _, rfl, l__law_single, co__law_single⟩⟩, PySem.W.mg_of X G a__law_single, k__law_single⟩
  have b__law_single := D__law_single.fn.binds (ps := ["_law_cell_here", "_law_count"]) rfl fun _ _ _ _ _ _ us hl => match us, hl with | [_, _], _ => rfl
  have D__law_near : C8.Def K mg "_law_near" s__law_near f__law_near _ := ⟨⟨⟨_, _, _, _, _, _, _, _, _, _, rfl, l__law_near, co__law_near⟩⟩, PySem.W.mg_of X G a__law_near, k__law_near⟩
  have b__law_near := D__law_near.fn.binds (ps := ["_law_cell_here", "_law_row_here", "_law_count"]) rfl fun _ _ _ _ _ _ us hl => match us, hl with | [_, _, _], _ => rfl
  have D__law_foreign : C8.Def K mg "_law_foreign" s__law_foreign f__law_foreign _ := ⟨⟨⟨_, _, _, _, _, _, _, _, _, _, rfl, l__law_foreign, co__law_foreign⟩⟩, PySem.W.mg_of X G a__law_foreign, k__law_foreign⟩
  have b__law_foreign := D__law_foreign.fn.binds (ps := ["_law_cell_here", "_law_count"]) rfl fun _ _ _ _ _ _ us hl => match us, hl with | [_, _], _ => rfl
  have D__law_quotient : C8.Def K mg "_law_quotient" s__law_quotient f__law_quotient _ := ⟨⟨⟨_, _, _, _, _, _, _, _, _, _, rfl, l__law_quotient, co__law_quotient⟩⟩, PySem.W.mg_of X G a__law_quotient, k__law_quotient⟩
  have b__law_quotient := D__law_quotient.fn.binds (ps := ["_law_factor", "_law_rest", "_law_extra", "_law_place"]) rfl fun _ _ _ _ _ _ us hl => match us, hl with | [_, _, _, _], _ => rfl
  have D__law_by_number : C8.Def K mg "_law_by_number" s__law_by_number f__law_by_number _ := ⟨⟨⟨_, _, _, _, _, _, _, _, _, _, rfl, l__law_by_number, co__law_by_number⟩⟩, PySem.W.mg_of X G a__law_by_number, k__law_by_number⟩
  have b__law_by_number := D__law_by_number.fn.binds (ps := ["_law_product", "_law_factor", "_law_rest", "_law_times_here"]) rfl fun _ _ _ _ _ _ us hl => match us, hl with | [_, _, _, _], _ => rfl
  have D_law : C8.Def K mg "law" s_law fa _ := ⟨⟨⟨_, _, _, _, _, _, _, _, _, _, rfl, l_law, co_law⟩⟩, hfa, k_law⟩
  have b_law := D_law.fn.binds (ps := ["_law_script"]) rfl fun _ _ _ _ _ _ us hl => match us, hl with | [_], _ => rfl
  have D_te : C8.Fun K "__init__" "TableError.__init__" s_TableError___init__ f_te _ := ⟨⟨_, _, _, _, _, _, _, _, _, _, rfl, l_te, co_te⟩⟩
  have b_te := D_te.binds (ps := ["self"]) rfl fun _ _ _ _ _ _ us hl => match us, hl with | [_], _ => rfl
  have D_ie : C8.Fun K "__init__" "IndexedError.__init__" s_IndexedError___init__ f_ie _ := ⟨⟨_, _, _, _, _, _, _, _, _, _, rfl, l_ie, co_ie⟩⟩
  have b_ie := D_ie.binds (ps := ["self", "index"]) rfl fun _ _ _ _ _ _ us hl => match us, hl with | [_, _], _ => rfl
  have oc_N : PySem.W.OtCls K N := ⟨ga_N, gg_N, ex_N, hd_N, ha_N, hn, ht, mr_N⟩
  have er_N : OtErr K N "NotAFactor" := ⟨⟨⟨_, _, _, _, _, _, _, _, _, _, _, _, _, _, _, xl_N, vb_N⟩, sa_N, ex_N, ty_N, kc_N⟩, oc_N, ⟨⟨_, _, _, _, _, xl_N, rfl⟩, rd_N, ty_N, fn_N⟩, nw_N, ni_N⟩
  have ei_N : ErrI K mg "NotAFactor" N f_ie := ⟨PySem.W.mg_of X G g_N, er_N, in_N, ti_ie⟩
  have oc_M : PySem.W.OtCls K M := ⟨ga_M, gg_M, ex_M, hd_M, ha_M, hn, ht, mr_M⟩
  have er_M : OtErr K M "MixedDimensions" := ⟨⟨⟨_, _, _, _, _, _, _, _, _, _, _, _, _, _, _, xl_M, vb_M⟩, sa_M, ex_M, ty_M, kc_M⟩, oc_M, ⟨⟨_, _, _, _, _, xl_M, rfl⟩, rd_M, ty_M, fn_M⟩, nw_M, ni_M⟩
  have ei_M : ErrI K mg "MixedDimensions" M f_te := ⟨PySem.W.mg_of X G g_M, er_M, in_M, ti_te⟩
  have oc_Z : PySem.W.OtCls K Z := ⟨ga_Z, gg_Z, ex_Z, hd_Z, ha_Z, hn, ht, mr_Z⟩
  have er_Z : OtErr K Z "ZeroRow" := ⟨⟨⟨_, _, _, _, _, _, _, _, _, _, _, _, _, _, _, xl_Z, vb_Z⟩, sa_Z, ex_Z, ty_Z, kc_Z⟩, oc_Z, ⟨⟨_, _, _, _, _, xl_Z, rfl⟩, rd_Z, ty_Z, fn_Z⟩, nw_Z, ni_Z⟩
  have ei_Z : ErrI K mg "ZeroRow" Z f_te := ⟨PySem.W.mg_of X G g_Z, er_Z, in_Z, ti_te⟩
  refine ⟨PySem.W.fnOf "law" "law" (C8.fnArgs s_law) (C8.fnBody s_law) (C8.fnScope s_law) .none kV_law dc_law pm_law an_law cd_law ct_law, fun s v => .of_eq rfl, fun base _ _ => ?_⟩
  have FD : FunD K "same_dimension" "same_dimension" (C8.fnArgs s_same_dimension) (C8.fnBody s_same_dimension) (C8.fnScope s_same_dimension) [V.ref A0_same_dimension] [] f_same_dimension _ := ⟨⟨_, _, _, _, _, _, _, _, _, _, rfl, l_same_dimension, co_same_dimension, .inr ⟨by simp, TD_same_dimension, _, [.ref A0_same_dimension], _, rfl, lt_same_dimension, rfl, .cons rfl .nil⟩, .inl rfl⟩, k_same_dimension⟩
  obtain ⟨ds1, vd1, bD1⟩ := FD.binds1 (ps := ["rows", "places"]) 1 0 (by simp) rfl fun T kV doc pm an cdv ct us its h1 h2 => match us, its, h1, h2 with | [_], [_], _, _ => ⟨_, rfl, rfl⟩
  have hA0 : ∀ H, SqT K H A0_same_dimension [] := fun H => .inr (⟨_, _, _, lu_same_dimension, rfl, rfl, Nat.zero_le _, .nil⟩)
  have GT : FnOk l.prog w K mg base L2.CX0 1 f_te _ ["self"] (spTE K) := ok_te D_te
  have RB : OtRead K B "__init__" f_te := ⟨rB, sB, fB, k_te⟩
  have GI := ok_ie D_ie GT b_te RB (PySem.W.mg_of X G g_B)
  have gB := PySem.W.mg_of X G g_B
  have gN := PySem.W.mg_of X G g_N
  have gM := PySem.W.mg_of X G g_M
  have gZ := PySem.W.mg_of X G g_Z
  have c1 := c__law_cell (P := l.prog) (w := w) (base := base) D__law_cell b__law_cell T
  have c2 : C8.Cal l.prog w K mg base 1 "_law_draws" (spDraws K) [] := c__law_draws D__law_draws b__law_draws T
  have c3 := c__law_is_integer (P := l.prog) (w := w) (base := base) D__law_is_integer b__law_is_integer T
  have c4 := c__law_is_place D__law_is_place b__law_is_place T c3
  have c5 := c__law_is_row D__law_is_row b__law_is_row T c4 c3
  have c6 := c__law_same D__law_same b__law_same T c5
  have c7 := c__law_back (P := l.prog) (w := w) (base := base) D__law_back b__law_back T
  have c8 := c__law_row (P := l.prog) (w := w) (base := base) D__law_row b__law_row T
  have c9 := c__law_plus (P := l.prog) (w := w) (base := base) D__law_plus b__law_plus T
  have c10 := c__law_places (P := l.prog) (w := w) (base := base) D__law_places b__law_places T
  have c11 := c__law_box (P := l.prog) (w := w) (base := base) D__law_box b__law_box T
  have c12 := c__law_moved D__law_moved b__law_moved T c9
  have c13 := c__law_drawn D__law_drawn b__law_drawn T c10 c2 c8 c12
  have c14 := c__law_add D__law_add b__law_add T c8
  have c15 := c__law_scaled D__law_scaled b__law_scaled T c8
  have c16 := c__law_times D__law_times b__law_times T c9 c8
  have c17 := c__law_corner (P := l.prog) (w := w) (base := base) D__law_corner b__law_corner T
  have c19 := c__law_zero (P := l.prog) (w := w) (base := base) D__law_zero b__law_zero T
  have d1 := c_places_length (P := l.prog) (w := w) (base := base) D_places_length b_places_length T
  have d2 := c_bounds (P := l.prog) (w := w) (base := base) D_bounds b_bounds T
  have d3 := c_reach (P := l.prog) (w := w) (base := base) D_reach b_reach T
  have d4 := c_key_base D_key_base b_key_base T d3
  have d5 := c_key_of (P := l.prog) (w := w) (base := base) D_key_of b_key_of T
  have d6 := c_place_of (P := l.prog) (w := w) (base := base) D_place_of b_place_of T
  have d7 := c_keyed D_keyed b_keyed T d5
  have d8 := c_unkeyed D_unkeyed b_unkeyed T d6
  have d9 := c_quotient_box D_quotient_box b_quotient_box T d2
  have d10 := c_inside (P := l.prog) (w := w) (base := base) D_inside b_inside T
  have d11 := c_divide D_divide b_divide T (PySem.W.mg_of X G hpop) (PySem.W.mg_of X G hpush) d1 d4 d9 d7 d8 d10 d6
  have GS := ok_same_lengths D_same_lengths T ei_M GT b_te
  have GDT := ok_same_dimensionT D_same_dimension T D_same_lengths b_same_lengths GS d1
  have GQ := ok_quotient D_quotient T ei_Z GT b_te ei_N GI b_ie D_same_dimension bD1 vd1 hA0 GDT d11
  have n1 := c_no (P := l.prog) (w := w) (base := base) (k := 1) D_digit_bits b_digit_bits
  have n2 := c_no (P := l.prog) (w := w) (base := base) (k := 1) D_product_sizes b_product_sizes
  have n3 := c_no (P := l.prog) (w := w) (base := base) (k := 1) D_crowded_product b_crowded_product
  have n4 := c_is_crowded D_is_crowded b_is_crowded T (PySem.W.mg_of X G g_FEW) n1 n2
  have GMu := ok_multiply D_multiply T D_same_dimension bD1 vd1 hA0 GDT d4 d7 d8 d1 n4 n3
  have d14 := c_mirror (P := l.prog) (w := w) (base := base) D_mirror b_mirror T
  have GF := ok_flip D_flip T D_quotient b_quotient GQ D_multiply b_multiply GMu d14
  have d15 := quietC D_flip b_flip .nil GF flipC
  have xcM : ErrC K B M N Z M "MixedDimensions" true false false := ⟨er_M, xM, bM, vM, k1, k2, k3⟩
  have xcN : ErrC K B M N Z N "NotAFactor" false true false := ⟨er_N, xN, bN, vN, k4, k5, k6⟩
  have xcZ : ErrC K B M N Z Z "ZeroRow" false false true := ⟨er_Z, xZ, bZ, vZ, k7, k8, k9⟩
  have h1 := h__law_is_error (P := l.prog) (w := w) (base := base) D__law_is_error T gB (PySem.W.mg_none_of X G z_ValueError)
  have h2 := h__law_words (P := l.prog) (w := w) (base := base) D__law_words T gM gN gZ
  have h3 := h__law_is_integer (P := l.prog) (w := w) (base := base) D__law_is_integer T
  have c30 := c__law_refuses D__law_refuses b__law_refuses T gB gN xcM xcN xcZ er_N.ni D_flip b_flip GF D__law_is_error b__law_is_error h1 D__law_words b__law_words h2 D__law_is_integer b__law_is_integer h3 c6
  have c31 := c__law_mirror D__law_mirror b__law_mirror T c8 c7
  have c32 := c__law_cross D__law_cross b__law_cross T c16 c31
  have c33 := c__law_own D__law_own b__law_own T c32
  have c34 := c__law_flips D__law_flips b__law_flips T d15 c6 c31 c33
  have c35 := c__law_aside (P := l.prog) (w := w) (base := base) D__law_aside b__law_aside T
  have c36 := c__law_single D__law_single b__law_single T c2
  have c37 := c__law_near D__law_near b__law_near T c2 c9 c17
  have c38 := c__law_foreign D__law_foreign b__law_foreign T c13 c11 c19
  have c39 := c__law_widened D__law_widened b__law_widened T c15 c12 c35
  have c40 := c__law_quotient D__law_quotient b__law_quotient T c9 c7 c14
  have c41 := c__law_by_number D__law_by_number b__law_by_number T c15 c30 c34 c16 c31
  exact c_law D_law b_law T c1 c2 c11 c13 c36 c39 c12 c35 c16 c31 c34 c41 c30 c38 c37 c14 c40
theorem walk {l : PySem.W.OpenLaw} {q : Program} {loose : List Str} {XP : (Str → Option Value) → Heap → Prop} {YP : World → Heap → Prop} {d : DefRec} {K : Params → PySem.W.Frag} (hn : l.most = some 63) (hdf : d.params.defaults = [])
    (hY : ∀ (w : World) (h : Heap), YP w h → (K w.params).In h)
    (F : ∀ (w : World) (mg : Str → Option Value) (fa : Addr) (h : Heap), (K w.params).In h → h.Ns mainGlobals mg → mg d.name = some (.ref fa) →
      ∃ fd : FuncData, (∀ (s : Shared) (u : Value), BindsTo s fd ⟨[u], []⟩ [("_law_script", u)]) ∧ ∀ base : Heap, (K w.params).In base → base.Ns mainGlobals mg → FnOk l.prog w (K w.params) mg base L2.CX0 10 fa fd ["_law_script"] (spLaw (K w.params))) :
    PySem.W.WalkO q loose XP YP l.row.toRowW d [] (fun f vs => PySem.call f vs) :=
  L2.walk_ofK (n := 63) (k := 10) (x := "_law_script") (CX := L2.CX0) (sp := spLaw) hn (by decide) hdf ⟨rfl, by decide, by decide⟩ hY F (fun _ _ a ns hl _ hS => ⟨a, ns, rfl, hS, hl, fun _ => rfl⟩) fun _ _ _ _ z => z
end OT
open PySem PySem.W PyProof.Rows
set_option maxRecDepth 100000 in
set_option maxHeartbeats 0 in
theorem PySem.Challenge.cw_owntables_k07_flip_holds : PySem.Challenge.rw_owntables_k07_flip.Holds := by
  w_on; o_law; k_head; (case hw => w_witness2)
  k_fill
  refine OT.walk (l := PySem.Challenge.rw_owntables_k07_flip) rfl rfl (fun w h Y => PySem.W.kIn_of Y) ?F
  case F =>
    intro w mg fa h KX G hmg
    refine' OT.all_mk KX G hmg ?z_len ?z_int ?z_str ?z_bool ?z_list ?z_tuple ?z_range ?z_enumerate ?z_isinstance ?z_sorted ?z_abs ?z_any ?z_all ?z_sum ?z_min ?z_max ?z_zip ?z_set ?z_ValueError ?a_places_length ?l_places_length ?co_places_length ?k_places_length ?a_same_lengths ?l_same_lengths ?co_same_lengths ?k_same_lengths ?a_same_dimension ?l_same_dimension ?lt_same_dimension ?lu_same_dimension ?co_same_dimension ?k_same_dimension ?a_bounds ?l_bounds ?co_bounds ?k_bounds ?a_product_sizes ?l_product_sizes ?co_product_sizes ?k_product_sizes ?a_longest ?l_longest ?co_longest ?k_longest ?a_digit_bits ?l_digit_bits ?co_digit_bits ?k_digit_bits ?a_is_crowded ?l_is_crowded ?co_is_crowded ?k_is_crowded ?a_digit_at ?l_digit_at ?co_digit_at ?k_digit_at ?a_place_at ?l_place_at ?co_place_at ?k_place_at ?a_joined_digits ?l_joined_digits ?co_joined_digits ?k_joined_digits ?a_low_digit ?l_low_digit ?co_low_digit ?k_low_digit ?a_split_digits ?l_split_digits ?co_split_digits ?k_split_digits ?a_great_integer ?l_great_integer ?co_great_integer ?k_great_integer ?a_crowded_product ?l_crowded_product ?co_crowded_product ?k_crowded_product ?a_reach ?l_reach ?co_reach ?k_reach ?a_key_base ?l_key_base ?co_key_base ?k_key_base ?a_key_of ?l_key_of ?co_key_of ?k_key_of ?a_place_of ?l_place_of ?co_place_of ?k_place_of ?a_keyed ?l_keyed ?co_keyed ?k_keyed ?a_unkeyed ?l_unkeyed ?co_unkeyed ?k_unkeyed ?a_multiply ?l_multiply ?co_multiply ?k_multiply ?a_mirror ?l_mirror ?co_mirror ?k_mirror ?a_quotient_box ?l_quotient_box ?co_quotient_box ?k_quotient_box ?a_inside ?l_inside ?co_inside ?k_inside ?a_divide ?l_divide ?co_divide ?k_divide ?a_quotient ?l_quotient ?co_quotient ?k_quotient ?a_flip ?l_flip ?co_flip ?k_flip ?a__law_cell ?l__law_cell ?co__law_cell ?k__law_cell ?a__law_draws ?l__law_draws ?co__law_draws ?k__law_draws ?a__law_is_integer ?l__law_is_integer ?co__law_is_integer ?k__law_is_integer ?a__law_is_place ?l__law_is_place ?co__law_is_place ?k__law_is_place ?a__law_is_row ?l__law_is_row ?co__law_is_row ?k__law_is_row ?a__law_same ?l__law_same ?co__law_same ?k__law_same ?a__law_plus ?l__law_plus ?co__law_plus ?k__law_plus ?a__law_back ?l__law_back ?co__law_back ?k__law_back ?a__law_row ?l__law_row ?co__law_row ?k__law_row ?a__law_add ?l__law_add ?co__law_add ?k__law_add ?a__law_scaled ?l__law_scaled ?co__law_scaled ?k__law_scaled ?a__law_times ?l__law_times ?co__law_times ?k__law_times ?a__law_mirror ?l__law_mirror ?co__law_mirror ?k__law_mirror ?a__law_moved ?l__law_moved ?co__law_moved ?k__law_moved ?a__law_cross ?l__law_cross ?co__law_cross ?k__law_cross ?a__law_own ?l__law_own ?co__law_own ?k__law_own ?a__law_corner ?l__law_corner ?co__law_corner ?k__law_corner ?a__law_zero ?l__law_zero ?co__law_zero ?k__law_zero ?a__law_places ?l__law_places ?co__law_places ?k__law_places ?a__law_drawn ?l__law_drawn ?co__law_drawn ?k__law_drawn ?a__law_box ?l__law_box ?co__law_box ?k__law_box ?a__law_is_error ?l__law_is_error ?co__law_is_error ?k__law_is_error ?a__law_words ?l__law_words ?co__law_words ?k__law_words ?a__law_refuses ?l__law_refuses ?co__law_refuses ?k__law_refuses ?a__law_flips ?l__law_flips ?co__law_flips ?k__law_flips ?a__law_widened ?l__law_widened ?co__law_widened ?k__law_widened ?a__law_aside ?l__law_aside ?co__law_aside ?k__law_aside ?a__law_single ?l__law_single ?co__law_single ?k__law_single ?a__law_near ?l__law_near ?co__law_near ?k__law_near ?a__law_foreign ?l__law_foreign ?co__law_foreign ?k__law_foreign ?a__law_quotient ?l__law_quotient ?co__law_quotient ?k__law_quotient ?a__law_by_number ?l__law_by_number ?co__law_by_number ?k__law_by_number ?a_law ?l_law ?co_law ?k_law ?a_te ?l_te ?co_te ?k_te ?a_ie ?l_ie ?co_ie ?k_ie ?g_B ?g_I ?g_N ?g_M ?g_Z ?xl_N ?vb_N ?sa_N ?ex_N ?ty_N ?kc_N ?ga_N ?gg_N ?hd_N ?ha_N ?mr_N ?rd_N ?fn_N ?nw_N ?ni_N ?in_N ?xl_M ?vb_M ?sa_M ?ex_M ?ty_M ?kc_M ?ga_M ?gg_M ?hd_M ?ha_M ?mr_M ?rd_M ?fn_M ?nw_M ?ni_M ?in_M ?xl_Z ?vb_Z ?sa_Z ?ex_Z ?ty_Z ?kc_Z ?ga_Z ?gg_Z ?hd_Z ?ha_Z ?mr_Z ?rd_Z ?fn_Z ?nw_Z ?ni_Z ?in_Z ?hn ?ht ?g_FEW ?ti_ie ?ti_te ?rB ?sB ?fB ?xM ?vM ?xN ?vN ?xZ ?vZ ?k1 ?k2 ?k3 ?k4 ?k5 ?k6 ?k7 ?k8 ?k9 ?hpop ?hpush ?bM ?bN ?bZ
    (case g_B => k_is)
    (case g_I => k_is)
    (case g_N => k_is)
    (case g_M => k_is)
    (case g_Z => k_is)
    (case g_FEW => k_is)
    (case a_places_length => k_is)
    (case a_same_lengths => k_is)
    (case a_same_dimension => k_is)
    (case a_bounds => k_is)
    (case a_product_sizes => k_is)
    (case a_longest => k_is)
    (case a_digit_bits => k_is)
    (case a_is_crowded => k_is)
    (case a_digit_at => k_is)
    (case a_place_at => k_is)
    (case a_joined_digits => k_is)
    (case a_low_digit => k_is)
    (case a_split_digits => k_is)
    (case a_great_integer => k_is)
    (case a_crowded_product => k_is)
    (case a_reach => k_is)
    (case a_key_base => k_is)
    (case a_key_of => k_is)
    (case a_place_of => k_is)
    (case a_keyed => k_is)
    (case a_unkeyed => k_is)
    (case a_multiply => k_is)
    (case a_mirror => k_is)
    (case a_quotient_box => k_is)
    (case a_inside => k_is)
    (case a_divide => k_is)
    (case a_quotient => k_is)
    (case a_flip => k_is)
    (case a__law_cell => k_is)
    (case a__law_draws => k_is)
    (case a__law_is_integer => k_is)
    (case a__law_is_place => k_is)
    (case a__law_is_row => k_is)
    (case a__law_same => k_is)
    (case a__law_plus => k_is)
    (case a__law_back => k_is)
    (case a__law_row => k_is)
    (case a__law_add => k_is)
    (case a__law_scaled => k_is)
    (case a__law_times => k_is)
    (case a__law_mirror => k_is)
    (case a__law_moved => k_is)
    (case a__law_cross => k_is)
    (case a__law_own => k_is)
    (case a__law_corner => k_is)
    (case a__law_zero => k_is)
    (case a__law_places => k_is)
    (case a__law_drawn => k_is)
    (case a__law_box => k_is)
    (case a__law_is_error => k_is)
    (case a__law_words => k_is)
    (case a__law_refuses => k_is)
    (case a__law_flips => k_is)
    (case a__law_widened => k_is)
    (case a__law_aside => k_is)
    (case a__law_single => k_is)
    (case a__law_near => k_is)
    (case a__law_foreign => k_is)
    (case a__law_quotient => k_is)
    (case a__law_by_number => k_is)
    (case a_law => k_is)
    (case a_te => k_is)
    (case a_ie => k_is)
    (case xl_N => k_is)
    (case in_N => k_is)
    (case xl_M => k_is)
    (case in_M => k_is)
    (case xl_Z => k_is)
    (case in_Z => k_is)
    (case z_len => k_is)
    (case z_int => k_is)
    (case z_str => k_is)
    (case z_bool => k_is)
    (case z_list => k_is)
    (case z_tuple => k_is)
    (case z_range => k_is)
    (case z_enumerate => k_is)
    (case z_isinstance => k_is)
    (case z_sorted => k_is)
    (case z_abs => k_is)
    (case z_any => k_is)
    (case z_all => k_is)
    (case z_sum => k_is)
    (case z_min => k_is)
    (case z_max => k_is)
    (case z_zip => k_is)
    (case z_set => k_is)
    (case z_ValueError => k_is)
    (case l_places_length => k_is)
    (case co_places_length => k_is)
    (case k_places_length => k_is)
    (case l_same_lengths => k_is)
    (case co_same_lengths => k_is)
    (case k_same_lengths => k_is)
    (case l_same_dimension => k_is)
    (case lt_same_dimension => first | rfl | k_is)
    (case lu_same_dimension => first | rfl | k_is)
    (case co_same_dimension => k_is)
    (case k_same_dimension => k_is)
    (case l_bounds => k_is)
    (case co_bounds => k_is)
    (case k_bounds => k_is)
    (case l_product_sizes => k_is)
    (case co_product_sizes => k_is)
    (case k_product_sizes => k_is)
    (case l_longest => k_is)
    (case co_longest => k_is)
    (case k_longest => k_is)
    (case l_digit_bits => k_is)
    (case co_digit_bits => k_is)
    (case k_digit_bits => k_is)
    (case l_is_crowded => k_is)
    (case co_is_crowded => k_is)
    (case k_is_crowded => k_is)
    (case l_digit_at => k_is)
    (case co_digit_at => k_is)
    (case k_digit_at => k_is)
    (case l_place_at => k_is)
    (case co_place_at => k_is)
    (case k_place_at => k_is)
    (case l_joined_digits => k_is)
    (case co_joined_digits => k_is)
    (case k_joined_digits => k_is)
    (case l_low_digit => k_is)
    (case co_low_digit => k_is)
    (case k_low_digit => k_is)
    (case l_split_digits => k_is)
    (case co_split_digits => k_is)
    (case k_split_digits => k_is)
    (case l_great_integer => k_is)
    (case co_great_integer => k_is)
    (case k_great_integer => k_is)
    (case l_crowded_product => k_is)
    (case co_crowded_product => k_is)
    (case k_crowded_product => k_is)
    (case l_reach => k_is)
    (case co_reach => k_is)
    (case k_reach => k_is)
    (case l_key_base => k_is)
    (case co_key_base => k_is)
    (case k_key_base => k_is)
    (case l_key_of => k_is)
    (case co_key_of => k_is)
    (case k_key_of => k_is)
    (case l_place_of => k_is)
    (case co_place_of => k_is)
    (case k_place_of => k_is)
    (case l_keyed => k_is)
    (case co_keyed => k_is)
    (case k_keyed => k_is)
    (case l_unkeyed => k_is)
    (case co_unkeyed => k_is)
    (case k_unkeyed => k_is)
    (case l_multiply => k_is)
    (case co_multiply => k_is)
    (case k_multiply => k_is)
    (case l_mirror => k_is)
    (case co_mirror => k_is)
    (case k_mirror => k_is)
    (case l_quotient_box => k_is)
    (case co_quotient_box => k_is)
    (case k_quotient_box => k_is)
    (case l_inside => k_is)
    (case co_inside => k_is)
    (case k_inside => k_is)
    (case l_divide => k_is)
    (case co_divide => k_is)
    (case k_divide => k_is)
    (case l_quotient => k_is)
    (case co_quotient => k_is)
    (case k_quotient => k_is)
    (case l_flip => k_is)
    (case co_flip => k_is)
    (case k_flip => k_is)
    (case l__law_cell => k_is)
    (case co__law_cell => k_is)
    (case k__law_cell => k_is)
    (case l__law_draws => k_is)
    (case co__law_draws => k_is)
    (case k__law_draws => k_is)
    (case l__law_is_integer => k_is)
    (case co__law_is_integer => k_is)
    (case k__law_is_integer => k_is)
    (case l__law_is_place => k_is)
    (case co__law_is_place => k_is)
    (case k__law_is_place => k_is)
    (case l__law_is_row => k_is)
    (case co__law_is_row => k_is)
    (case k__law_is_row => k_is)
    (case l__law_same => k_is)
    (case co__law_same => k_is)
    (case k__law_same => k_is)
    (case l__law_plus => k_is)
    (case co__law_plus => k_is)
    (case k__law_plus => k_is)
    (case l__law_back => k_is)
    (case co__law_back => k_is)
    (case k__law_back => k_is)
    (case l__law_row => k_is)
    (case co__law_row => k_is)
    (case k__law_row => k_is)
    (case l__law_add => k_is)
    (case co__law_add => k_is)
    (case k__law_add => k_is)
    (case l__law_scaled => k_is)
    (case co__law_scaled => k_is)
    (case k__law_scaled => k_is)
    (case l__law_times => k_is)
    (case co__law_times => k_is)
    (case k__law_times => k_is)
    (case l__law_mirror => k_is)
    (case co__law_mirror => k_is)
    (case k__law_mirror => k_is)
    (case l__law_moved => k_is)
    (case co__law_moved => k_is)
    (case k__law_moved => k_is)
    (case l__law_cross => k_is)
    (case co__law_cross => k_is)
    (case k__law_cross => k_is)
    (case l__law_own => k_is)
    (case co__law_own => k_is)
    (case k__law_own => k_is)
    (case l__law_corner => k_is)
    (case co__law_corner => k_is)
    (case k__law_corner => k_is)
    (case l__law_zero => k_is)
    (case co__law_zero => k_is)
    (case k__law_zero => k_is)
    (case l__law_places => k_is)
    (case co__law_places => k_is)
    (case k__law_places => k_is)
    (case l__law_drawn => k_is)
    (case co__law_drawn => k_is)
    (case k__law_drawn => k_is)
    (case l__law_box => k_is)
    (case co__law_box => k_is)
    (case k__law_box => k_is)
    (case l__law_is_error => k_is)
    (case co__law_is_error => k_is)
    (case k__law_is_error => k_is)
    (case l__law_words => k_is)
    (case co__law_words => k_is)
    (case k__law_words => k_is)
    (case l__law_refuses => k_is)
    (case co__law_refuses => k_is)
    (case k__law_refuses => k_is)
    (case l__law_flips => k_is)
    (case co__law_flips => k_is)
    (case k__law_flips => k_is)
    (case l__law_widened => k_is)
    (case co__law_widened => k_is)
    (case k__law_widened => k_is)
    (case l__law_aside => k_is)
    (case co__law_aside => k_is)
    (case k__law_aside => k_is)
    (case l__law_single => k_is)
    (case co__law_single => k_is)
    (case k__law_single => k_is)
    (case l__law_near => k_is)
    (case co__law_near => k_is)
    (case k__law_near => k_is)
    (case l__law_foreign => k_is)
    (case co__law_foreign => k_is)
    (case k__law_foreign => k_is)
    (case l__law_quotient => k_is)
    (case co__law_quotient => k_is)
    (case k__law_quotient => k_is)
    (case l__law_by_number => k_is)
    (case co__law_by_number => k_is)
    (case k__law_by_number => k_is)
    (case l_law => k_is)
    (case co_law => k_is)
    (case k_law => k_is)
    (case l_te => k_is)
    (case co_te => k_is)
    (case k_te => k_is)
    (case l_ie => k_is)
    (case co_ie => k_is)
    (case k_ie => k_is)
    (case vb_N => decide +kernel)
    (case sa_N => k_is)
    (case ex_N => k_is)
    (case ty_N => k_is)
    (case kc_N => k_is)
    (case ga_N => k_is)
    (case gg_N => k_is)
    (case hd_N => k_is)
    (case ha_N => k_is)
    (case mr_N => k_is)
    (case rd_N => k_is)
    (case fn_N => k_is)
    (case nw_N => k_is)
    (case ni_N => k_is)
    (case vb_M => decide +kernel)
    (case sa_M => k_is)
    (case ex_M => k_is)
    (case ty_M => k_is)
    (case kc_M => k_is)
    (case ga_M => k_is)
    (case gg_M => k_is)
    (case hd_M => k_is)
    (case ha_M => k_is)
    (case mr_M => k_is)
    (case rd_M => k_is)
    (case fn_M => k_is)
    (case nw_M => k_is)
    (case ni_M => k_is)
    (case vb_Z => decide +kernel)
    (case sa_Z => k_is)
    (case ex_Z => k_is)
    (case ty_Z => k_is)
    (case kc_Z => k_is)
    (case ga_Z => k_is)
    (case gg_Z => k_is)
    (case hd_Z => k_is)
    (case ha_Z => k_is)
    (case mr_Z => k_is)
    (case rd_Z => k_is)
    (case fn_Z => k_is)
    (case nw_Z => k_is)
    (case ni_Z => k_is)
    (case hn => k_is)
    (case ht => k_is)
    (case ti_ie => k_is)
    (case ti_te => k_is)
    (case rB => k_is)
    (case sB => k_is)
    (case fB => k_is)
    (case xM => first | rfl | k_is)
    (case vM => first | rfl | k_is)
    (case xN => first | rfl | k_is)
    (case vN => first | rfl | k_is)
    (case xZ => first | rfl | k_is)
    (case vZ => first | rfl | k_is)
    (case k1 => first | rfl | k_is)
    (case k2 => first | rfl | k_is)
    (case k3 => first | rfl | k_is)
    (case k4 => first | rfl | k_is)
    (case k5 => first | rfl | k_is)
    (case k6 => first | rfl | k_is)
    (case k7 => first | rfl | k_is)
    (case k8 => first | rfl | k_is)
    (case k9 => first | rfl | k_is)
    (case hpop => k_is)
    (case hpush => k_is)
    (case bM => first | rfl | k_is)
    (case bN => first | rfl | k_is)
    (case bZ => first | rfl | k_is)

