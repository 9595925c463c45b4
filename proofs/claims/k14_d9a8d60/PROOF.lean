import PyProof.Rows.All
import Wide.All
import OpenK.AllK
import Wide.FinOn
import KE.KTypeName
import HandS.ForMost
import HandS.ForExc
import HandS.ExcInit
import HandS.ExcIs
import HandS.ExcField
import HandS.IsInst
import HandS.HotCalls
import HandS.Codes
import HandS.StrMore
import HandS.TupAny
import HandS.Walk
import HandS.TupSets
import HandS.DictTup
import HandS.FStr
import KE.KExcIs
import HandS.SortKw
import KE.KSortTupG
import HandS.Conv
import HandS.More
import HandS.Wide
import KE.IntTextLaws
import KE.DatumOrd
import HandS.Evl
import PyProof.EqAt
import PyProof.EqKinds
import PyProof.TupleCall
import PySem.Challenge.RW_owntables_k14_whole_texts
set_option Elab.async false
set_option linter.all false
set_option maxRecDepth 100000
set_option maxHeartbeats 2000000
/-! Own errors of the package: word, index, made and told. -/
namespace PySem.W
open PySem PySem.Calls PyProof.Rows Builtin Builtin.ObjectAttr Builtin.Getset_descriptor
section
variable {prog : Program} {w : World} {A : Around} {E : Value → Shared → Prop} {s : Shared} {K : Frag} {x D : Addr} {ox : Obj}
/-- what a class says of the attribute «class» of its instances -/
structure OtCls (K : Frag) (D : Addr) : Prop where
  hga : findIn K (.ref D) "__getattribute__" = some (some (.builtin "BaseException.__getattribute__"))
  hgt : findIn K (.ref D) "__getattr__" = some none
  hsub : subIn K (.ref D) (.type "BaseException") = some true
  hdct : hasDictIn K D = true
  ha : findIn K (.ref D) "__class__" = some (some (.builtin "object.__class__"))
  hn : specialIn K (.builtin "object.__class__") "__get__" = some (some (.builtin "getset_descriptor.__get__"))
  htk : takesIn K (.builtin "object.__class__") = some true
  hm : mroIn K D (.type "object") = some true
theorem ot_class {expr : Bool} {Q : Value → Shared → Prop} (T : OtCls K D) (X : K.In s.heap) (I : InstAt s.heap x ox D none)
    (h : Q (.ref D) { s with toks := s.toks + 1 }) : wpAny (model prog w) A (getAttr (.ref x) "__class__" expr) Q E s := by
  obtain ⟨hga, hgt, hsub, hdct, ha, hn, htk, hm⟩ := T
  have found : findObj K D none "__class__" = some (.bind (.builtin "getset_descriptor.__get__") (.builtin "object.__class__")) :=
    findObj_dataN (by obtain ⟨cd, q, _⟩ := any_some hdct; rw [q]; rfl) ha hn htk
  obtain ⟨hp, gens, dr, tk, os⟩ := s
  have ty := I.type (M := model prog w)
  have l1 := looks_findIn (M := model prog w) X hga
  have l2 := looks_findIn (M := model prog w) X hgt
  have l3 := looks_find (M := model prog w) X I found
  have isx : Looks (model prog w) hp (isInstance (.ref x) (.type "BaseException")) true := ty.andThen (looks_subIn X hsub)
  have e0 : (Value.builtin "BaseException.__getattribute__" == Value.builtin "object.__getattribute__") = false := by decide +kernel
  unfold getAttr getAttrBy
  apply wpAny_bind; apply wpAny_mkText; apply wpAny_holding
  apply wpAny_bind; apply ty.at
  apply wpAny_bind; apply l1.at
  show wpAny _ _ (if (onTheHeap (Value.ref D) && _) = true then _ else _) _ _ _
  rw [e0, Bool.and_false, if_neg Bool.false_ne_true]
  unfold getAttrByItsOwn hookBefore
  apply wpAny_bind
  rw [if_pos (show onTheHeap (Value.ref D) = true from rfl)]
  apply l2.at
  apply wpAny_bind; apply wpAny_attempt; apply wpAny_holding
  unfold callGetattribute
  rw [(by cases expr <;> rfl : (expr && onTheHeap (Value.builtin "BaseException.__getattribute__")) = false), if_neg Bool.false_ne_true]
  unfold boundAndCalled
  rw [PySem.F.excAttr_ValueError.ga.bind (.ref x)]
  apply wpAny_bind; apply wpAny_pure
  show wpAny _ _ (call (.builtin "BaseException.__getattribute__") [.ref x, .str "__class__" tk]) _ _ _
  apply wpAny_call
  apply codeAny_call_builtin PySem.F.excAttr_ValueError.ga.plain PySem.F.entry_bexc_ga
  apply @check_slot (model prog w) _ _ ⟨hp, gens, dr, tk + 1, os⟩ "BaseException.__getattribute__" "BaseException" "__getattribute__" (.ref x) [.str "__class__" tk] [] _ (by decide +kernel) (by decide +kernel) isx (PySem.F.args_bexc_ga (.ref x) (.str "__class__" tk))
  unfold Builtin.«object.__getattribute__»
  refine wpAny_bind (wpAny_of_eq (a := ((Value.ref x : Value), [Value.str "__class__" tk])) (by first | rfl | (simp only [slotArgs]; rfl)) ?_)
  apply wpAny_bind; apply wpAny_pure
  apply wpAny_bind; apply ty.at
  apply wpAny_bind; apply l3.at
  show wpAny _ _ (holding [Value.builtin "object.__class__"] (call _ [.builtin "object.__class__", .ref x, .ref D]) >>= ret) _ _ _
  apply wpAny_bind; apply wpAny_holding; apply wpAny_call
  refine class_get (s := ⟨hp, gens, dr, tk + 1, os⟩) (ox := ox) (od := none) X I hm ?_
  apply wpAny_pure
  show wpAny _ _ (handedOut (.ref D)) _ _ _
  rw [handedOut_of (v := .ref D) rfl]
  exact wpAny_pure h
/-- the written part's class at C keeps its name nm -/
structure OtName (K : Frag) (C : Addr) (nm : Str) : Prop where
  keeps : ∃ (c : Value) (dd : Option Addr) (dat : Data) (sl : Array (Option Value)) (tk : Tok), K.lookup C = some ⟨c, dd, dat, sl⟩ ∧ sl[2]? = some (some (.str nm tk))
  reads : readsIn K C (.type "type") = true
  ty : typeIn K (.ref C) = some (.type "type")
  found : findCls K (.ref C) (.type "type") "__name__" = some (.get (.builtin "getset_descriptor.__get__") (.builtin "type.__name__") (.ref C) (.type "type"))
theorem ot_dga (d tp : Value) (C : Addr) : descrGetArgs ⟨[d, .ref C, tp], []⟩ = pure (d, some (.ref C), given tp) := by kernel_rfl
theorem ot_name {expr : Bool} {nm : Str} {Q : Value → Shared → Prop} (T : OtName K D nm) (X : K.In s.heap)
    (h : ∀ tk u, Q (.str nm tk) { s with toks := u }) : wpAny (model prog w) A (getAttr (.ref D) "__name__" expr) Q E s := by
  obtain ⟨⟨c, dd, dat, sl, tk, hk, hsl⟩, hr, ty, hf⟩ := T
  refine cls_bind X hr hf ?_
  obtain ⟨hp, gens, dr, tks, os⟩ := s
  have t0 : Looks (model prog w) hp (typeOf (.ref D)) (.type "type") := looks_typeIn X ty
  have t1 : Looks (model prog w) hp (isSubtype (.type "type") (.type "type")) true := Looks.of_pure (by rw [isSubtype_type]; kernel_rfl)
  refine wpAny_call (codeAny_call_builtin KF.slot_gs.plain KF.entry_gs (KF.slot_gs.check _ _ _ _ _ _ _ _ ktyn_type (KF.args_gs _ _ _) ?_))
  unfold Builtin.«getset_descriptor.__get__» descrGet
  rw [ot_dga]
  apply wpAny_bind
  apply wpAny_pure
  unfold descrGetter descrCheckInstance descrNameAndClass isInstance
  simp only [ktyn_owner]
  repeat lk
  refine ⟨Code.quiet_builtin _ (by decide +kernel), codeAny_builtin ktyn_entry ?_⟩
  unfold Builtin.«type.__name__» keptObject slotAt
  dsimp only
  refine wpAny_bind (wpAny_bind (wpAny_loadPart (X _ _ hk) (wpAny_pure ?_)))
  dsimp only
  rw [hsl]
  exact wpAny_pure (handed_on rfl (h _ _))
end
end PySem.W
namespace L2
open PySem PySem.Spec PyProof.Rows
/-! ### an exception's own __init__ -/
section
variable {X : Cx} {pos p1 p2 : Pos} {e : Expr} {es : List Expr} {te : TE} {ta : TA}
/-- e.__class__.__name__, e an exception that is being made, without a field so far -/
def tOtName (K : PySem.W.Frag) (te : TE) : TE := fun σ H Q => te σ H fun x H1 => ∃ (a C : Addr) (nm : Str), x = .ref a ∧ H1 a = some (exo a C none) ∧ PySem.W.OtCls K C ∧ PySem.W.OtName K C nm ∧ Q (.str nm) H1
theorem pe_otname (he : PE X e te) (hb : attributeBase e "__class__" X.env (eval e X.env) = eval e X.env := by rfl)
    (hb2 : attributeBase (.Attribute e "__class__" p1) "__name__" X.env (eval (.Attribute e "__class__" p1) X.env) = eval (.Attribute e "__class__" p1) X.env := by rfl) :
    PE X (.Attribute (.Attribute e "__class__" p1) "__name__" pos) (tOtName X.K te) := by
  refine ⟨fun pins s σ H Q I h => ?_⟩
  refine attr_of hb2 (attr_of hb (thn (he.run pins s σ H _ I h) fun u s1 hh => ?_))
  obtain ⟨x, H1, I1, rx, a, C, nm, ex, ea, tc, tn, q⟩ := hh
  subst ex
  obtain rfl : u = Value.ref a := rx
  obtain ⟨t1, ho⟩ := exo_at I1.hok ea
  have J : PySem.W.InstAt s1.heap a _ C none := ⟨ho, rfl, rfl, True.intro⟩
  refine PySem.W.ot_class tc I1.kIn J ?_
  refine PySem.W.ot_name tn I1.kIn fun tk u => ?_
  exact ⟨.str nm, H1, I1.tok u, ⟨tk, rfl⟩, q⟩
/-- a class of the text, its attributes read by the type's own way -/
structure OtRead (K : PySem.W.Frag) (C : Addr) (m : Str) (f : Addr) : Prop where
  rd : PySem.W.readsIn K C (.type "type") = true
  ga : PySem.W.specialIn K (.ref C) "__getattribute__" = some (some (.builtin "type.__getattribute__"))
  at_ : PySem.W.findCls K (.ref C) (.type "type") m = some (.val (.ref f))
  kp : PySem.W.keepIn K (.ref f) = true
/-- B.m(e, ..), B a class of the text, m a def of it -/
theorem pe_otcall {CX : CXT} {k : Nat} {f C : Addr} {fd : FuncData} {ps : List Str} {sp : Sp} {E : XK} {o : Expr} {to : TE} {m : Str} {pl : Sem Bool} (ho : PE X o to) (R : OtRead X.K C m f) (F : FnOk X.prog X.w X.K X.mg X.base CX k f fd ps sp) (hr : Room k X.A) (hb : Binds X.K fd ps []) (hx : Passes CX X E) (ha : PA X (e :: es) ta)
    (hc : eval (.Call (.Attribute o m p2) (e :: es) [] pos) X.env = (do
      let ov ← eval o X.env
      standAt p2.atName
      let (f, first) ← holding [ov] (getMethod ov m pl)
      callWith pos f first (backTo pos (starEach (e :: es) X.env)) (backToKw pos (keywordEach [] X.env))) := by rfl)
    (he : starEach (e :: es) X.env = (false, eval e X.env) :: starEach es X.env := by rfl) (hpl : (backTo pos (starEach es X.env)).any (·.1) = false := by rfl) :
    PE X (.Call (.Attribute o m p2) (e :: es) [] pos) (fun σ H Q => to σ H fun x H1 => x = .ref C ∧ ta σ H1 fun vs H2 => sp vs H2 Q E) := by
  refine ⟨fun pins s σ H Q I h => ?_⟩
  refine PySem.W.methodCall_KW (thn (ho.run pins s σ H _ I h) fun u s1 hh => ?_) hc
  obtain ⟨x, H1, I1, rx, ex, q⟩ := hh
  subst ex
  obtain rfl : u = Value.ref C := rx
  refine PySem.W.method_cls I1.kIn R.ga (PySem.W.cls_value I1.kIn R.rd R.at_ rfl ?_)
  have I2 := I1.tok (s1.toks + 1)
  show wpAny _ _ (callWith pos (Value.ref f) [] (backTo pos (starEach (e :: es) X.env)) []) _ _ _
  refine PySem.W.callWith_K (h₀ := X.base) I2.ok.mod.kin R.kp (thn (ha.run pos pins _ σ H1 _ I2 q) fun us s2 hh2 => ?_) he hpl
  obtain ⟨vs, H2, I3, r3, q3⟩ := hh2
  exact ⟨I3.kIn, run_fn F hr hb .nil hx I3 r3 (by rw [List.append_nil]; exact q3)⟩
end
end L2

namespace L2
open PySem PySem.Spec PyProof.Rows
/-- all that is asked of an own class of error, its name nm -/
structure OtErr (K : PySem.W.Frag) (C : Addr) (nm : Str) : Prop where
  ox : OexC K C
  oc : PySem.W.OtCls K C
  on : PySem.W.OtName K C nm
  nw : PySem.W.findIn K (.ref C) "word" = some none
  ni : PySem.W.findIn K (.ref C) "index" = some none
section
variable {P : Program} {w : World} {K : PySem.W.Frag} {mg : Str → Option Value} {base : Heap}
/-- TableError.__init__ -/
def spTE (K : PySem.W.Frag) : Sp := fun vs H Q _ => ∃ (a C : Addr) (nm : Str), vs = [.ref a] ∧ H a = some (exo a C none) ∧ OtErr K C nm ∧
  ∀ d, H d = none → d ≠ a → Q .non (upd (upd H d (exd d [("word", .str nm)])) a (exo a C (some d)))
theorem ok_te {q : Str} {st : Stmt} {f : Addr} {fd : FuncData} {p1 p2 p3 p4 p5 p6 : Pos} (F : Fun K "__init__" q st f fd) (S : FnScope ["self"] ["self"] (defScope st))
    (v : Vis (defScope st) "self") (hb : defBody st = [.Assign [.Attribute (.Name "self" p1) "word" p2] (.Attribute (.Attribute (.Name "self" p3) "__class__" p4) "__name__" p5) p6]) :
    FnOk P w K mg base CX0 1 f fd ["self"] (spTE K) := by
  refine F.ok S (fun vs H Q E h => ?_) (fun cdv A outer s H vs Q E hr h => ?_)
  · obtain ⟨a, C, nm, rfl, _⟩ := h
    rfl
  · obtain ⟨a, C, nm, rfl, ha, T, k⟩ := h
    rw [hb]
    refine ⟨_, pss_one (ps_ost (pv 0 rfl v) (pe_otname (pv 0 rfl v))), ?_⟩
    refine ⟨_, rfl, a, C, nm, rfl, ha, T.oc, T.on, _, rfl, a, C, rfl, T.ox, T.nw, Or.inl ⟨ha, fun d nd ne => ?_⟩⟩
    exact k d nd ne
/-- IndexedError.__init__ -/
def spIE (K : PySem.W.Frag) : Sp := fun vs H Q _ => ∃ (a C : Addr) (nm : Str) (v : V), vs = [.ref a, v] ∧ H a = some (exo a C none) ∧ OtErr K C nm ∧
  ∀ d, H d = none → d ≠ a → Q .non (upd (upd (upd H d (exd d [("word", .str nm)])) a (exo a C (some d))) d (exd d [("index", v), ("word", .str nm)]))
end
end L2

/-! ### defs that are handed the error that an except suite holds -/
namespace L2
open PySem PySem.Spec PyProof.Rows
/-- a promise that knows the held error: where it stands, its class, its dict -/
abbrev SpE := Addr → Value → Option Addr → Sp
structure FnE (P : Program) (w : World) (K : PySem.W.Frag) (mg : Str → Option Value) (base : Heap) (k : Nat) (f : Addr) (fd : FuncData) (ps : List Str) (sp : SpE) : Prop where
  len : ∀ a c d vs H Q E, sp a c d vs H Q E → vs.length = ps.length
  run : ∀ (A : Around) (outer : List Env) (s : Shared) (H : Hp) (args : Args) (us : List Value) (vs : List V) (Q : VK) (p : Addr × Obj) (c : Value) (d : Option Addr), L2H.RoomH k A → L2H.PinOk outer H s p → Zc c d p.2 → (∃ fs, p.2.data = .fields fs) →
    Env0 P w K mg base A outer s H → BindsTo s fd args (ps.zip us) → Vals vs us → sp p.1 c d vs H Q E0 → codeAny (model P w) A (.call (.ref f) args) (CR CX0 outer P w H s Q E0) s
theorem fnE_of {P : Program} {w : World} {K : PySem.W.Frag} {mg : Str → Option Value} {base : Heap} {k : Nat} {x : Str} {st : Stmt} {f : Addr} {fd : FuncData} {N ps : List Str} {sp : SpE} (F : C8.Fun K x x st f fd) (S : FnScope N ps (C8.fnScope st))
    (len : ∀ a c d vs H Q E, sp a c d vs H Q E → vs.length = ps.length)
    (body : ∀ (cdv : Value) (A : Around) (outer : List Env) (s : Shared) (H : Hp) (vs : List V) (Q : VK) (p : Addr × Obj) (c : Value) (d : Option Addr), Zc c d p.2 → (∃ fs, p.2.data = .fields fs) → L2H.RoomH k (A.deeper (envOfC x (C8.fnScope st) s.heap.objs.size f cdv)) → sp p.1 c d vs H Q E0 →
      ∃ t, PSs (L2H.cxH CX0 P w K mg base N x (C8.fnScope st) f cdv A outer s H E0 p) (C8.fnBody st) t ∧ t { nx := fun _ H' => Q .non H', rt := Q } (L2.start N vs) H) :
    FnE P w K mg base (k + 1) f fd ps sp := by
  obtain ⟨oc, od, dV, kV, doc, pm, an, cdv, ct, osl, rfl, lk, hcd⟩ := F.ex
  constructor
  · exact len
  intro A outer s H args us vs Q p c d room pin zc fld env binds rel want
  have size := len _ _ _ _ _ _ _ want
  have old : ∀ b o, base.get? b = some o → s.heap.get? b = some o := fun b o z => (env.bs b o z).1
  have inK : K.In s.heap := env.mod.kin.keeps old
  have kinds : ∀ y ∈ ps.zip us, (C8.fnScope st).names.lookup y.1 = some .local ∨
      ((C8.fnScope st).names.lookup y.1 = some .cell ∧ ((cellsFrom (s.heap.objs.size + 1) (C8.fnScope st).names []).lookup y.1).isSome = true) := by
    intro y hy
    have my := (List.of_mem_zip (a := y.1) (b := y.2) hy).1
    exact (S.par y.1 my).imp id fun z => ⟨z, PySem.W.cellsFrom_some _ _ _ (Or.inl z)⟩
  apply codeAny_call_function room.depth (inK _ _ lk) rfl S.co S.gen rfl (PySem.W.codeRec_of inK hcd)
  apply binds
  apply wpAny_newFunctionEnv_cells S.kind kinds
  intro env1 he s1 called
  subst he
  refine ⟨(env.mod.nolimit.keeps old).keeps called.toInCall.keep, codeAny_func ?_⟩
  obtain ⟨t, ht, read⟩ := body cdv A outer s H vs Q p c d zc fld (room.deeper _) want
  have I0 : Inv (L2H.cxH CX0 P w K mg base N x (C8.fnScope st) f cdv A outer s H E0 p) [] (L2.start N vs) H s1 := L2H.inv_startH S pin env size rel called
  refine wpAny_mono (ht.run [] s1 (L2.start N vs) H _ I0 read) (fun fl s2 q => ?_) fun _ _ q => q
  cases fl with
  | ret u =>
    obtain ⟨v, σ2, H2, J, rv, z⟩ := q
    exact ⟨v, H2, J.os, J.bare, J.base, J.hok, rv, z⟩
  | next =>
    obtain ⟨σ2, H2, J, z⟩ := q
    exact ⟨.non, H2, J.os, J.bare, J.base, J.hok, rfl, z⟩
  | brk =>
    obtain ⟨_, _, _, z⟩ := q
    exact z.elim
  | cont =>
    obtain ⟨_, _, _, z⟩ := q
    exact z.elim
section
variable {X : Cx} {p : Addr × Obj} {c : Value} {d : Option Addr} {k : Nat} {f : Addr} {fd : FuncData} {ps : List Str} {sp : SpE} {x : Str} {q pos : Pos} {e : Expr} {es : List Expr} {t : TA} {te : TE}
/-- f(e, ..) where the error is held -/
theorem pe_callE (F : FnE X.prog X.w X.K X.mg X.base k f fd ps sp) (hr : L2H.RoomH k X.A) (hp : p ∈ X.pn) (zc : Zc c d p.2) (fld : ∃ fs, p.2.data = .fields fs) (hg : Gl X x) (hm : X.mg x = some (.ref f)) (hk : PySem.W.keepIn X.K (.ref f) = true) (hb : Binds X.K fd ps [])
    (ha : PA X (e :: es) t) (hdb : (x == ("__debug__" : Str)) = false := by decide) (he : starEach (e :: es) X.env = (false, eval e X.env) :: starEach es X.env := by rfl) (hpl : (backTo pos (starEach es X.env)).any (·.1) = false := by rfl) :
    PE X (.Call (.Name x q) (e :: es) [] pos) (fun σ H Q => t σ H fun vs H1 => sp p.1 c d vs H1 Q E0) := by
  constructor
  intro pins s σ H Q I want
  apply wpAny_Call_Name_kw
  refine ld_glob I hg hm ?_ hdb
  refine PySem.W.callWith_K (h₀ := X.base) I.ok.mod.kin hk (thn (ha.run pos pins s σ H _ I want) ?_) he hpl
  rintro us s1 ⟨vs, H1, J, rel, z⟩
  refine ⟨J.kIn, ?_⟩
  have size : us.length = ps.length := by
    rw [← rel.length]
    exact F.len _ _ _ _ _ _ _ z
  have bind := hb s1 us J.kIn (by rw [List.append_nil]; exact size)
  rw [List.append_nil] at bind
  obtain ⟨p1, p2, p3, p4, p5⟩ := J.pin p (List.mem_append_left _ hp)
  have pin : L2H.PinOk X.stack H1 s1 p := ⟨p1, p2, fun z => (List.mem_cons.mp (J.stkSub p.1 z)).elim p3 p4, p5⟩
  refine wpAny_call (codeAny_mono (F.run X.A X.stack s1 H1 ⟨us, []⟩ us vs Q p c d hr pin zc fld J.env0 bind rel z) ?_)
  intro r s2 got
  cases r with
  | error er => exact got.elim
  | ok fl =>
    cases fl with
    | ret u => exact J.after got
    | next => exact got.elim
    | brk => exact got.elim
    | cont => exact got.elim
/-- the held error is an instance of its class -/
theorem heldAt {pins : List (Addr × Obj)} {σ : L2.St} {H : Hp} {s : Shared} {C dd : Addr} {fs : List (Str × V)} (I : Inv X pins σ H s) (hp : p ∈ X.pn) (zc : Zc (.ref C) (some dd) p.2) (fld : ∃ fs, p.2.data = .fields fs) (hd : H dd = some (.xd fs)) :
    ∃ od, PySem.W.InstAt s.heap p.1 p.2 C (some od) ∧ ∀ n v, fs.lookup n = some v → ∃ u, RelV v u ∧ PySem.W.lookIn n od = some (some u) := by
  obtain ⟨at1, _⟩ := I.pin p (List.mem_append_left _ hp)
  obtain ⟨vs, hdat⟩ := fld
  obtain ⟨mA, hns, hr⟩ := (show ObjOk X.prog X.w H s.heap dd (.xd fs) from I.hok dd _ hd)
  obtain ⟨od, ho, hl⟩ := lookIn_ns hns
  refine ⟨od, ⟨at1, zc.1, by unfold PySem.W.notCls; rw [hdat] <;> rfl, by rw [zc.2]; exact ho⟩, fun n v l => ?_⟩
  obtain ⟨u, hu, ru⟩ := RelO.some_of (v := v) (o := mA n) (by rw [← l]; exact hr n)
  exact ⟨u, ru, by rw [hl, hu]⟩
/-- isinstance(e, T), e the held error -/
theorem call_isX (hp : p ∈ X.pn) (zc : Zc c d p.2) (fld : ∃ fs, p.2.data = .fields fs) : CallR X (.builtin "isinstance") (fun xs H Q => ∃ (C dd : Addr) (fs : List (Str × V)) (y : V) (u : Value) (b : Bool),
    xs = [.ref p.1, y] ∧ c = .ref C ∧ d = some dd ∧ PySem.W.OtCls X.K C ∧ H dd = some (.xd fs) ∧ ClsV y u ∧ PySem.W.kitOne X.K (.ref C) u = some b ∧ Q (.bl b) H) := by
  rintro pins s σ H xs us Q I rel ⟨C, dd, fs, y, u, b, rfl, rfl, rfl, T, hd, hy, hb, z⟩
  obtain ⟨u1, u2, rfl, r1, r2⟩ := vals2 rel
  cases (show u1 = Value.ref p.1 from r1)
  cases hy.eq r2
  obtain ⟨od, J, _⟩ := heldAt I hp zc fld hd
  have isC : (PySem.W.clsIn X.K C).isSome = true := by
    obtain ⟨cd, q, _⟩ := PySem.W.any_some T.hdct
    rw [q]
    rfl
  exact PySem.W.kia_one (PySem.W.kitx_exc isC T.hga T.hgt T.hsub T.ha T.hn T.htk T.hm) I.kIn J hb (fun z => nomatch z) fun tk => ⟨.bl b, H, I.tok tk, rfl, z⟩
/-- e.n, e the held error, n a field of its own -/
theorem pe_fX {n : Str} (hp : p ∈ X.pn) (zc : Zc c d p.2) (fld : ∃ fs, p.2.data = .fields fs) (he : PE X e te) (hb : attributeBase e n X.env (eval e X.env) = eval e X.env := by rfl) :
    PE X (.Attribute e n pos) (fun σ H Q => te σ H fun y H1 => ∃ (C dd : Addr) (fs : List (Str × V)) (v : V), y = .ref p.1 ∧ c = .ref C ∧ d = some dd ∧ PySem.W.OtCls X.K C ∧ PySem.W.findIn X.K (.ref C) n = some none ∧ H1 dd = some (.xd fs) ∧ fs.lookup n = some v ∧ Q v H1) := by
  constructor
  intro pins s σ H Q I want
  refine attr_of hb (thn (he.run pins s σ H _ I want) ?_)
  rintro u s1 ⟨y, H1, J1, ry, C, dd, fs, v, rfl, rfl, rfl, T, hno, hd, hl, z⟩
  obtain rfl : u = Value.ref p.1 := ry
  obtain ⟨od, J, look⟩ := heldAt J1 hp zc fld hd
  obtain ⟨w1, rw1, lw⟩ := look n v hl
  exact HandSPX.exc_get J1.kIn J T.hga T.hgt T.hsub (PySem.W.findObj_own T.hdct hno rfl lw) (handed_of rw1) ⟨v, H1, J1.tok _, rw1, z⟩
end
end L2

namespace OT
open PySem
theorem b_int : bootBuiltins "int" = some (.type "int") := by decide +kernel
theorem b_str : bootBuiltins "str" = some (.type "str") := by decide +kernel
theorem b_bool : bootBuiltins "bool" = some (.type "bool") := by decide +kernel
theorem b_list : bootBuiltins "list" = some (.type "list") := by decide +kernel
theorem b_tuple : bootBuiltins "tuple" = some (.type "tuple") := by decide +kernel
theorem b_len : bootBuiltins "len" = some (.builtin "len") := by decide +kernel
theorem b_isinstance : bootBuiltins "isinstance" = some (.builtin "isinstance") := by decide +kernel
theorem b_any : bootBuiltins "any" = some (.builtin "any") := by decide +kernel
theorem b_all : bootBuiltins "all" = some (.builtin "all") := by decide +kernel
theorem b_sum : bootBuiltins "sum" = some (.builtin "sum") := by decide +kernel
theorem b_min : bootBuiltins "min" = some (.builtin "min") := by decide +kernel
theorem b_max : bootBuiltins "max" = some (.builtin "max") := by decide +kernel
theorem b_sorted : bootBuiltins "sorted" = some (.builtin "sorted") := by decide +kernel
theorem b_abs : bootBuiltins "abs" = some (.builtin "abs") := by decide +kernel
theorem b_ValueError : bootBuiltins "ValueError" = some (.type "ValueError") := by decide +kernel
end OT

set_option Elab.async false
set_option linter.all false
set_option maxRecDepth 100000
set_option maxHeartbeats 2000000
/-! Rows: sorted keys of a dict whose keys are tuples of ints; valid rows. -/
namespace L2
open PySem PySem.Spec PyProof.Rows
section
/-- what a sort leaves: the same values, ascending by their keys -/
theorem sort_left {κ : KeyKind} {vs : List Value} {a : Array Keyed} (perm : a.Perm (pairsOf vs)) (srt : SortedToK κ a (pairsOf vs).size) :
    (a.toList.map (·.2)).Perm vs ∧ (a.toList.map (·.2)).Pairwise fun x y => ∀ k l, κ.keyOf x = some k → κ.keyOf y = some l → κ.kle k l := by
  have pl : a.toList.Perm (vs.zip vs) := by
    rw [← pairsOf_toList]
    exact Array.perm_iff_toList_perm.mp perm
  have diag : ∀ p ∈ a.toList, p.1 = p.2 := fun p hp => (mem_zip_self (pl.mem_iff.mp hp)).1
  constructor
  · have e : (vs.zip vs).map (·.2) = vs := by
      rw [List.map_snd_zip]
      exact Nat.le_refl _
    have q := pl.map (·.2)
    rw [e] at q
    exact q
  · rw [List.pairwise_map, List.pairwise_iff_getElem]
    intro i j hi hj hij k l hk hl
    have hn : a.size = (pairsOf vs).size := perm.size_eq
    rw [Array.length_toList] at hi hj
    have s := srt i j (Nat.le_of_lt hij) (by omega)
    have at_ : ∀ n (h : n < a.size), ∀ m, κ.keyOf a.toList[n].2 = some m → KK κ a n = m := fun n h m hm => by
      unfold KK
      rw [Array.getElem?_eq_getElem h]
      have d := diag a.toList[n] (List.getElem_mem _)
      rw [← d] at hm
      rw [Array.getElem_toList] at hm
      dsimp only
      rw [hm]
      rfl
    rw [at_ i hi k hk, at_ j hj l hl] at s
    exact s
theorem lexLt_inl : ∀ k l : List Int, PyProof.Rows.lexLt itemOrd (k.map Sum.inl) (l.map Sum.inl) = HT.lexLt k l
  | [], [] => rfl
  | [], _ :: _ => rfl
  | _ :: _, [] => rfl
  | x :: r, y :: t => by
    rw [List.map_cons, List.map_cons, PyProof.Rows.lex_cons, lexLt_inl r t, HT.lexLt_cons]
    show (decide (x < y) || (!decide (y < x) && HT.lexLt r t)) = _
    by_cases h : x = y
    · rw [if_pos h, decide_eq_false (by omega), decide_eq_false (by omega)]
      rfl
    · rw [if_neg h]
      by_cases h2 : x < y
      · rw [decide_eq_true h2]
        rfl
      · rw [decide_eq_false h2, decide_eq_true (show y < x by omega)]
        rfl
theorem tupItems_ints : ∀ (ns : List Int) (us : List Value) (i : Nat), Vals (ns.map V.int) us → tupItems (fun _ => false) i us = some (ns.map Sum.inl)
  | [], _, _, .nil => rfl
  | n :: ns, _ :: us, i, .cons r t => by
    obtain ⟨tk, rfl⟩ := (show ∃ tk, _ = Value.int n tk from r)
    show (if (false : Bool) = true then none else (tupItems (fun _ => false) (i + 1) us).map (Sum.inl n :: ·)) = _
    rw [if_neg Bool.false_ne_true, tupItems_ints ns us (i + 1) t]
    rfl
theorem ints_inj : ∀ {k l : List Int}, k.map V.int = l.map V.int → k = l
  | [], [], _ => rfl
  | [], _ :: _, h => by cases h
  | _ :: _, [], h => by cases h
  | x :: r, y :: t, h => by
    rw [List.map_cons, List.map_cons] at h
    obtain ⟨e, h⟩ := List.cons.inj h
    rw [V.int.inj e, ints_inj h]
theorem vals_refs' : ∀ out : List (Addr × List Int), Vals (out.map fun x => V.ref x.1) (out.map fun x => Value.ref x.1)
  | [] => .nil
  | _ :: r => .cons rfl (vals_refs' r)
variable {X : Cx}
/-- sorted(d), the keys of d tuples of ints -/
theorem cr_sortedDT (hcalm : X.calm = true) : CallR X (.builtin "sorted") (fun xs H Q => ∃ (d : Addr) (kvs : List (List Key × V)) (ks : List (List Int)), xs = [.ref d] ∧ Rd H d (.dT kvs) ∧ kvs.map (·.1) = ks.map (fun k => k.map Sum.inl) ∧ (2 ≤ ks.length → ∀ k ∈ ks, k ≠ []) ∧
    ∀ (out : List (Addr × List Int)) (p : Addr), (out.map (·.2)).Perm ks → (out.map (·.2)).Pairwise (fun a b => HT.lexLt b a = false) → ks.Nodup → (∀ x ∈ out, H x.1 = some (.tup (x.2.map V.int))) → H p = none → Q (.ref p) (upd H p (.lst (out.map fun x => V.ref x.1)))) := by
  rintro pins s σ H xs us Q I rel ⟨d, kvs, ks, rfl, hd, hks, hne, want⟩
  obtain ⟨u, rfl, rx⟩ := rel.one
  cases rx
  obtain ⟨z, hs, xs, pr, o, es, ep, ho, hx, hdt, he, hn⟩ := (show ObjOk X.prog X.w H s.heap d (.dT kvs) from hd.ok I.hok)
  have l1 : es.size = xs.length := size_of_entries he
  have l2 : kvs.length = xs.length := Paired.length pr
  -- the keys' addresses
  have keyed : ∀ (kvs : List (List Key × V)) (xs : List (List Key × Addr × Value)) (ks : List (List Int)), Paired (fun (p : List Key × V) (q : List Key × Addr × Value) => p.1 = q.1 ∧ H q.2.1 = some (.tup (p.1.map kV)) ∧ RelV p.2 q.2.2) kvs xs → kvs.map (·.1) = ks.map (fun k => k.map Sum.inl) →
      xs.map (·.1) = ks.map (fun k => k.map Sum.inl) ∧ ∀ x ∈ (xs.map (·.2.1)).zip ks, H x.1 = some (.tup (x.2.map V.int)) := by
    intro kvs
    induction kvs with
    | nil =>
      intro xs ks pr hks
      cases pr
      cases ks with
      | nil => exact ⟨rfl, fun x hx => by cases hx⟩
      | cons k r => cases hks
    | cons a r ih =>
      intro xs ks pr hks
      cases pr with
      | cons h t =>
        rename_i q xs'
        cases ks with
        | nil => cases hks
        | cons k ks' =>
          obtain ⟨e1', e2⟩ := List.cons.inj hks
          have e1 : a.1 = k.map Sum.inl := e1'
          obtain ⟨i1, i2⟩ := ih _ _ t e2
          obtain ⟨h1, h2, _⟩ := h
          refine ⟨?_, fun x hx => ?_⟩
          · rw [List.map_cons, List.map_cons, i1, ← h1, e1]
          · rw [List.map_cons, List.zip_cons_cons] at hx
            rcases List.mem_cons.mp hx with e | hx
            · rw [e]
              show H q.2.1 = _
              rw [h2, e1, List.map_map]
              rfl
            · exact i2 x hx
  obtain ⟨kx, held⟩ := keyed kvs xs ks pr hks
  have lk : xs.length = ks.length := by
    have := congrArg List.length kx
    rwa [List.length_map, List.length_map] at this
  have nod : ks.Nodup := by
    rw [kx] at hn
    exact nodup_of_map hn
  apply Calls.call_function_entry kind_sorted plain_sorted entry_sorted (args_sorted1 (.ref d))
  unfold Builtin.«sorted»
  apply wpAny_bind (m := checkCount "sorted" 1 1 _)
  apply wpAny_pure
  refine wpAny_bind (PySem.W.kdu_collect (A := X.A.in1) (kdl_raw hs hx hdt) (I.ok.hd hcalm) ho (by omega) fun h' tk got hk hacc => ?_)
  have ea : got.toList = (xs.map (·.2.1)).map Value.ref := by
    have hl : got.toList.length = xs.length := by rw [Array.length_toList, hacc.1]; exact l1
    apply List.ext_getElem
    · rw [hl, List.length_map, List.length_map]
    · intro j hj1 hj2
      have g1 : got[j]? = some got.toList[j] := by
        rw [← Array.getElem?_toList]
        exact List.getElem?_eq_getElem hj1
      obtain ⟨en, hen, hv⟩ := hacc.2 j _ g1
      have qe := entry_at he j
      have hjx : j < xs.length := by omega
      rw [hen, List.getElem?_eq_getElem hjx] at qe
      have e2 := Option.some.inj qe
      rw [hv, e2, List.getElem_map, List.getElem_map]
      rfl
  have J1 : Inv X pins σ H { s with heap := h', toks := tk } := I.kept hk
  have gotk : got.toList.length = ks.length := by rw [ea, List.length_map, List.length_map, lk]
  have fits : got.toList.length ≤ sizeLine := by omega
  apply wpAny_bind
  refine wpAny_newList ?_ fits
  have atL : (h'.push (seqObj "list" got.toList.toArray 0)).get? h'.objs.size = some (seqObj "list" got.toList.toArray 0) := Heap.get?_push_size _ rfl
  show wpAny _ _ _ _ _ { s with heap := h'.push (seqObj "list" got.toList.toArray 0), toks := tk }
  -- each key stands in the heap
  have stands : ∀ (a : Addr) (k : List Int), H a = some (.tup (k.map V.int)) → ∃ its : List Value, Vals (k.map V.int) its ∧ IsTup h' a its.toArray := fun a k e => by
    obtain ⟨_, its, rv, it⟩ := (show ObjOk X.prog X.w H h' a (.tup (k.map V.int)) from J1.hok a _ e)
    exact ⟨its, rv, it⟩
  have keyOf : ∀ (a : Addr) (k : List Int), H a = some (.tup (k.map V.int)) → PyProof.Rows.G.tupKeyC (h'.push (seqObj "list" got.toList.toArray 0)) (fun _ => false) (.ref a) = some (k.map Sum.inl) := fun a k e => by
    obtain ⟨its, rv, ob, h1, h2, n, h3⟩ := stands a k e
    have g : (h'.push (seqObj "list" got.toList.toArray 0)).get? a = some ob := Heap.get?_push_of_some _ h1
    have it : PyProof.Rows.G.isTupObj (h'.push (seqObj "list" got.toList.toArray 0)) (.ref a) = true := by
      simp only [PyProof.Rows.G.isTupObj, g, h2]
      rfl
    unfold PyProof.Rows.G.tupKeyC
    rw [if_pos it]
    unfold tupKey
    dsimp only
    rw [g]
    dsimp only
    rw [h3]
    dsimp only
    exact tupItems_ints k its 0 rv
  have zipped : ∀ v ∈ got.toList, ∃ a k, v = Value.ref a ∧ k ∈ ks ∧ H a = some (.tup (k.map V.int)) := fun v hv => by
    obtain ⟨j, hj, e⟩ := List.getElem_of_mem hv
    have hjk : j < ks.length := by omega
    have hjx : j < (xs.map (·.2.1)).length := by rw [List.length_map]; omega
    have ev : v = Value.ref (xs.map (·.2.1))[j] := by
      rw [← e]
      simp only [ea, List.getElem_map]
    refine ⟨_, ks[j], ev, List.getElem_mem _, held ((xs.map (·.2.1))[j], ks[j]) ?_⟩
    rw [List.mem_iff_getElem]
    refine ⟨j, by rw [List.length_zip]; omega, ?_⟩
    rw [List.getElem_zip]
  have keys : KeysOf (PyProof.Rows.G.tupKindC (h'.push (seqObj "list" got.toList.toArray 0)) fun _ => false) (pairsOf got.toList) := PyProof.Rows.G.tupKeys fun v hv => by
    obtain ⟨a, k, rfl, _, hk⟩ := zipped v hv
    exact ⟨_, keyOf a k hk⟩
  have k6 := PyProof.Rows.G.keeps_sort6 (vs := got.toList) atL
  have tups : 2 ≤ got.toList.length → ∃ fs, 0 < fs.length ∧ TupsOf (h'.push (seqObj "list" got.toList.toArray 0)) (fun _ => false) got.toList fs := fun h2 => by
    have each : ∀ l : List Value, (∀ v ∈ l, ∃ a k, v = Value.ref a ∧ k ∈ ks ∧ H a = some (.tup (k.map V.int))) → ∃ fs, fs.length = l.length ∧ TupsOf (h'.push (seqObj "list" got.toList.toArray 0)) (fun _ => false) l fs := by
      intro l
      induction l with
      | nil => exact fun _ => ⟨[], rfl, .nil⟩
      | cons v r ih =>
        intro hv
        obtain ⟨fs, hl, ht⟩ := ih fun y hy => hv y (List.mem_cons_of_mem _ hy)
        obtain ⟨a, k, rfl, hm, hk⟩ := hv v List.mem_cons_self
        obtain ⟨its, rv, ob, h1, h2', n, h3⟩ := stands a k hk
        cases k with
        | nil => exact absurd rfl (hne (by omega) [] hm)
        | cons i k =>
          cases rv with
          | @cons _ u0 _ ur r0 rt =>
            obtain ⟨tk0, rfl⟩ := (show ∃ tk, u0 = Value.int i tk from r0)
            exact ⟨.int i tk0 :: fs, by rw [List.length_cons, List.length_cons, hl], .cons ⟨a, ob, _, n, rfl, Heap.get?_push_of_some _ h1, h2', h3, rfl, fun _ => ⟨i, tk0, rfl⟩, fun z => by cases z⟩ ht⟩
    obtain ⟨fs, hl, ht⟩ := each got.toList zipped
    exact ⟨fs, by omega, ht⟩
  refine wpAny_bind (wpAny_holding (wpAny_call_entry PyProof.Rows.slot_list_sort ⟨_, atL, rfl⟩ PyProof.Rows.entry_list_sort
    (PyProof.Rows.G.list_sort_treeG (κ := PyProof.Rows.G.tupKindC (h'.push (seqObj "list" got.toList.toArray 0)) fun _ => false) (kd := tuples' true) (s := { s with heap := h'.push (seqObj "list" got.toList.toArray 0), toks := tk }) atL keys
      (PyProof.Rows.G.tupC_ltAt true k6) (fun h2 R hq => ?kind) fits fun st' a1 a2 a3 => ⟨_, rfl, ?ret⟩) (PyProof.Rows.args_list_sort _)))
  case kind =>
    obtain ⟨fs, hl, ht⟩ := tups h2
    exact tup_kind hl (PyProof.Rows.G.TupsOf.keep k6 ht) hq
  case ret =>
    obtain ⟨o1, o2⟩ := sort_left a1 a2
    have out : ∃ out : List (Addr × List Int), (arrOf st').toList.map (·.2) = out.map (fun x => Value.ref x.1) ∧ ∀ x ∈ out, H x.1 = some (.tup (x.2.map V.int)) := by
      have each : ∀ l : List Value, (∀ v ∈ l, v ∈ got.toList) → ∃ out : List (Addr × List Int), l = out.map (fun x => Value.ref x.1) ∧ ∀ x ∈ out, H x.1 = some (.tup (x.2.map V.int)) := by
        intro l
        induction l with
        | nil => exact fun _ => ⟨[], rfl, fun x hx => by cases hx⟩
        | cons v r ih =>
          intro hv
          obtain ⟨out, e, ho'⟩ := ih fun y hy => hv y (List.mem_cons_of_mem _ hy)
          obtain ⟨a, k, rfl, _, hk⟩ := zipped v (hv v List.mem_cons_self)
          refine ⟨(a, k) :: out, by rw [List.map_cons, e], fun x hx => ?_⟩
          rcases List.mem_cons.mp hx with e' | hx
          · rw [e']
            exact hk
          · exact ho' x hx
      exact each _ fun v hv => o1.mem_iff.mp hv
    obtain ⟨out, eo, ho'⟩ := out
    obtain ⟨ep', he'⟩ := PyProof.Rows.sortedHeap_at (vs := got.toList) (out := (arrOf st').map (·.2)) atL
    have oz : out.length ≤ sizeLine := by
      have e1 := congrArg List.length eo
      have e2 := o1.length_eq
      rw [List.length_map] at e1 e2
      rw [List.length_map] at e1
      omega
    have inj : ∀ (a : Addr) (k l : List Int), H a = some (.tup (k.map V.int)) → H a = some (.tup (l.map V.int)) → k = l := fun a k l h1 h2 => by
      rw [h1] at h2
      exact ints_inj (HO.tup.inj (Option.some.inj h2))
    refine wpAny_pure ⟨_, rfl, .ref h'.objs.size, upd H h'.objs.size (.lst (out.map fun x => V.ref x.1)), J1.laid (t' := tk) (fun b u q => ?old) (Nat.le_refl _) ⟨by rw [List.length_map]; exact oz, ((arrOf st').map (·.2)).toList, ep', ?vals, he'⟩, rfl, want out _ ?perm ?pw nod ho' (J1.hok.fresh (Nat.le_refl _))⟩
    case old =>
      rw [PyProof.Rows.sortedHeap_old (Nat.ne_of_lt (Heap.lt_size q)) (Nat.lt_of_lt_of_le (Heap.lt_size q) (by rw [size_push']; exact Nat.le_succ _))]
      exact Heap.get?_push_of_some _ q
    case vals =>
      rw [Array.toList_map, eo]
      exact vals_refs' out
    case perm =>
      have p1 : (out.map (fun x => Value.ref x.1)).Perm got.toList := by rw [← eo]; exact o1
      have rd : ∀ v : Value, ∃ k : List Int, ∀ (a : Addr) (l : List Int), v = .ref a → H a = some (.tup (l.map V.int)) → k = l := fun v => by
        by_cases h : ∃ (a : Addr) (l : List Int), v = .ref a ∧ H a = some (.tup (l.map V.int))
        · obtain ⟨a, l, e, h⟩ := h
          refine ⟨l, fun a' l' e' h' => ?_⟩
          cases e.symm.trans e'
          exact inj _ _ _ h h'
        · exact ⟨[], fun a l e h' => absurd ⟨a, l, e, h'⟩ h⟩
      have p2 := p1.map fun v => (rd v).choose
      rw [List.map_map] at p2
      have e1 : out.map (((fun v => (rd v).choose)) ∘ fun x => Value.ref x.1) = out.map (·.2) := List.map_congr_left fun x hx => (rd (.ref x.1)).choose_spec _ _ rfl (ho' x hx)
      have e2 : got.toList.map (fun v => (rd v).choose) = ks := by
        apply List.ext_getElem
        · rw [List.length_map]; exact gotk
        · intro j h1 h2
          have h3 : j < (xs.map (·.2.1)).length := by rw [List.length_map]; omega
          rw [List.getElem_map]
          have ev : got.toList[j]'(by omega) = Value.ref (xs.map (·.2.1))[j] := by simp only [ea, List.getElem_map]
          refine (rd _).choose_spec _ _ ev (held ((xs.map (·.2.1))[j], ks[j]) ?_)
          rw [List.mem_iff_getElem]
          refine ⟨j, by rw [List.length_zip]; omega, ?_⟩
          rw [List.getElem_zip]
      rw [e1, e2] at p2
      exact p2
    case pw =>
      rw [eo, List.pairwise_map] at o2
      rw [List.pairwise_map]
      refine List.Pairwise.imp_of_mem (fun {x y} hx hy h => ?_) o2
      have hle := h _ _ (keyOf x.1 x.2 (ho' x hx)) (keyOf y.1 y.2 (ho' y hy))
      rw [← lexLt_inl]
      exact hle
end
end L2

set_option Elab.async false
set_option linter.all false
set_option maxRecDepth 100000
set_option maxHeartbeats 2000000
/-! rows: what a list of entries sums to, and the one row of the sums -/
namespace OT
open PySem PySem.Spec PyProof.Rows L2
abbrev Pl := List Int
abbrev Ent := List Int × Int
def numAt : List Ent → Pl → Int
  | [], _ => 0
  | e :: r, q => (if e.1 = q then e.2 else 0) + numAt r q
theorem numAt_app : ∀ (a b : List Ent) (q : Pl), numAt (a ++ b) q = numAt a q + numAt b q
  | [], b, q => by
    show numAt b q = 0 + numAt b q
    omega
  | e :: r, b, q => by
    show (if e.1 = q then e.2 else 0) + numAt (r ++ b) q = (if e.1 = q then e.2 else 0) + numAt r q + numAt b q
    rw [numAt_app r b q]
    omega
theorem numAt_out {es : List Ent} {q : Pl} (h : ∀ e ∈ es, e.1 ≠ q) : numAt es q = 0 := by
  induction es with
  | nil => rfl
  | cons e r ih =>
    show (if e.1 = q then e.2 else 0) + numAt r q = 0
    rw [if_neg (h e List.mem_cons_self), ih fun x hx => h x (List.mem_cons_of_mem _ hx)]
    rfl
theorem lt_irr (k : Pl) : HT.lexLt k k = false := by
  rw [← lexLt_inl]
  exact PyProof.Rows.lex_irrefl _
theorem lt_trans {a b c : Pl} (h1 : HT.lexLt a b = true) (h2 : HT.lexLt b c = true) : HT.lexLt a c = true := by
  rw [← lexLt_inl] at *
  exact PyProof.Rows.lex_trans _ _ _ h1 h2
theorem inl_inj {β : Type} : ∀ {a b : Pl}, a.map (Sum.inl : Int → Int ⊕ β) = b.map Sum.inl → a = b
  | [], [], _ => rfl
  | [], _ :: _, h => by cases h
  | _ :: _, [], h => by cases h
  | x :: r, y :: t, h => by
    rw [List.map_cons, List.map_cons] at h
    obtain ⟨e, h⟩ := List.cons.inj h
    rw [Sum.inl.inj e, inl_inj h]
theorem lt_tot {a b : Pl} (h1 : HT.lexLt a b = false) (h2 : HT.lexLt b a = false) : a = b := by
  rw [← lexLt_inl] at *
  exact inl_inj (PyProof.Rows.lex_total _ _ h1 h2)
theorem lt_ne {a b : Pl} (h : HT.lexLt a b = true) : a ≠ b := by
  rintro rfl
  rw [lt_irr] at h
  cases h
structure Valid (r : List Ent) : Prop where
  asc : r.Pairwise fun a b => HT.lexLt a.1 b.1 = true
  nz : ∀ e ∈ r, e.2 ≠ 0
theorem Valid.tail {e : Ent} {r : List Ent} (h : Valid (e :: r)) : Valid r := ⟨(List.pairwise_cons.mp h.asc).2, fun x hx => h.nz x (List.mem_cons_of_mem _ hx)⟩
theorem Valid.head_out {e : Ent} {r : List Ent} (h : Valid (e :: r)) {q : Pl} (hq : q = e.1 ∨ HT.lexLt q e.1 = true) : numAt r q = 0 := by
  refine numAt_out fun x hx z => ?_
  have h1 := (List.pairwise_cons.mp h.asc).1 x hx
  rcases hq with rfl | hq
  · exact lt_ne h1 z.symm
  · exact lt_ne (lt_trans hq h1) z.symm
theorem Valid.head_at {e : Ent} {r : List Ent} (h : Valid (e :: r)) : numAt (e :: r) e.1 = e.2 := by
  show (if e.1 = e.1 then e.2 else 0) + numAt r e.1 = e.2
  rw [if_pos rfl, h.head_out (.inl rfl)]
  omega
theorem Valid.low {e : Ent} {r : List Ent} (h : Valid (e :: r)) {q : Pl} (hq : HT.lexLt q e.1 = true) : numAt (e :: r) q = 0 := by
  show (if e.1 = q then e.2 else 0) + numAt r q = 0
  rw [if_neg (fun z => lt_ne hq z.symm), h.head_out (.inr hq)]
  rfl
theorem Valid.ext : ∀ {r t : List Ent}, Valid r → Valid t → (∀ q, numAt r q = numAt t q) → r = t
  | [], [], _, _, _ => rfl
  | [], e :: t, _, ht, h => by
    have h1 := h e.1
    rw [ht.head_at] at h1
    exact absurd h1.symm (ht.nz e List.mem_cons_self)
  | e :: r, [], hr, _, h => by
    have h1 := h e.1
    rw [hr.head_at] at h1
    exact absurd h1 (hr.nz e List.mem_cons_self)
  | e :: r, f :: t, hr, ht, h => by
    have k : e.1 = f.1 := by
      refine lt_tot ?_ ?_
      · cases z : HT.lexLt e.1 f.1 with
        | false => rfl
        | true =>
          have h1 := h e.1
          rw [hr.head_at, ht.low z] at h1
          exact absurd h1 (hr.nz e List.mem_cons_self)
      · cases z : HT.lexLt f.1 e.1 with
        | false => rfl
        | true =>
          have h1 := h f.1
          rw [ht.head_at, hr.low z] at h1
          exact absurd h1.symm (ht.nz f List.mem_cons_self)
    have n : e.2 = f.2 := by
      have h1 := h e.1
      rw [hr.head_at, k, ht.head_at] at h1
      exact h1
    have ef : e = f := Prod.ext k n
    subst ef
    refine congrArg _ (Valid.ext hr.tail ht.tail fun q => ?_)
    have h1 := h q
    have h2 : (if e.1 = q then e.2 else 0) + numAt r q = (if e.1 = q then e.2 else 0) + numAt t q := h1
    omega
/-- the row of the sums -/
structure RowIs (r es : List Ent) : Prop where
  v : Valid r
  s : ∀ q, numAt r q = numAt es q
theorem RowIs.one {r t es : List Ent} (h1 : RowIs r es) (h2 : RowIs t es) : r = t := h1.v.ext h2.v fun q => (h1.s q).trans (h2.s q).symm
theorem Valid.at : ∀ {r : List Ent}, Valid r → ∀ e ∈ r, numAt r e.1 = e.2
  | f :: t, h, e, he => by
    rcases List.mem_cons.mp he with rfl | he
    · exact h.head_at
    · show (if f.1 = e.1 then f.2 else 0) + numAt t e.1 = e.2
      rw [if_neg (lt_ne ((List.pairwise_cons.mp h.asc).1 e he)), Valid.at h.tail e he]
      omega
theorem RowIs.mem {r es : List Ent} (h : RowIs r es) {e : Ent} (he : e ∈ r) : ∃ x ∈ es, x.1 = e.1 := by
  have h1 := h.v.at e he
  rw [h.s] at h1
  by_cases z : ∃ x ∈ es, x.1 = e.1
  · exact z
  · rw [numAt_out fun x hx y => z ⟨x, hx, y⟩] at h1
    exact absurd h1.symm (h.v.nz e he)
theorem Valid.len : ∀ {r : List Ent} {l : List Pl}, Valid r → (∀ e ∈ r, e.1 ∈ l) → r.length ≤ l.length
  | [], _, _, _ => Nat.zero_le _
  | e :: t, l, h, k => by
    have h1 := k e List.mem_cons_self
    have ih := Valid.len (l := l.erase e.1) h.tail fun x hx => (List.mem_erase_of_ne (lt_ne ((List.pairwise_cons.mp h.asc).1 x hx)).symm).mpr (k x (List.mem_cons_of_mem _ hx))
    rw [List.length_erase_of_mem h1] at ih
    have h2 := List.length_pos_of_mem h1
    rw [List.length_cons]
    omega
theorem RowIs.len {r es : List Ent} (h : RowIs r es) : r.length ≤ es.length := by
  have := h.v.len (l := es.map (·.1)) fun e he => by
    obtain ⟨x, hx, ex⟩ := h.mem he
    rw [← ex]
    exact List.mem_map_of_mem hx
  rwa [List.length_map] at this
/-- the entries of the keys in turn -/
def mkR (f : Pl → Int) : List Pl → List Ent
  | [] => []
  | k :: r => if f k = 0 then mkR f r else (k, f k) :: mkR f r
theorem mkR_snoc (f : Pl → Int) (k : Pl) : ∀ ks : List Pl, mkR f (ks ++ [k]) = mkR f ks ++ (if f k = 0 then [] else [(k, f k)])
  | [] => by
    show (if f k = 0 then [] else [(k, f k)]) = [] ++ _
    rw [List.nil_append]
  | x :: r => by
    show (if f x = 0 then mkR f (r ++ [k]) else (x, f x) :: mkR f (r ++ [k])) = (if f x = 0 then mkR f r else (x, f x) :: mkR f r) ++ _
    rw [mkR_snoc f k r]
    by_cases h : f x = 0
    · rw [if_pos h, if_pos h]
    · rw [if_neg h, if_neg h]
      rfl
theorem mkR_mem {f : Pl → Int} {e : Ent} : ∀ {ks : List Pl}, e ∈ mkR f ks → e.1 ∈ ks ∧ e.2 = f e.1 ∧ e.2 ≠ 0
  | k :: r, h => by
    have h' : e ∈ (if f k = 0 then mkR f r else (k, f k) :: mkR f r) := h
    by_cases z : f k = 0
    · rw [if_pos z] at h'
      obtain ⟨h1, h2⟩ := mkR_mem h'
      exact ⟨List.mem_cons_of_mem _ h1, h2⟩
    · rw [if_neg z] at h'
      rcases List.mem_cons.mp h' with rfl | h'
      · exact ⟨List.mem_cons_self, rfl, z⟩
      · obtain ⟨h1, h2⟩ := mkR_mem h'
        exact ⟨List.mem_cons_of_mem _ h1, h2⟩
theorem mkR_valid {f : Pl → Int} : ∀ {ks : List Pl}, ks.Pairwise (fun a b => HT.lexLt a b = true) → Valid (mkR f ks)
  | [], _ => ⟨.nil, fun e h => by cases h⟩
  | k :: r, h => by
    obtain ⟨h1, h2⟩ := List.pairwise_cons.mp h
    have ih := mkR_valid (f := f) h2
    show Valid (if f k = 0 then mkR f r else (k, f k) :: mkR f r)
    by_cases z : f k = 0
    · rw [if_pos z]
      exact ih
    · rw [if_neg z]
      refine ⟨List.pairwise_cons.mpr ⟨fun e he => h1 _ (mkR_mem he).1, ih.asc⟩, fun e he => ?_⟩
      rcases List.mem_cons.mp he with rfl | he
      · exact z
      · exact ih.nz e he
theorem mkR_sum {f : Pl → Int} : ∀ {ks : List Pl}, ks.Nodup → ∀ q, numAt (mkR f ks) q = if q ∈ ks then f q else 0
  | [], _, q => rfl
  | k :: r, h, q => by
    obtain ⟨h1, h2⟩ := List.nodup_cons.mp h
    have ih := mkR_sum (f := f) h2 q
    show numAt (if f k = 0 then mkR f r else (k, f k) :: mkR f r) q = _
    have key : numAt (if f k = 0 then mkR f r else (k, f k) :: mkR f r) q = (if k = q then f k else 0) + numAt (mkR f r) q := by
      by_cases z : f k = 0
      · rw [if_pos z, z, ite_self]
        omega
      · rw [if_neg z]
        rfl
    rw [key, ih]
    by_cases e : k = q
    · subst e
      rw [if_pos rfl, if_neg h1, if_pos List.mem_cons_self]
      omega
    · rw [if_neg e]
      by_cases m : q ∈ r
      · rw [if_pos m, if_pos (List.mem_cons_of_mem _ m)]
        omega
      · rw [if_neg m, if_neg]
        · rfl
        · intro hq
          rcases List.mem_cons.mp hq with rfl | hq
          · exact e rfl
          · exact m hq
/-- a dict of sums: its keys are ks, at k it holds f k -/
structure Sums (kvs : List (List Key × V)) (ks : List Pl) (f : Pl → Int) : Prop where
  keys : kvs.map (·.1) = ks.map fun k => k.map Sum.inl
  val : ∀ k : Pl, valV kvs (k.map Sum.inl) = if k ∈ ks then some (V.int (f k)) else none
  out : ∀ k, k ∉ ks → f k = 0
theorem Sums.nil : Sums [] [] (fun _ => 0) := ⟨rfl, fun k => rfl, fun _ _ => rfl⟩
theorem Sums.len {kvs : List (List Key × V)} {ks : List Pl} {f : Pl → Int} (h : Sums kvs ks f) : kvs.length = ks.length := by
  have := congrArg List.length h.keys
  rwa [List.length_map, List.length_map] at this
theorem putK_keys {κ : Type} [DecidableEq κ] {kvs : List (κ × V)} {k : κ} {v : V} (h : (valV kvs k).isSome = true) : (putK kvs k v).map (·.1) = kvs.map (·.1) := by
  unfold putK
  rw [valV_any, if_pos h, List.map_map]
  refine List.map_congr_left fun x _ => ?_
  show (if x.1 = k then (x.1, v) else x).1 = x.1
  by_cases e : x.1 = k
  · rw [if_pos e]
  · rw [if_neg e]
theorem Sums.put {kvs : List (List Key × V)} {ks : List Pl} {f : Pl → Int} (h : Sums kvs ks f) (k : Pl) (n : Int) :
    Sums (putK kvs (k.map Sum.inl) (.int (f k + n))) (if k ∈ ks then ks else ks ++ [k]) (fun q => f q + if k = q then n else 0) := by
  have hv := h.val k
  refine ⟨?_, fun q => ?_, fun q hq => ?_⟩
  · by_cases m : k ∈ ks
    · rw [if_pos m] at hv ⊢
      rw [putK_keys (by rw [hv]; rfl), h.keys]
    · rw [if_neg m] at hv ⊢
      rw [putK_new _ hv, List.map_append, List.map_append, h.keys]
      rfl
  · rw [valV_put, h.val]
    by_cases e : q = k
    · subst e
      rw [if_pos rfl, if_pos rfl, if_pos]
      by_cases m : q ∈ ks
      · rw [if_pos m]
        exact m
      · rw [if_neg m]
        exact List.mem_append_right _ List.mem_cons_self
    · have ne1 : ¬ (q.map (Sum.inl : Int → Key) = k.map Sum.inl) := fun z => e (inl_inj z)
      have ne2 : ¬ (k = q) := fun z => e z.symm
      rw [if_neg ne1, if_neg ne2]
      have mm : (q ∈ if k ∈ ks then ks else ks ++ [k]) ↔ q ∈ ks := by
        by_cases m : k ∈ ks
        · rw [if_pos m]
        · rw [if_neg m, List.mem_append, List.mem_singleton]
          exact ⟨fun z => z.elim id fun z => absurd z e, .inl⟩
      by_cases m : q ∈ ks
      · rw [if_pos m, if_pos (mm.mpr m), Int.add_zero]
      · rw [if_neg m, if_neg (fun z => m (mm.mp z))]
  · have hq2 : q ∉ ks ∧ k ≠ q := by
      by_cases m : k ∈ ks
      · rw [if_pos m] at hq
        exact ⟨hq, fun z => hq (z ▸ m)⟩
      · rw [if_neg m] at hq
        exact ⟨fun z => hq (List.mem_append_left _ z), fun z => hq (List.mem_append_right _ (z ▸ List.mem_cons_self))⟩
    show f q + (if k = q then n else 0) = 0
    rw [if_neg hq2.2, h.out q hq2.1]
    rfl
theorem Sums.next {kvs : List (List Key × V)} {ks : List Pl} {es : List Ent} {i : Nat} {e : Ent} (hi : es[i]? = some e) (h : Sums kvs ks (numAt (es.take i))) :
    Sums (putK kvs (e.1.map Sum.inl) (.int (numAt (es.take i) e.1 + e.2))) (if e.1 ∈ ks then ks else ks ++ [e.1]) (numAt (es.take (i + 1))) := by
  have he : es.take (i + 1) = es.take i ++ [e] := by
    obtain ⟨h1, h2⟩ := List.getElem?_eq_some_iff.mp hi
    rw [List.take_add_one, hi]
    rfl
  have hf : numAt (es.take (i + 1)) = fun q => numAt (es.take i) q + if e.1 = q then e.2 else 0 := by
    funext q
    rw [he, numAt_app]
    show _ + ((if e.1 = q then e.2 else 0) + 0) = _
    omega
  rw [hf]
  exact h.put e.1 e.2
theorem Sums.get {kvs : List (List Key × V)} {ks : List Pl} {f : Pl → Int} (h : Sums kvs ks f) {k : Pl} (m : k ∈ ks) : valV kvs (k.map Sum.inl) = some (.int (f k)) := by
  rw [h.val, if_pos m]
theorem Sums.getD {kvs : List (List Key × V)} {ks : List Pl} {f : Pl → Int} (h : Sums kvs ks f) (k : Pl) : (valV kvs (k.map Sum.inl)).getD (.int 0) = .int (f k) := by
  rw [h.val]
  by_cases m : k ∈ ks
  · rw [if_pos m]
    rfl
  · rw [if_neg m, h.out k m]
    rfl
/-- sorted keys' entries are the row -/
theorem row_sorted {es : List Ent} {ks out : List Pl} (perm : out.Perm ks) (pw : out.Pairwise fun a b => HT.lexLt b a = false) (nod : ks.Nodup) (all : ∀ q, q ∉ ks → numAt es q = 0) : RowIs (mkR (numAt es) out) es := by
  have no : out.Nodup := perm.nodup_iff.mpr nod
  have asc : out.Pairwise fun a b => HT.lexLt a b = true := by
    have both := List.pairwise_and_iff.mpr ⟨pw, no⟩
    refine both.imp fun {a b} h => ?_
    cases z : HT.lexLt a b with
    | true => rfl
    | false => exact absurd (lt_tot z h.1) h.2
  refine ⟨mkR_valid asc, fun q => ?_⟩
  rw [mkR_sum no]
  by_cases m : q ∈ out
  · rw [if_pos m]
  · rw [if_neg m, all q fun z => m (perm.mem_iff.mpr z)]
/-! ### rows in the heap -/
def EntAt (H : Hp) (v : V) (e : Ent) : Prop := ∃ t p, v = .ref t ∧ H t = some (.tup [.ref p, .int e.2]) ∧ H p = some (.tup (e.1.map V.int))
inductive Ents (H : Hp) : List V → List Ent → Prop
  | nil : Ents H [] []
  | cons {v : V} {e : Ent} {vs : List V} {es : List Ent} : EntAt H v e → Ents H vs es → Ents H (v :: vs) (e :: es)
theorem Ents.len {H : Hp} {vs : List V} {es : List Ent} (h : Ents H vs es) : vs.length = es.length := by
  induction h with
  | nil => rfl
  | cons _ _ ih => rw [List.length_cons, List.length_cons, ih]
theorem EntAt.mono {H H' : Hp} {v : V} {e : Ent} (s : ∀ b o, H b = some o → H' b = some o) (h : EntAt H v e) : EntAt H' v e := by
  obtain ⟨t, p, rfl, h1, h2⟩ := h
  exact ⟨t, p, rfl, s _ _ h1, s _ _ h2⟩
theorem Ents.mono {H H' : Hp} {vs : List V} {es : List Ent} (s : ∀ b o, H b = some o → H' b = some o) (h : Ents H vs es) : Ents H' vs es := by
  induction h with
  | nil => exact .nil
  | cons h1 _ ih => exact .cons (h1.mono s) ih
theorem Ents.app {H : Hp} {vs ws : List V} {es fs : List Ent} (h : Ents H vs es) (g : Ents H ws fs) : Ents H (vs ++ ws) (es ++ fs) := by
  induction h with
  | nil => exact g
  | cons h1 _ ih => exact .cons h1 ih
theorem Ents.get {H : Hp} {vs : List V} {es : List Ent} (h : Ents H vs es) : ∀ {i : Nat} {v : V}, vs[i]? = some v → ∃ e, es[i]? = some e ∧ EntAt H v e := by
  induction h with
  | nil => intro i v h; simp at h
  | cons h1 _ ih =>
    intro i v hv
    cases i with
    | zero =>
      cases hv
      exact ⟨_, rfl, h1⟩
    | succ i => exact ih (i := i) hv
theorem Ents.at {H : Hp} {vs : List V} {es : List Ent} (h : Ents H vs es) {i : Nat} (hi : i < es.length) : ∃ v, vs[i]? = some v ∧ EntAt H v es[i] := by
  have h2 : i < vs.length := by rw [h.len]; exact hi
  obtain ⟨e, h3, h4⟩ := h.get (List.getElem?_eq_getElem h2)
  rw [List.getElem?_eq_getElem hi] at h3
  cases h3
  exact ⟨_, List.getElem?_eq_getElem h2, h4⟩
theorem Ents.set {H : Hp} {vs : List V} {es : List Ent} {v : V} {e : Ent} (h : Ents H vs es) (h1 : EntAt H v e) : ∀ i, Ents H (vs.set i v) (es.set i e) := by
  induction h with
  | nil => intro i; exact .nil
  | cons a b ih =>
    intro i
    cases i with
    | zero => exact .cons h1 b
    | succ i => exact .cons a (ih i)
/-- as data -/
def dPl (k : Pl) : PyData := .tuple (k.map .int)
def dEnt (e : Ent) : PyData := .tuple [dPl e.1, .int e.2]
def dRow (es : List Ent) : PyData := .list (es.map dEnt)
theorem dp_ints {K : PySem.W.Frag} {H : Hp} : ∀ k : Pl, DpAll K H (k.map V.int) (k.map PyData.int)
  | [] => .nil
  | n :: r => .cons (.int n) (dp_ints r)
theorem EntAt.dp {K : PySem.W.Frag} {H : Hp} {v : V} {e : Ent} (h : EntAt H v e) : Dp K H v (dEnt e) := by
  obtain ⟨t, p, rfl, h1, h2⟩ := h
  exact .tup (.inl (.inl h1)) (.cons (.tup (.inl (.inl h2)) (dp_ints _)) (.cons (.int _) .nil))
theorem Ents.dpAll {K : PySem.W.Frag} {H : Hp} {vs : List V} {es : List Ent} (h : Ents H vs es) : DpAll K H vs (es.map dEnt) := by
  induction h with
  | nil => exact .nil
  | cons h1 _ ih => exact .cons h1.dp ih
theorem Ents.dp {K : PySem.W.Frag} {H : Hp} {a : Addr} {vs : List V} {es : List Ent} (ha : SqL K H a vs) (h : Ents H vs es) : Dp K H (.ref a) (dRow es) := .lst ha h.dpAll
theorem lay_ints : ∀ k : Pl, PyData.canLayAll0 (k.map PyData.int) = true
  | [] => rfl
  | n :: r => by
    show (PyData.canLay0 (.int n) && PyData.canLayAll0 (r.map PyData.int)) = true
    rw [lay_ints r]
    rfl
theorem lay_row : ∀ es : List Ent, PyData.canLayAll0 (es.map dEnt) = true
  | [] => rfl
  | e :: r => by
    show (PyData.canLay0 (dEnt e) && PyData.canLayAll0 (r.map dEnt)) = true
    rw [lay_row r]
    show ((PyData.canLayAll0 (e.1.map PyData.int) && (PyData.canLay0 (.int e.2) && true)) && true) = true
    rw [lay_ints]
    rfl
end OT

set_option Elab.async false
set_option linter.all false
set_option maxRecDepth 100000
set_option maxHeartbeats 4000000
/-! raise C(), an own class whose __init__ takes no argument but the error itself -/
namespace L2
open PySem PySem.Spec PyProof.Rows PySem.W PySem.Calls PySem.HandSPX
section
variable {X : Cx} {p pos : Pos} {pins : List (Addr × Obj)} {σ : St} {H : Hp} {st : Shared}
/-- the heap with the bare error and its empty arguments behind the old objects -/
def bareHeap (C : Addr) (h : Heap) : Heap := (h.push (kdv_tup [])).push (excO C h.objs.size)
theorem bare_grows {C : Addr} {h : Heap} (b : Addr) (o : Obj) (e : h.get? b = some o) : (bareHeap C h).get? b = some o := Heap.get?_push_of_some _ (Heap.get?_push_of_some _ e)
theorem bare_there {C : Addr} {h : Heap} : (bareHeap C h).get? (h.objs.size + 1) = some (excO C h.objs.size) := by
  show ((h.push (kdv_tup [])).push (excO C h.objs.size)).get? (h.objs.size + 1) = _
  heap_get
theorem bare_inv {C : Addr} (I : Inv X pins σ H st) : H (st.heap.objs.size + 1) = none ∧ Inv X pins σ (upd H (st.heap.objs.size + 1) (exo (st.heap.objs.size + 1) C none)) ⟨bareHeap C st.heap, st.gens, st.drawn, st.toks, st.os⟩ :=
  ⟨I.hok.fresh (Nat.le_succ _), I.laid (t' := st.toks) (a := st.heap.objs.size + 1) (h' := bareHeap C st.heap) (o := exo (st.heap.objs.size + 1) C none) bare_grows (Nat.le_succ _) (exo_ok bare_there)⟩
theorem pmk_oex0 {CX : CXT} {x : Str} {C fI : Addr} {k : Nat} {fd : FuncData} {ps : List Str} {sp : Sp} (T : OexC X.K C) (iC : findIn X.K (.ref C) "__init__" = some (some (.ref fI))) (tI : typeIn X.K (.ref fI) = some (.type "function"))
    (G : FnOk X.prog X.w X.K X.mg X.base CX k fI fd ps sp) (hr : Room (k + 1) X.A) (bi : Binds X.K fd ps []) (no : Passes CX X fun _ _ _ => False) (hg : Gl X x) (hm : X.mg x = some (.ref C)) (nd : (x == ("__debug__" : Str)) = false := by decide) :
    PMk X (.Call (.Name x p) [] [] pos) (tMkO C sp [] tNil) := by
  intro pins σ0 σ H Q I want
  rcases σ0 with ⟨h, gs, dw, ts, os⟩
  obtain ⟨_, _, _, _, bm, _, _, _, _, _, _, _, _, _, _, stands, vb⟩ := T.cls
  obtain ⟨_, ask⟩ := want
  obtain ⟨free, J⟩ := bare_inv (C := C) I
  have promise := ask (h.objs.size + 1) free
  have one : ([Value.ref (h.objs.size + 1)] : List Value).length = ps.length := (G.len _ _ _ _ promise).symm ▸ rfl
  have body := G.run (X.A.under (.builtin "type.__call__" ⟨[.ref C], []⟩)) X.stack _ _ ⟨[.ref (h.objs.size + 1)], []⟩ [.ref (h.objs.size + 1)] _ _ (fun _ _ _ => False) (hr.make C [] []) (J.env0.make C [] []) (bi _ [.ref (h.objs.size + 1)] J.kIn one) (show Vals [V.ref (h.objs.size + 1)] [Value.ref (h.objs.size + 1)] from .cons rfl .nil) promise
  refine wpAny_Call_Name_kw (ld_glob I hg hm (callWith_K0 I.kIn T.kC ?_) nd)
  refine wpAny_call (call_own (rest := []) F.excBase_ValueError (fun Y => refsVE_contains Y bm vb) (I.kIn _ _ stands) (looks_findIn I.kIn iC) (fun me => bind_fn I.kIn me tI) (Nat.zero_le _) (codeAny_mono body ?_))
  rintro (er | fl) s2 end_
  · exact no pins σ _ _ er s2 J end_
  · cases fl with
    | ret u =>
      rcases s2 with ⟨h2, gs2, dw2, ts2, os2⟩
      obtain ⟨_, H2, same, bare, un, ok2, rel, rfl, d, fs, at_a, at_d, new, q⟩ := end_
      exact ⟨rel, mk_end (raises_own T.exC T.tyC) I (Nat.le_succ _) bare_grows un ok2 same bare at_a at_d new q⟩
    | next => cases end_
    | brk => cases end_
    | cont => cases end_
end
end L2

set_option Elab.async false
set_option linter.all false
set_option maxRecDepth 100000
set_option maxHeartbeats 2000000
namespace OT
open PySem PySem.Spec PyProof.Rows L2
def topS (i : Nat) : Stmt := PySem.Challenge.pw_owntables_k14_whole_texts.main.body.getD i (.Pass ⟨0, 0, 0, 0⟩)
abbrev s_TableError___init__ : Stmt := inClass (topS 1) 0
theorem sc_TableError___init__ : FnScope ["self"] ["self"] (C8.fnScope s_TableError___init__) := C8.fnScope_by (by decide +kernel)
abbrev s_IndexedError___init__ : Stmt := inClass (topS 2) 0
theorem sc_IndexedError___init__ : FnScope ["self", "index"] ["self", "index"] (C8.fnScope s_IndexedError___init__) := C8.fnScope_by (by decide +kernel)
abbrev s_is_decimal : Stmt := topS 8
theorem sc_is_decimal : FnScope ["text", "digits"] ["text"] (C8.fnScope s_is_decimal) := C8.fnScope_by (by decide +kernel)
abbrev s_first_bad_piece : Stmt := topS 9
theorem sc_first_bad_piece : FnScope ["pieces", "index", "piece"] ["pieces"] (C8.fnScope s_first_bad_piece) := C8.fnScope_by (by decide +kernel)
abbrev s_entry_of : Stmt := topS 10
theorem sc_entry_of : FnScope ["word", "parts", "pieces", "piece"] ["word"] (C8.fnScope s_entry_of) := C8.fnScope_by (by decide +kernel)
abbrev s_follows : Stmt := topS 11
theorem sc_follows : FnScope ["entry", "row", "place", "last"] ["entry", "row"] (C8.fnScope s_follows) := C8.fnScope_by (by decide +kernel)
abbrev s_write_place : Stmt := topS 12
theorem sc_write_place : FnScope ["place", "x"] ["place"] (C8.fnScope s_write_place) := C8.fnScope_by (by decide +kernel)
abbrev s_write_row : Stmt := topS 13
theorem sc_write_row : FnScope ["row", "place", "number"] ["row"] (C8.fnScope s_write_row) := C8.fnScope_by (by decide +kernel)
abbrev s_read_row : Stmt := topS 14
theorem sc_read_row : FnScope ["text", "row", "index", "word", "entry"] ["text"] (C8.fnScope s_read_row) := C8.fnScope_by (by decide +kernel)
abbrev s__law_cell : Stmt := topS 16
theorem sc__law_cell : FnScope ["_law_script", "_law_k"] ["_law_script", "_law_k"] (C8.fnScope s__law_cell) := C8.fnScope_by (by decide +kernel)
abbrev s__law_draws : Stmt := topS 17
theorem sc__law_draws : FnScope ["_law_cell_here", "_law_sizes", "_law_draws_here", "_law_rest", "_law_k", "_law_mixed"] ["_law_cell_here", "_law_sizes"] (C8.fnScope s__law_draws) := C8.fnScope_by (by decide +kernel)
abbrev s__law_is_integer : Stmt := topS 18
theorem sc__law_is_integer : FnScope ["_law_actual"] ["_law_actual"] (C8.fnScope s__law_is_integer) := C8.fnScope_by (by decide +kernel)
abbrev s__law_is_place : Stmt := topS 19
theorem sc__law_is_place : FnScope ["_law_actual", "_law_x"] ["_law_actual"] (C8.fnScope s__law_is_place) := C8.fnScope_by (by decide +kernel)
abbrev s__law_is_row : Stmt := topS 20
theorem sc__law_is_row : FnScope ["_law_actual", "_law_k", "_law_entry_here"] ["_law_actual"] (C8.fnScope s__law_is_row) := C8.fnScope_by (by decide +kernel)
abbrev s__law_same : Stmt := topS 21
theorem sc__law_same : FnScope ["_law_actual", "_law_expected"] ["_law_actual", "_law_expected"] (C8.fnScope s__law_same) := C8.fnScope_by (by decide +kernel)
abbrev s__law_plus : Stmt := topS 22
theorem sc__law_plus : FnScope ["_law_place", "_law_other", "_law_k"] ["_law_place", "_law_other"] (C8.fnScope s__law_plus) := C8.fnScope_by (by decide +kernel)
abbrev s__law_row : Stmt := topS 23
theorem sc__law_row : FnScope ["_law_pairs", "_law_sums", "_law_place", "_law_number"] ["_law_pairs"] (C8.fnScope s__law_row) := C8.fnScope_by (by decide +kernel)
abbrev s__law_moved : Stmt := topS 24
theorem sc__law_moved : FnScope ["_law_row_here", "_law_by", "_law_entry_here"] ["_law_row_here", "_law_by"] (C8.fnScope s__law_moved) := C8.fnScope_by (by decide +kernel)
abbrev s__law_places : Stmt := topS 25
theorem sc__law_places : FnScope ["_law_box_here", "_law_places_here", "_law_width", "_law_longer", "_law_place", "_law_k"] ["_law_box_here"] (C8.fnScope s__law_places) := C8.fnScope_by (by decide +kernel)
abbrev s__law_drawn : Stmt := topS 26
theorem sc__law_drawn : FnScope ["_law_cell_here", "_law_box_here", "_law_reach", "_law_moves", "_law_places_here", "_law_draws_here", "_law_by", "_law_k"] ["_law_cell_here", "_law_box_here", "_law_reach", "_law_moves"] (C8.fnScope s__law_drawn) := C8.fnScope_by (by decide +kernel)
abbrev s__law_box : Stmt := topS 27
theorem sc__law_box : FnScope ["_law_kind", "_law_wide"] ["_law_kind", "_law_wide"] (C8.fnScope s__law_box) := C8.fnScope_by (by decide +kernel)
abbrev s__law_is_error : Stmt := topS 28
theorem sc__law_is_error : FnScope ["_law_e", "_law_word"] ["_law_e", "_law_word"] (C8.fnScope s__law_is_error) := C8.fnScope_by (by decide +kernel)
abbrev s__law_drawn_row : Stmt := topS 29
theorem sc__law_drawn_row : FnScope ["_law_script", "_law_draws_here", "_law_row_here", "_law_great", "_law_k"] ["_law_script", "_law_draws_here"] (C8.fnScope s__law_drawn_row) := C8.fnScope_by (by decide +kernel)
abbrev s__law_written : Stmt := topS 30
theorem sc__law_written : FnScope ["_law_row_here", "_law_words", "_law_place", "_law_number", "_law_x"] ["_law_row_here"] (C8.fnScope s__law_written) := C8.fnScope_by (by decide +kernel)
abbrev s__law_odd_text : Stmt := topS 31
theorem sc__law_odd_text : FnScope ["_law_which", "_law_texts"] ["_law_which"] (C8.fnScope s__law_odd_text) := C8.fnScope_by (by decide +kernel)
abbrev s__law_other_text : Stmt := topS 32
theorem sc__law_other_text : FnScope ["_law_text", "_law_draws_here", "_law_mode", "_law_at", "_law_sign", "_law_words", "_law_first", "_law_second", "_law_word"] ["_law_text", "_law_draws_here"] (C8.fnScope s__law_other_text) := C8.fnScope_by (by decide +kernel)
abbrev s__law_decimal : Stmt := topS 33
theorem sc__law_decimal : FnScope ["_law_piece", "_law_digits", "_law_sign"] ["_law_piece"] (C8.fnScope s__law_decimal) := C8.fnScope_by (by decide +kernel)
abbrev s__law_entry : Stmt := topS 34
theorem sc__law_entry : FnScope ["_law_word", "_law_parts", "_law_pieces", "_law_piece"] ["_law_word"] (C8.fnScope s__law_entry) := C8.fnScope_by (by decide +kernel)
abbrev s__law_due : Stmt := topS 35
theorem sc__law_due : FnScope ["_law_text", "_law_row_here", "_law_words", "_law_k", "_law_entry_here"] ["_law_text"] (C8.fnScope s__law_due) := C8.fnScope_by (by decide +kernel)
abbrev s__law_refused : Stmt := topS 36
theorem sc__law_refused : FnScope ["_law_e", "_law_index"] ["_law_e", "_law_index"] (C8.fnScope s__law_refused) := C8.fnScope_by (by decide +kernel)
abbrev s__law_read_asked : Stmt := topS 37
theorem sc__law_read_asked : FnScope ["_law_text", "_law_due_here", "_law_e", "_law_actual"] ["_law_text"] (C8.fnScope s__law_read_asked) := C8.fnScope_by (by decide +kernel)
abbrev s_law : Stmt := topS 38
theorem sc_law : FnScope ["_law_script", "_law_row_here", "_law_written_here", "_law_texts", "_law_k", "_law_turn", "_law_draws_here", "_law_handed", "_law_told", "_law_text"] ["_law_script"] (C8.fnScope s_law) := C8.fnScope_by (by decide +kernel)
theorem iteD {c A B : Prop} [Decidable c] (h1 : c → A) (h2 : ¬ c → B) : if decide c = true then A else B := by
  by_cases h : c
  · rw [decide_eq_true h]
    exact iteT (h1 h)
  · rw [decide_eq_false h]
    exact iteF (h2 h)
theorem iteND {c A B : Prop} [Decidable c] (h1 : ¬ c → A) (h2 : c → B) : if (!decide c) = true then A else B := by
  by_cases h : c
  · rw [decide_eq_true h]
    exact iteF (h2 h)
  · rw [decide_eq_false h]
    exact iteT (h1 h)
theorem iteB {c : Bool} {A B : Prop} (h1 : c = true → A) (h2 : c = false → B) : if c = true then A else B := by
  cases c with
  | true => exact iteT (h1 rfl)
  | false => exact iteF (h2 rfl)
theorem atI_int {ns : List Int} {k : Int} (h0 : 0 ≤ k) (h1 : k < (ns.length : Int)) : ∃ c, atI (ns.map V.int) k = some (.int c) ∧ ns[k.toNat]? = some c := by
  obtain ⟨j, rfl⟩ := Int.eq_ofNat_of_zero_le h0
  have hj : j < ns.length := by omega
  refine ⟨ns[j], atI_nat ?_, ?_⟩
  · rw [List.getElem?_map, List.getElem?_eq_getElem hj]
    rfl
  · rw [Int.toNat_natCast, List.getElem?_eq_getElem hj]
theorem same_upd {H : Hp} {p : Addr} {o : HO} (h : H p = none) : Same H (upd H p o) := fun b x e => by
  rw [upd_ne (ne_of_none e h)]
  exact e
theorem same_mut {H H' : Hp} {p : Addr} {o : HO} (e : Same H H') (h : H p = none) : Same H (upd H' p o) := fun b x z => by
  rw [upd_ne (ne_of_none z h)]
  exact e b x z
theorem same_t {K : PySem.W.Frag} {H H' : Hp} {a : Addr} {xs : List V} (e : Same H H') (h : SqT K H a xs) : SqT K H' a xs := by
  rcases h with (h | ⟨o, h⟩) | h
  · exact .inl (.inl (e _ _ h))
  · exact .inl (.inr ⟨o, e _ _ h⟩)
  · exact .inr h
/-- the module's names that stay the built-in ones -/
structure Bi (mg : Str → Option Value) : Prop where
  n_len : mg "len" = none
  n_int : mg "int" = none
  n_str : mg "str" = none
  n_bool : mg "bool" = none
  n_list : mg "list" = none
  n_tuple : mg "tuple" = none
  n_range : mg "range" = none
  n_enumerate : mg "enumerate" = none
  n_isinstance : mg "isinstance" = none
  n_sorted : mg "sorted" = none
  n_abs : mg "abs" = none
section
variable {P : Program} {w : World} {K : PySem.W.Frag} {mg : Str → Option Value} {base : Heap}
/-! ### a cell of the script -/
def spCell (K : PySem.W.Frag) : Sp := fun vs H Q _ => ∃ (a : Addr) (ns : List Int) (k : Int), vs = [.ref a, .int k] ∧ SqL K H a (ns.map V.int) ∧ 0 ≤ k ∧ ∀ c : Int, Q (.int c) H
theorem c__law_cell {f : Addr} {fd : FuncData} (D : C8.Def K mg "_law_cell" s__law_cell f fd) (b : Binds K fd ["_law_script", "_law_k"] []) (T : Bi mg) : C8.Cal P w K mg base 1 "_law_cell" (spCell K) [] := by
  refine C8.cal0 D b .nil sc__law_cell (fun vs H Q E h => ?_) (fun cdv A outer s H vs Q E hr h => ?_)
  · obtain ⟨a, ns, k, rfl, _⟩ := h
    rfl
  · obtain ⟨a, ns, k, rfl, hS, hk, q⟩ := h
    refine ⟨_, (pss_cons (ps_if (pt_cmpR op_lt (pv 1) (pe_callB call_len_seq (by rfl) T.n_len OT.b_len (pa_cons (pv 0) pa_nil)) (nomark _)) (pss_one (ps_ret (pe_ix ix_list (pv 0) (pv 1) (fun _ _ => rfl)))) pss_nil)
  (pss_cons (ps_if (pt_cmpR op_eq (pe_callB call_len_seq (by rfl) T.n_len OT.b_len (pa_cons (pv 0) pa_nil)) pe_int (nomark _)) (pss_one (ps_ret (pe_op op_add (pe_op op_mul pe_int (pv 1)) pe_int))) pss_nil)
  (pss_one (ps_ret (pe_op op_mod (pe_callTy call_int1 (by rfl) T.n_int OT.b_int (pa_cons (pe_op op_add (pe_op op_add (pe_op op_mul (pe_ix ix_list (pv 0) (pe_op op_mod (pe_callTy call_int1 (by rfl) T.n_int OT.b_int (pa_cons (pv 1) pa_nil)) (pe_callB call_len_seq (by rfl) T.n_len OT.b_len (pa_cons (pv 0) pa_nil))) (fun _ _ => rfl)) pe_int) (pe_op op_mul pe_int (pv 1))) pe_int) pa_nil)) pe_int))))), ?_⟩
    refine ⟨_, rfl, _, rfl, a, _, rfl, .inl hS, _, _, rfl, rfl, _, rfl, ?_⟩
    refine iteD (fun h1 => ?_) (fun h1 => ?_)
    · rw [List.length_map] at h1
      obtain ⟨c, hc, _⟩ := atI_int hk h1
      exact ⟨_, rfl, _, rfl, a, _, _, _, rfl, rfl, hS, hc, q c⟩
    · refine ⟨_, rfl, a, _, rfl, .inl hS, rfl, _, rfl, ?_⟩
      refine iteD (fun h2 => ?_) (fun h2 => ?_)
      · exact ⟨_, rfl, _, _, rfl, rfl, .inl ⟨by decide, by decide⟩, _, _, rfl, rfl, q _⟩
      · have hp : 0 < ns.length := by
          have h3 : ¬ (V.int ((ns.map V.int).length : Int) = V.int 0) := h2
          rw [List.length_map] at h3
          cases ns with
          | nil => exact absurd rfl h3
          | cons x r => exact Nat.succ_pos _
        have hm : 0 ≤ k % (ns.length : Int) := Int.emod_nonneg _ (by omega)
        have hm2 : k % (ns.length : Int) < ns.length := Int.emod_lt_of_pos _ (by omega)
        obtain ⟨c, hc, _⟩ := atI_int hm hm2
        refine ⟨_, rfl, _, rfl, .inl ⟨k, rfl, _, rfl, a, _, rfl, .inl hS, k, _, rfl, rfl, ?_, a, _, _, _, rfl, rfl, hS, ?_, c, _, rfl, rfl, .inr ⟨by decide, by decide⟩, _, rfl, _, _, rfl, rfl, .inl ⟨by decide, by decide⟩, _, _, rfl, rfl, _, _, rfl, rfl, .inl ⟨_, rfl, _, _, rfl, rfl, by show (0 : Int) < 2147483647; decide, q _⟩⟩⟩
        · rw [List.length_map]
          show (0 : Int) < (ns.length : Int)
          omega
        · rw [List.length_map]
          exact hc
/-! ### draws -/
theorem cmul_m1 (x y : Int) : CMul (x % 2147483647) y := by
  refine .inl ?_
  have h1 := Int.emod_nonneg x (show (2147483647 : Int) ≠ 0 by decide)
  have h2 := Int.emod_lt_of_pos x (show (0 : Int) < 2147483647 by decide)
  have h3 : (2 : Int) ^ 64 = 18446744073709551616 := by decide
  omega
theorem cmul_m2 (x y : Int) : CMul (x % 2147483629) y := by
  refine .inl ?_
  have h1 := Int.emod_nonneg x (show (2147483629 : Int) ≠ 0 by decide)
  have h2 := Int.emod_lt_of_pos x (show (0 : Int) < 2147483629 by decide)
  have h3 : (2 : Int) ^ 64 = 18446744073709551616 := by decide
  omega

theorem small64 {z : Int} (h1 : 0 < z) (h2 : z < 1000000000000000) : z.natAbs < 2 ^ 64 := by
  have : (2 : Nat) ^ 64 = 18446744073709551616 := by decide
  omega
def InR (ds zs : List Int) : Prop := ds.length = zs.length ∧ ∀ (i : Nat) (d z : Int), ds[i]? = some d → zs[i]? = some z → 0 ≤ d ∧ d < z
def spDraws (K : PySem.W.Frag) : Sp := fun vs H Q _ => ∃ (a : Addr) (zs : List Int) (c : Int), vs = [.int c, .ref a] ∧ SqL K H a (zs.map V.int) ∧ zs.length ≤ 1000 ∧ (∀ z ∈ zs, 0 < z ∧ z < 1000000000000000) ∧
  ∀ (ds : List Int) H' p, InR ds zs → Same H H' → H p = none → H' p = some (.lst (ds.map V.int)) → Q (.ref p) H'
theorem c__law_draws {f : Addr} {fd : FuncData} (D : C8.Def K mg "_law_draws" s__law_draws f fd) (b : Binds K fd ["_law_cell_here", "_law_sizes"] []) (T : Bi mg) : C8.Cal P w K mg base 1 "_law_draws" (spDraws K) [] := by
  refine C8.cal0 D b .nil sc__law_draws (fun vs H Q E h => ?_) (fun cdv A outer s H vs Q E hr h => ?_)
  · obtain ⟨a, zs, c, rfl, _⟩ := h
    rfl
  · obtain ⟨a, zs, c, rfl, hS, hl, hz, q⟩ := h
    refine ⟨_, (pss_cons (ps_set (i := 2) sc__law_draws.nd rfl (Or.inl rfl) (pe_lst pa_nil))
  (pss_cons (ps_set (i := 3) sc__law_draws.nd rfl (Or.inl rfl) (pe_op op_sub (pv 0) (pe_op op_pow pe_int pe_int)))
  (pss_cons (ps_for PassesOwn.never rfl (pi_range1 rfl T.n_range (pa_cons (pe_callB call_len_seq (by rfl) T.n_len OT.b_len (pa_cons (pv 1) pa_nil)) pa_nil)) (pg_name (i := 4) sc__law_draws.nd rfl (Or.inl rfl)) (pss_one (ps_if (pt_cmpR op_ge (pv 0) (pe_op op_pow pe_int pe_int) (nomark _)) (pss_cons (ps_expr (pe_bm PySem.F.plainAttrs_list PySem.F.slot_list_append PySem.F.type_list_append mt_append (pv 2) (pa_cons (pe_op op_mod (pe_callTy call_int1 (by rfl) T.n_int OT.b_int (pa_cons (pv 3) pa_nil)) (pe_ix ix_list (pv 1) (pv 4) (fun _ _ => rfl))) pa_nil)))
  (pss_one (ps_set (i := 3) sc__law_draws.nd rfl (Or.inl rfl) (pe_op op_fdivW (pv 3) (pe_ix ix_list (pv 1) (pv 4) (fun _ _ => rfl)))))) (pss_cons (ps_set (i := 5) sc__law_draws.nd rfl (Or.inl rfl) (pe_op op_mod (pe_callTy call_int1 (by rfl) T.n_int OT.b_int (pa_cons (pe_op op_add (pe_op op_add (pv 0) (pe_op op_mul pe_int (pv 4))) pe_int) pa_nil)) pe_int))
  (pss_cons (ps_set (i := 5) sc__law_draws.nd rfl (Or.inl rfl) (pe_op op_mod (pe_callTy call_int1 (by rfl) T.n_int OT.b_int (pa_cons (pe_op op_mul (pv 5) (pe_op op_add (pv 5) pe_int)) pa_nil)) pe_int))
  (pss_cons (ps_set (i := 5) sc__law_draws.nd rfl (Or.inl rfl) (pe_op op_mod (pe_callTy call_int1 (by rfl) T.n_int OT.b_int (pa_cons (pe_op op_add (pe_op op_mul (pv 5) (pe_op op_add (pv 5) pe_int)) (pe_op op_mul pe_int (pv 4))) pa_nil)) pe_int))
  (pss_one (ps_expr (pe_bm PySem.F.plainAttrs_list PySem.F.slot_list_append PySem.F.type_list_append mt_append (pv 2) (pa_cons (pe_op op_mod (pe_callTy call_int1 (by rfl) T.n_int OT.b_int (pa_cons (pe_op op_fdiv (pv 5) pe_int) pa_nil)) (pe_ix ix_list (pv 1) (pv 4) (fun _ _ => rfl))) pa_nil))))))))))
  (pss_one (ps_ret (pv 2)))))), ?_⟩
    refine ⟨Nat.zero_le _, fun p np => ?_⟩
    have s1 : Same H (upd H p (.lst [])) := same_upd np
    refine ⟨_, rfl, 10, 18, rfl, rfl, ?cp, _, _, rfl, rfl, ?_⟩
    case cp => exact ⟨by decide, by decide⟩
    refine ⟨_, rfl, a, _, rfl, .inl (s1.seq hS), _, rfl, ?_, ?_, ?_⟩
    · rw [List.length_map]
      omega
    · rw [List.length_map]
      have : (2 : Int) ^ 62 = 4611686018427387904 := by decide
      omega
    rw [List.length_map, Int.toNat_natCast]
    refine for_range (fun i σ H2 => ∃ (ds : List Int) (r : Int) (y4 y5 : Option V), σ = [some (.int c), some (.ref a), some (.ref p), some (.int r), y4, y5] ∧ Same H H2 ∧ H2 p = some (.lst (ds.map V.int)) ∧ InR ds (zs.take i)) ?_ ?_ ?_
    · exact ⟨[], _, none, none, rfl, s1, upd_same, rfl, fun i d z h => by simp at h⟩
    · rintro i σ H2 hi ⟨ds, r, y4, y5, rfl, sm, hp, hr2⟩
      have hzi : zs[i]? = some zs[i] := List.getElem?_eq_getElem hi
      obtain ⟨z1, z2⟩ := hz zs[i] (List.getElem_mem hi)
      have hix : atI (zs.map V.int) ((0 : Int) + (i : Int)) = some (.int zs[i]) := by
        rw [Int.zero_add]
        exact atI_nat (by rw [List.getElem?_map, hzi]; rfl)
      have hS2 := sm.seq hS
      have hlen : ds.length = i := by
        rw [hr2.1, List.length_take]
        omega
      have hlt : (ds.map V.int).length < sizeLine := by
        rw [List.length_map]
        exact small1000 (by omega)
      have more : ∀ x : Int, InR (ds ++ [x % zs[i]]) (zs.take (i + 1)) := fun x => by
        refine ⟨?_, fun j d z h1 h2 => ?_⟩
        · rw [List.length_append, List.length_take, hlen]
          simp
          omega
        · by_cases hj : j < i
          · rw [List.getElem?_append_left (by omega)] at h1
            rw [List.getElem?_take_of_lt (by omega)] at h2
            exact hr2.2 j d z h1 (by rw [List.getElem?_take_of_lt hj]; exact h2)
          · by_cases ej : j = i
            · subst ej
              rw [List.getElem?_append_right (by omega), hlen, Nat.sub_self] at h1
              rw [List.getElem?_take_of_lt (by omega), hzi] at h2
              have e1 : x % zs[j] = d := Option.some.inj h1
              have e2 : zs[j] = z := Option.some.inj h2
              rw [← e1, ← e2]
              exact ⟨Int.emod_nonneg _ (by omega), Int.emod_lt_of_pos _ z1⟩
            · rw [List.getElem?_eq_none (by rw [List.length_take]; omega)] at h2
              cases h2
      have fin : ∀ (x r' : Int) (y4 y5 : Option V), ∃ (ds2 : List Int) (r2 : Int) (z4 z5 : Option V), [some (.int c), some (.ref a), some (.ref p), some (.int r'), y4, y5] = [some (.int c), some (.ref a), some (.ref p), some (.int r2), z4, z5] ∧
          Same H (upd H2 p (.lst (ds.map V.int ++ [V.int (x % zs[i])]))) ∧ (upd H2 p (.lst (ds.map V.int ++ [V.int (x % zs[i])]))) p = some (.lst (ds2.map V.int)) ∧ InR ds2 (zs.take (i + 1)) := fun x r' y4 y5 => by
        refine ⟨ds ++ [x % zs[i]], r', y4, y5, rfl, same_mut sm np, ?_, more x⟩
        rw [upd_same, List.map_append]
        rfl
      refine ⟨_, rfl, 10, 18, rfl, rfl, ⟨by decide, by decide⟩, _, _, rfl, rfl, _, rfl, ?_⟩
      refine iteD (fun _ => ?_) (fun _ => ?_)
      · refine ⟨_, rfl, .inl ⟨rfl, _, .inl (.inl hp)⟩, _, rfl, .inl ⟨r, rfl, _, rfl, _, rfl, a, _, _, _, rfl, rfl, hS2, hix, _, _, rfl, rfl, z1, p, _, _, rfl, rfl, hp, hlt, ?_⟩⟩
        have sm3 : Same H (upd H2 p (.lst (ds.map V.int ++ [V.int (r % zs[i])]))) := same_mut sm np
        refine ⟨_, rfl, _, rfl, _, rfl, a, _, _, _, rfl, rfl, sm3.seq hS, hix, _, _, rfl, rfl, wide_div z1 (b := 64) (small64 z1 z2) (by decide) (by decide), ?_⟩
        exact fin _ _ _ _
      · refine ⟨_, rfl, _, rfl, _, _, rfl, rfl, .inl ⟨by decide, by decide⟩, _, _, rfl, rfl, _, _, rfl, rfl, .inl ⟨_, rfl, _, _, rfl, rfl, by show (0 : Int) < 2147483647; decide, ?_⟩⟩
        refine ⟨_, rfl, _, rfl, _, _, rfl, rfl, _, _, rfl, rfl, cmul_m1 _ _, .inl ⟨_, rfl, _, _, rfl, rfl, by show (0 : Int) < 2147483629; decide, ?_⟩⟩
        refine ⟨_, rfl, _, rfl, _, _, rfl, rfl, _, _, rfl, rfl, cmul_m2 _ _, _, rfl, _, _, rfl, rfl, .inl ⟨by decide, by decide⟩, _, _, rfl, rfl, .inl ⟨_, rfl, _, _, rfl, rfl, by show (0 : Int) < 2147483647; decide, ?_⟩⟩
        refine ⟨_, rfl, .inl ⟨rfl, _, .inl (.inl hp)⟩, _, rfl, _, _, rfl, rfl, ⟨by decide, by decide⟩, .inl ⟨_, rfl, _, rfl, _, rfl, a, _, _, _, rfl, rfl, hS2, hix, _, _, rfl, rfl, z1, p, _, _, rfl, rfl, hp, hlt, ?_⟩⟩
        exact fin _ _ _ _
    · rintro σ H2 ⟨ds, r, y4, y5, rfl, sm, hp, hr2⟩
      rw [List.take_length] at hr2
      exact ⟨_, rfl, q ds H2 p hr2 sm np hp⟩
end
end OT

set_option Elab.async false
set_option linter.all false
set_option maxRecDepth 100000
set_option maxHeartbeats 2000000
namespace OT
open PySem PySem.Spec PyProof.Rows L2
theorem take_map_succ {α β : Type} {l : List α} {i : Nat} (f : α → β) (h : i < l.length) : (l.take (i + 1)).map f = (l.take i).map f ++ [f l[i]] := by
  rw [List.take_add_one, List.getElem?_eq_getElem h, List.map_append]
  rfl
theorem getm {α β : Type} {l : List α} {i : Nat} {f : α → β} {x : β} (h : (l.map f)[i]? = some x) : ∃ hi : i < l.length, x = f l[i] := by
  rw [List.getElem?_map] at h
  cases e : l[i]? with
  | none =>
    rw [e] at h
    cases h
  | some z =>
    rw [e] at h
    obtain ⟨hi, hz⟩ := List.getElem?_eq_some_iff.mp e
    exact ⟨hi, by rw [hz]; exact (Option.some.inj h).symm⟩
theorem tYes_of {A B : Hp → Prop} {σ : L2.St} {H : Hp} (h : A H) : tYes σ H (fun b H3 => if b = true then A H3 else B H3) := by
  show (if true = true then A H else B H)
  rw [if_pos rfl]
  exact h
theorem drop_cons {α : Type} {l : List α} {i : Nat} (h : i < l.length) : l.drop i = l[i] :: l.drop (i + 1) := List.drop_eq_getElem_cons h
theorem kb_ii : kitB "int" "int" = some true := by decide +kernel
theorem kb_ib : kitB "int" "bool" = some false := by decide +kernel
theorem kb_tt : kitB "tuple" "tuple" = some true := by decide +kernel
theorem kb_ss : kitB "str" "str" = some true := by decide +kernel
theorem kb_ll : kitB "list" "list" = some true := by decide +kernel
theorem depth_ints : ∀ ns : List Int, PyData.depthAll (ns.map PyData.int) = 0
  | [] => by simp only [List.map_nil, PyData.depthAll]
  | n :: r => by simp only [List.map_cons, PyData.depthAll, PyData.depth, depth_ints r, Nat.max_self]
theorem depth_row : ∀ es : List Ent, PyData.depthAll (es.map dEnt) ≤ 3
  | [] => by simp only [List.map_nil, PyData.depthAll]; decide
  | e :: r => by
    have ih := depth_row r
    simp only [List.map_cons, PyData.depthAll, dEnt, dPl, PyData.depth, depth_ints] at ih ⊢
    omega
theorem shaped_row (es : List Ent) : SeqAt.shaped (dRow es) = true := by
  unfold SeqAt.shaped
  have h1 : (dRow es).canLay0 = true := lay_row es
  rw [h1, Bool.true_and]
  refine decide_eq_true ?_
  have := depth_row es
  simp only [dRow, PyData.depth]
  omega
section
variable {P : Program} {w : World} {K : PySem.W.Frag} {mg : Str → Option Value} {base : Heap}
def spIsInt : Sp := fun vs H Q _ => ∃ i : Int, vs = [.int i] ∧ Q (.bl true) H
theorem c__law_is_integer {f : Addr} {fd : FuncData} (D : C8.Def K mg "_law_is_integer" s__law_is_integer f fd) (b : Binds K fd ["_law_actual"] []) (T : Bi mg) : C8.Cal P w K mg base 1 "_law_is_integer" spIsInt [] := by
  refine C8.cal0 D b .nil sc__law_is_integer (fun vs H Q E h => ?_) (fun cdv A outer s H vs Q E hr h => ?_)
  · obtain ⟨i, rfl, _⟩ := h
    rfl
  · obtain ⟨i, rfl, q⟩ := h
    refine ⟨_, (pss_one (ps_ret (pe_and (pe_callB call_isi (by rfl) T.n_isinstance OT.b_isinstance (pa_cons (pv 0) (pa_cons (pe_bltn (v := .ty "int") (by rfl) T.n_int OT.b_int rfl) pa_nil))) (pe_one (pe_not (pe_callB call_isi (by rfl) T.n_isinstance OT.b_isinstance (pa_cons (pv 0) (pa_cons (pe_bltn (v := .ty "bool") (by rfl) T.n_bool OT.b_bool rfl) pa_nil)))))))), ?_⟩
    refine ⟨_, rfl, _, _, _, _, _, rfl, .ty _, .base (.int i), kit_ty kb_ii, _, rfl, ?_⟩
    refine iteT ?_
    exact ⟨_, rfl, _, _, _, _, _, rfl, .ty _, .base (.int i), kit_ty kb_ib, _, rfl, q⟩
def spIsPlace (K : PySem.W.Frag) : Sp := fun vs H Q _ => ∃ (a : Addr) (ns : List Int), vs = [.ref a] ∧ H a = some (.tup (ns.map V.int)) ∧ 1 ≤ ns.length ∧ ns.length ≤ 3 ∧ Q (.bl true) H
theorem c__law_is_place {f : Addr} {fd : FuncData} (D : C8.Def K mg "_law_is_place" s__law_is_place f fd) (b : Binds K fd ["_law_actual"] []) (T : Bi mg) (c__law_is_integer : C8.Cal P w K mg base 1 "_law_is_integer" spIsInt []) : C8.Cal P w K mg base 2 "_law_is_place" (spIsPlace K) [] := by
  refine C8.cal0 D b .nil sc__law_is_place (fun vs H Q E h => ?_) (fun cdv A outer s H vs Q E hr h => ?_)
  · obtain ⟨a, ns, rfl, _⟩ := h
    rfl
  · obtain ⟨a, ns, rfl, hS, h1, h3, q⟩ := h
    have hT : SqT K H a (ns.map V.int) := .inl (.inl hS)
    refine ⟨_, (pss_cons (ps_if (PW.pt (pw_or (pt_not (pt_val (pe_callB call_isi (by rfl) T.n_isinstance OT.b_isinstance (pa_cons (pv 0) (pa_cons (pe_bltn (v := .ty "tuple") (by rfl) T.n_tuple OT.b_tuple rfl) pa_nil))))) (pw_or (pt_cmpR op_lt (pe_callB call_len_seq (by rfl) T.n_len OT.b_len (pa_cons (pv 0) pa_nil)) pe_int (nomark _)) (pw_or1 (pt_cmpR op_gt (pe_callB call_len_seq (by rfl) T.n_len OT.b_len (pa_cons (pv 0) pa_nil)) pe_int (nomark _)))))) (pss_one (ps_ret pe_bl)) pss_nil)
  (pss_cons (ps_for PassesOwn.never rfl (pi_tup (pv 0)) (pg_name (i := 1) sc__law_is_place.nd rfl (Or.inl rfl)) (pss_one (ps_if (pt_not (pt_val (C8.pe_c c__law_is_integer hr (by decide) (by rfl) (pa_cons (pv 1) pa_nil)))) (pss_one (ps_ret pe_bl)) pss_nil)))
  (pss_one (ps_ret pe_bl)))), ?_⟩
    refine ⟨_, rfl, _, _, _, _, _, rfl, .ty _, .base (.tup hS), kit_ty kb_tt, _, rfl, ?_⟩
    refine iteF ?_
    refine ⟨_, rfl, a, _, rfl, .inr hT, _, _, rfl, rfl, _, rfl, iteD (fun z => ?_) (fun _ => ?_)⟩
    · rw [List.length_map] at z
      omega
    refine ⟨_, rfl, a, _, rfl, .inr hT, _, _, rfl, rfl, _, rfl, iteD (fun z => ?_) (fun _ => ?_)⟩
    · rw [List.length_map] at z
      omega
    refine ⟨_, rfl, a, rfl, ⟨_, hT⟩, ?_⟩
    refine for_tup (K := K) (xs := ns.map V.int) (fun i σ H2 => ∃ y, σ = [some (.ref a), y] ∧ H2 = H) ⟨none, rfl, rfl⟩ (fun i σ H2 _ ⟨_, _, e⟩ => by rw [e]; exact hT) ?_ ?_
    · rintro i x σ H2 hx ⟨y, rfl, rfl⟩
      obtain ⟨hi, rfl⟩ := getm hx
      exact ⟨_, rfl, _, rfl, _, rfl, iteF ⟨_, rfl, rfl⟩⟩
    · rintro σ H2 ⟨y, rfl, rfl⟩
      exact q
end
end OT

set_option Elab.async false
set_option linter.all false
set_option maxRecDepth 100000
set_option maxHeartbeats 2000000
namespace OT
open PySem PySem.Spec PyProof.Rows L2
theorem kV_ints (k : Pl) : (k.map (Sum.inl : Int → Key)).map kV = k.map V.int := by
  rw [List.map_map]
  rfl
theorem dgetT {H : Hp} {d b : Addr} {kvs : List (List Key × V)} {k : Pl} {o : Option V} (e : H d = some (.dT kvs)) (eb : H b = some (.tup (k.map V.int))) (h : valV kvs (k.map Sum.inl) = o) : DGet H d (.ref b) o := by
  rw [← h]
  exact DGet.t e (by rw [kV_ints]; exact eb)
theorem ne_lst {H : Hp} {a D : Addr} {xs l : List V} (h : H a = some (.tup xs)) (hD : H D = some (.lst l)) : a ≠ D := fun e => by
  rw [e, hD] at h
  cases h
theorem EntAt.updL {H : Hp} {D : Addr} {l l' : List V} {v : V} {e : Ent} (hD : H D = some (.lst l)) (h : EntAt H v e) : EntAt (upd H D (.lst l')) v e := by
  obtain ⟨t, p, rfl, h1, h2⟩ := h
  exact ⟨t, p, rfl, by rw [upd_ne (ne_lst h1 hD)]; exact h1, by rw [upd_ne (ne_lst h2 hD)]; exact h2⟩
theorem Ents.updL {H : Hp} {D : Addr} {l l' : List V} {vs : List V} {es : List Ent} (hD : H D = some (.lst l)) (h : Ents H vs es) : Ents (upd H D (.lst l')) vs es := by
  induction h with
  | nil => exact .nil
  | cons h1 _ ih => exact .cons (h1.updL hD) ih
theorem mkR_len (f : Pl → Int) : ∀ ks : List Pl, (mkR f ks).length ≤ ks.length
  | [] => Nat.le_refl _
  | k :: r => by
    have ih := mkR_len f r
    show (if f k = 0 then mkR f r else (k, f k) :: mkR f r).length ≤ r.length + 1
    by_cases h : f k = 0
    · rw [if_pos h]
      omega
    · rw [if_neg h, List.length_cons]
      omega
theorem none_of_upd {H : Hp} {p D : Addr} {o : HO} (h : upd H p o D = none) : H D = none ∧ p ≠ D := by
  have ne : p ≠ D := ne_of_none upd_same h
  exact ⟨by rw [upd_ne ne.symm] at h; exact h, ne⟩
section
variable {P : Program} {w : World} {K : PySem.W.Frag} {mg : Str → Option Value} {base : Heap}
def wantRow (H : Hp) (es : List Ent) (Q : VK) : Prop := ∀ (r : List Ent) (p : Addr) (ws : List V) (H' : Hp), RowIs r es → Same H H' → H p = none → H' p = some (.lst ws) → Ents H' ws r → Q (.ref p) H'
def spRowOf (K : PySem.W.Frag) : Sp := fun vs H Q _ => ∃ (d : Addr) (kvs : List (List Key × V)) (ks : List Pl) (es : List Ent), vs = [.ref d] ∧ H d = some (.dT kvs) ∧ Sums kvs ks (numAt es) ∧ (∀ k ∈ ks, k ≠ []) ∧ ks.length < sizeLine ∧ wantRow H es Q
end
end OT

set_option Elab.async false
set_option linter.all false
set_option maxRecDepth 100000
set_option maxHeartbeats 2000000
namespace OT
open PySem PySem.Spec PyProof.Rows L2
section
variable {P : Program} {w : World} {K : PySem.W.Frag} {mg : Str → Option Value} {base : Heap}
theorem put_keys_ne {ks : List Pl} {e : Pl} (h : ∀ k ∈ ks, k ≠ []) (he : e ≠ []) : ∀ k ∈ (if e ∈ ks then ks else ks ++ [e]), k ≠ [] := by
  by_cases m : e ∈ ks
  · rw [if_pos m]
    exact h
  · rw [if_neg m]
    intro k hk
    rcases List.mem_append.mp hk with hk | hk
    · exact h k hk
    · rw [List.mem_singleton.mp hk]
      exact he
theorem put_keys_len {ks : List Pl} {e : Pl} {i : Nat} (h : ks.length ≤ i) : (if e ∈ ks then ks else ks ++ [e]).length ≤ i + 1 := by
  by_cases m : e ∈ ks
  · rw [if_pos m]
    omega
  · rw [if_neg m, List.length_append, List.length_singleton]
    omega
theorem Ents.updD {H : Hp} {D : Addr} {l l' : List (List Key × V)} {vs : List V} {es : List Ent} (hD : H D = some (.dT l)) (h : Ents H vs es) : Ents (upd H D (.dT l')) vs es := by
  have ne : ∀ {a : Addr} {xs : List V}, H a = some (.tup xs) → a ≠ D := fun {a xs} h e => by
    rw [e, hD] at h
    cases h
  induction h with
  | nil => exact .nil
  | cons h1 _ ih =>
    obtain ⟨t, p, rfl, h1, h2⟩ := h1
    exact .cons ⟨t, p, rfl, by rw [upd_ne (ne h1)]; exact h1, by rw [upd_ne (ne h2)]; exact h2⟩ ih
theorem seq_upd {H : Hp} {D a : Addr} {o : HO} {xs : List V} (h : SqL K H a xs) (ne : a ≠ D) : SqL K (upd H D o) a xs := by
  rcases h with (h | ⟨o', h⟩) | h
  · exact .inl (.inl (by rw [upd_ne ne]; exact h))
  · exact .inl (.inr ⟨o', by rw [upd_ne ne]; exact h⟩)
  · exact .inr h
/-- what a list of entries asks -/
structure InEnts (K : PySem.W.Frag) (H : Hp) (a : Addr) (vs : List V) (es : List Ent) : Prop where
  l : SqL K H a vs
  e : Ents H vs es
  z : es.length < sizeLine
theorem InEnts.mono {H H' : Hp} {a : Addr} {vs : List V} {es : List Ent} (s : Same H H') (h : InEnts K H a vs es) : InEnts K H' a vs es := ⟨s.seq h.l, h.e.mono s, h.z⟩
def spGather (K : PySem.W.Frag) : Sp := fun vs H Q _ => ∃ (a : Addr) (xs : List V) (es : List Ent), vs = [.ref a] ∧ InEnts K H a xs es ∧ (∀ e ∈ es, e.1 ≠ []) ∧ wantRow H es Q
theorem c__law_row {f : Addr} {fd : FuncData} (D : C8.Def K mg "_law_row" s__law_row f fd) (b : Binds K fd ["_law_pairs"] []) (T : Bi mg) : C8.Cal P w K mg base 1 "_law_row" (spGather K) [] := by
  refine C8.cal0 D b .nil sc__law_row (fun vs H Q E h => ?_) (fun cdv A outer s H vs Q E hr h => ?_)
  · obtain ⟨a, xs, es, rfl, _⟩ := h
    rfl
  · obtain ⟨a, xs, es, rfl, hE, hne, q⟩ := h
    refine ⟨_, (pss_cons (ps_set (i := 1) sc__law_row.nd rfl (Or.inr rfl) pe_dnewT)
  (pss_cons (ps_for PassesOwn.never rfl (pi_list (pv 0)) (pg_tup rfl (pgs_cons (pg_name (i := 2) sc__law_row.nd rfl (Or.inl rfl)) (pgs_cons (pg_name (i := 3) sc__law_row.nd rfl (Or.inl rfl)) pgs_nil))) (pss_one (ps_dput (hu_of hr) (pv 1) (pv 2) (pe_op op_add (pe_dget2 (hu_of hr) (pv 1) (pv 2) pe_int ⟨rfl, rfl, rfl, rfl⟩) (pv 3)) rfl)))
  (pss_one (ps_ret (pe_lc (own := [("_law_place", 2)]) (g := (gName 2)) rfl sc__law_row.nd (pi_list (pe_callB (cr_sortedDT rfl) (by rfl) T.n_sorted OT.b_sorted (pa_cons (pv 1) pa_nil))) (blkOk_by (N := ["_law_pairs", "_law_sums", "_law_place", "_law_number"]) (sc := C8.fnScope s__law_row) (by decide +kernel)) (fun _ _ _ _ _ => (pg_name (i := 2) sc__law_row.nd rfl (Or.inl rfl))) (fun _ _ _ _ _ => (pts_one (pt_cmpR op_ne (pe_dget (hu_of hr) (pv 1) (pv 2) (fun _ _ => rfl)) pe_int (nomark _)))) (fun _ _ _ _ _ => (pe_tup (pa_cons (pv 2) (pa_cons (pe_dget (hu_of hr) (pv 1) (pv 2) (fun _ _ => rfl)) pa_nil))))))))), ?_⟩
    refine fun d nd => ?_
    have s1 : Same H (upd H d (.dT [])) := same_upd nd
    refine ⟨_, rfl, a, rfl, ⟨xs, s1.seq hE.l⟩, ?_⟩
    refine for_list (K := K) (xs := xs) (fun i σ H2 => ∃ (kvs : List (List Key × V)) (ks : List Pl) (y2 y3 : Option V), σ = [some (.ref a), some (.ref d), y2, y3] ∧ Same H H2 ∧ H2 d = some (.dT kvs) ∧ Sums kvs ks (numAt (es.take i)) ∧ (∀ k ∈ ks, k ≠ []) ∧ ks.length ≤ i) ?_ ?_ ?_ ?_
    · exact ⟨[], [], none, none, rfl, s1, upd_same, Sums.nil, fun k hk => (by cases hk), Nat.le_refl _⟩
    · rintro i σ H2 _ ⟨_, _, _, _, _, sm, _⟩
      exact sm.seq hE.l
    · rintro i x σ H2 hx ⟨kvs, ks, y2, y3, rfl, sm, hd, hs, hk, hl⟩
      obtain ⟨e, he, hv⟩ := (hE.e.mono sm).get hx
      obtain ⟨t, p, rfl, ht, hp⟩ := hv
      have hi := (List.getElem?_eq_some_iff.mp he).1
      have hm : e ∈ es := List.mem_of_getElem? he
      have hz := hE.z
      refine ⟨t, _, rfl, .inl (.inl ht), rfl, _, _, rfl, _, _, rfl, rfl, ?_⟩
      refine ⟨_, rfl, d, rfl, .inr ⟨kvs, .inl hd⟩, _, rfl, _, dgetT hd hp rfl, _, rfl, numAt (es.take i) e.1, e.2, hs.getD _, rfl, _, rfl, _, rfl, d, _, rfl, DPut.t hd (k := e.1.map Sum.inl) (by rw [kV_ints]; exact hp) ?_, ?_⟩
      · rw [hs.len]
        omega
      · exact ⟨_, _, _, _, rfl, same_mut sm nd, upd_same, hs.next he, put_keys_ne hk (hne e hm), put_keys_len hl⟩
    · rintro σ H2 ⟨kvs, ks, y2, y3, rfl, sm, hd, hs, hk, hl⟩
      have hz := hE.z
      have hlen := hE.e.len
      rw [hlen, List.take_length] at hs
      have hkz : ks.length < sizeLine := by omega
      refine ⟨_, rfl, d, kvs, ks, rfl, .inl hd, hs.keys, fun _ => hk, fun out p perm pw nod held np => ?_⟩
      refine ⟨p, rfl, ⟨_, .inl (.inl upd_same)⟩, fun D nD => ?_⟩
      have hpD : p ≠ D := ne_of_none upd_same nD
      obtain ⟨hDn, _⟩ := none_of_upd nD
      have hkd : ∀ x ∈ out, x.2 ∈ ks := fun x hx => perm.mem_iff.mp (List.mem_map_of_mem hx)
      refine lc_list (K := K) (a := p) (xs := out.map fun x => V.ref x.1) (fun i H3 => Same H2 H3 ∧ H3 p = some (.lst (out.map fun x => V.ref x.1)) ∧ ∃ ws, H3 D = some (.lst ws) ∧ Ents H3 ws (mkR (numAt es) ((out.take i).map (·.2)))) ?_ ?_ ?_ ?_
      · refine ⟨(same_upd np).trans (same_upd nD), ?_, [], upd_same, .nil⟩
        rw [upd_ne hpD, upd_same]
      · rintro i H3 _ ⟨_, hp, _⟩
        exact .inl (.inl hp)
      · rintro i x H3 hx ⟨sm3, hp, ws, hD, hE3⟩
        obtain ⟨hi, rfl⟩ := getm hx
        have hm := List.getElem_mem hi
        have hk3 := sm3 _ _ (held _ hm)
        have hv := hs.get (hkd _ hm)
        have hd2 := sm3 _ _ hd
        refine ⟨rfl, _, rfl, _, rfl, d, _, rfl, dgetT hd2 hk3 hv, ?_⟩
        refine ⟨rfl, _, rfl, ?_⟩
        have htk : (out.take (i + 1)).map (·.2) = (out.take i).map (·.2) ++ [out[i].2] := take_map_succ (·.2) hi
        rw [htk, mkR_snoc]
        refine iteND (fun hn => ?_) (fun h0 => ?_)
        · have hn0 : numAt es out[i].2 ≠ 0 := fun z => hn (by rw [z])
          rw [if_neg hn0]
          refine ⟨_, rfl, _, rfl, _, rfl, d, _, rfl, dgetT hd2 hk3 hv, (by show 2 ≤ sizeLine; decide), fun t nt => ?_⟩
          have ntD : D ≠ t := ne_of_none hD nt
          have smt : Same H3 (upd H3 t (.tup [.ref out[i].1, .int (numAt es out[i].2)])) := same_upd nt
          have hD3 := smt _ _ hD
          refine ⟨ws, hD3, ?_, same_mut (sm3.trans smt) hDn, ?_, ws ++ [.ref t], upd_same, ?_⟩
          · have h1 := hE3.len
            have h2 := mkR_len (numAt es) ((out.take i).map (·.2))
            have h3 := perm.length_eq
            rw [List.length_map] at h2 h3
            rw [List.length_take] at h2
            omega
          · rw [upd_ne hpD]
            exact smt _ _ hp
          · refine ((hE3.mono smt).updL hD3).app (.cons (EntAt.updL hD3 ⟨t, _, rfl, upd_same, ?_⟩) .nil)
            exact smt _ _ hk3
        · have h0' : numAt es out[i].2 = 0 := V.int.inj h0
          rw [if_pos h0', List.append_nil]
          exact ⟨sm3, hp, ws, hD, hE3⟩
      · rintro H3 ⟨sm3, hp, ws, hD, hE3⟩
        rw [List.length_map, List.take_length] at hE3
        refine q _ D ws H3 (row_sorted perm pw nod hs.out) (sm.trans sm3) ?_ hD hE3
        cases z : H D with
        | none => rfl
        | some o =>
          rw [sm _ _ z] at hDn
          cases hDn
end
end OT

set_option Elab.async false
set_option linter.all false
set_option maxRecDepth 100000
set_option maxHeartbeats 2000000
namespace OT
open PySem PySem.Spec PyProof.Rows L2
section
variable {P : Program} {w : World} {K : PySem.W.Frag} {mg : Str → Option Value} {base : Heap}
/-- a row of places of n coordinates -/
structure RowN (n : Nat) (r : List Ent) : Prop where
  v : Valid r
  n1 : 1 ≤ n
  n3 : n ≤ 3
  at_ : ∀ e ∈ r, e.1.length = n
theorem asc_get {r : List Ent} (h : Valid r) {i j : Nat} (hi : i < r.length) (hj : j < r.length) (hij : i < j) : HT.lexLt r[i].1 r[j].1 = true := List.pairwise_iff_getElem.mp h.asc i j hi hj hij
def spIsRow (K : PySem.W.Frag) : Sp := fun vs H Q _ => ∃ (a : Addr) (ws : List V) (r : List Ent) (n : Nat), vs = [.ref a] ∧ H a = some (.lst ws) ∧ Ents H ws r ∧ RowN n r ∧ r.length ≤ 100000 ∧ Q (.bl true) H
theorem c__law_is_row {f : Addr} {fd : FuncData} (D : C8.Def K mg "_law_is_row" s__law_is_row f fd) (b : Binds K fd ["_law_actual"] []) (T : Bi mg) (c__law_is_place : C8.Cal P w K mg base 2 "_law_is_place" (spIsPlace K) []) (c__law_is_integer : C8.Cal P w K mg base 1 "_law_is_integer" spIsInt []) :
    C8.Cal P w K mg base 3 "_law_is_row" (spIsRow K) [] := by
  refine C8.cal0 D b .nil sc__law_is_row (fun vs H Q E h => ?_) (fun cdv A outer s H vs Q E hr h => ?_)
  · obtain ⟨a, ws, r, n, rfl, _⟩ := h
    rfl
  · obtain ⟨a, ws, r, n, rfl, ha, hE, hN, hz, q⟩ := h
    have hS : SqL K H a ws := .inl (.inl ha)
    refine ⟨_, (pss_cons (ps_if (pt_not (pt_val (pe_callB call_isi (by rfl) T.n_isinstance OT.b_isinstance (pa_cons (pv 0) (pa_cons (pe_bltn (v := .ty "list") (by rfl) T.n_list OT.b_list rfl) pa_nil))))) (pss_one (ps_ret pe_bl)) pss_nil)
  (pss_cons (ps_for PassesOwn.never rfl (pi_range1 rfl T.n_range (pa_cons (pe_callB call_len_seq (by rfl) T.n_len OT.b_len (pa_cons (pv 0) pa_nil)) pa_nil)) (pg_name (i := 1) sc__law_is_row.nd rfl (Or.inl rfl)) (pss_cons (ps_set (i := 2) sc__law_is_row.nd rfl (Or.inl rfl) (pe_ix ix_list (pv 0) (pv 1) (fun _ _ => rfl)))
  (pss_cons (ps_if (PW.pt (pw_or (pt_not (pt_val (pe_callB call_isi (by rfl) T.n_isinstance OT.b_isinstance (pa_cons (pv 2) (pa_cons (pe_bltn (v := .ty "tuple") (by rfl) T.n_tuple OT.b_tuple rfl) pa_nil))))) (pw_or1 (pt_cmpR op_ne (pe_callB call_len_seq (by rfl) T.n_len OT.b_len (pa_cons (pv 2) pa_nil)) pe_int (nomark _))))) (pss_one (ps_ret pe_bl)) pss_nil)
  (pss_cons (ps_if (PW.pt (pw_or (pt_not (pt_val (C8.pe_c c__law_is_place hr (by decide) (by rfl) (pa_cons (pe_ix ix_tup (pv 2) pe_int (fun _ _ => rfl)) pa_nil)))) (pw_or (pt_not (pt_val (C8.pe_c c__law_is_integer hr (by decide) (by rfl) (pa_cons (pe_ix ix_tup (pv 2) pe_int (fun _ _ => rfl)) pa_nil)))) (pw_or1 (pt_cmpR op_eq (pe_ix ix_tup (pv 2) pe_int (fun _ _ => rfl)) pe_int (nomark _)))))) (pss_one (ps_ret pe_bl)) pss_nil)
  (pss_cons (ps_if (pt_cmpR op_ne (pe_callB call_len_seq (by rfl) T.n_len OT.b_len (pa_cons (pe_ix ix_tup (pv 2) pe_int (fun _ _ => rfl)) pa_nil)) (pe_callB call_len_seq (by rfl) T.n_len OT.b_len (pa_cons (pe_ix ix_tup (pe_ix ix_list (pv 0) pe_int (fun _ _ => rfl)) pe_int (fun _ _ => rfl)) pa_nil)) (nomark _)) (pss_one (ps_ret pe_bl)) pss_nil)
  (pss_one (ps_if (PW.pt (pw_and (pt_cmpR op_gt (pv 1) pe_int (nomark _)) (pw_and1 (pt_not (pt_cmpR (op_ltT hr.units0) (pe_ix ix_tup (pe_ix ix_list (pv 0) (pe_op op_sub (pv 1) pe_int) (fun _ _ => rfl)) pe_int (fun _ _ => rfl)) (pe_ix ix_tup (pv 2) pe_int (fun _ _ => rfl)) (nomark _)))))) (pss_one (ps_ret pe_bl)) pss_nil)))))))
  (pss_one (ps_ret pe_bl)))), ?_⟩
    refine ⟨_, rfl, _, _, _, _, _, rfl, .ty _, .base (.lst ha), kit_ty kb_ll, _, rfl, ?_⟩
    refine iteF ?_
    refine ⟨_, rfl, a, _, rfl, .inl hS, _, rfl, ?_, ?_, ?_⟩
    · omega
    · have h2 := hE.len
      have : (2 : Int) ^ 62 = 4611686018427387904 := by decide
      omega
    rw [Int.toNat_natCast, hE.len]
    refine for_range (fun i σ H2 => ∃ y1 y2, σ = [some (.ref a), y1, y2] ∧ H2 = H) ⟨none, none, rfl, rfl⟩ ?_ ?_
    · rintro i σ H2 hi ⟨y1, y2, rfl, rfl⟩
      obtain ⟨v, hv, t, p, rfl, ht, hp⟩ := hE.at hi
      obtain ⟨v0, hv0, t0, p0, rfl, ht0, hp0⟩ := hE.at (i := 0) (by omega)
      have hm := List.getElem_mem hi
      have hm0 := List.getElem_mem (show 0 < r.length by omega)
      have hT : SqT K H2 t [.ref p, .int r[i].2] := .inl (.inl ht)
      have hT0 : SqT K H2 t0 [.ref p0, .int (r[0]'(by omega)).2] := .inl (.inl ht0)
      have hP : SqT K H2 p (r[i].1.map V.int) := .inl (.inl hp)
      have hP0 : SqT K H2 p0 ((r[0]'(by omega)).1.map V.int) := .inl (.inl hp0)
      refine ⟨_, rfl, _, rfl, a, _, _, .ref t, rfl, rfl, hS, by rw [Int.zero_add]; exact atI_nat hv, ?_⟩
      refine ⟨_, rfl, _, _, _, _, _, rfl, .ty _, .base (.tup ht), kit_ty kb_tt, _, rfl, ?_⟩
      refine iteF ?_
      refine ⟨_, rfl, t, _, rfl, .inr hT, rfl, _, rfl, ?_⟩
      refine iteF ?_
      refine ⟨_, rfl, t, _, 0, _, rfl, rfl, hT, atI_nat (j := 0) rfl, p, _, rfl, hp, by rw [hN.at_ _ hm]; exact hN.n1, by rw [hN.at_ _ hm]; exact hN.n3, _, rfl, ?_⟩
      refine iteF ?_
      refine ⟨_, rfl, t, _, 1, _, rfl, rfl, hT, atI_nat (j := 1) rfl, _, rfl, _, rfl, ?_⟩
      refine iteF ?_
      refine ⟨_, rfl, t, _, 1, _, rfl, rfl, hT, atI_nat (j := 1) rfl, rfl, _, rfl, iteD (fun z => absurd (V.int.inj z) (hN.v.nz _ hm)) (fun _ => ?_)⟩
      refine ⟨_, rfl, t, _, 0, _, rfl, rfl, hT, atI_nat (j := 0) rfl, p, _, rfl, .inr hP, _, rfl, a, _, 0, _, rfl, rfl, hS, atI_nat (j := 0) hv0, t0, _, 0, _, rfl, rfl, hT0, atI_nat (j := 0) rfl, p0, _, rfl, .inr hP0, rfl, _, rfl, iteND (fun z => ?_) (fun _ => ?_)⟩
      · rw [List.length_map, List.length_map, hN.at_ _ hm, hN.at_ _ hm0] at z
        exact absurd rfl z
      refine ⟨_, rfl, _, _, rfl, rfl, _, rfl, iteD (fun hk => ?_) (fun _ => ?_)⟩
      · have hi1 : i - 1 < r.length := by omega
        obtain ⟨v1, hv1, t1, p1, rfl, ht1, hp1⟩ := hE.at (i := i - 1) hi1
        have hT1 : SqT K H2 t1 [.ref p1, .int (r[i - 1]'hi1).2] := .inl (.inl ht1)
        refine ⟨_, rfl, _, rfl, _, _, rfl, rfl, a, _, _, _, rfl, rfl, hS, ?_, t1, _, 0, _, rfl, rfl, hT1, atI_nat (j := 0) rfl, _, rfl, t, _, 0, _, rfl, rfl, hT, atI_nat (j := 0) rfl, p1, p, _, _, rfl, rfl, .inl (.inl hp1), hP, _, rfl, ?_⟩
        · rw [show (0 : Int) + (i : Int) - 1 = ((i - 1 : Nat) : Int) by omega]
          exact atI_nat hv1
        · rw [asc_get hN.v hi1 hi (by omega)]
          refine iteF ?_
          exact ⟨_, _, rfl, rfl⟩
      · exact ⟨_, _, rfl, rfl⟩
    · rintro σ H2 ⟨y1, y2, rfl, rfl⟩
      exact q
def spSame (K : PySem.W.Frag) : Sp := fun vs H Q _ => ∃ (a c : Addr) (ws us : List V) (r : List Ent) (n : Nat), vs = [.ref a, .ref c] ∧ H a = some (.lst ws) ∧ Ents H ws r ∧ H c = some (.lst us) ∧ Ents H us r ∧ RowN n r ∧ r.length ≤ 100000 ∧ Q (.bl true) H
theorem c__law_same {f : Addr} {fd : FuncData} (D : C8.Def K mg "_law_same" s__law_same f fd) (b : Binds K fd ["_law_actual", "_law_expected"] []) (T : Bi mg) (c__law_is_row : C8.Cal P w K mg base 3 "_law_is_row" (spIsRow K) []) :
    C8.Cal P w K mg base 4 "_law_same" (spSame K) [] := by
  refine C8.cal0 D b .nil sc__law_same (fun vs H Q E h => ?_) (fun cdv A outer s H vs Q E hr h => ?_)
  · obtain ⟨a, c, ws, us, r, n, rfl, _⟩ := h
    rfl
  · obtain ⟨a, c, ws, us, r, n, rfl, ha, hE, hc, hF, hN, hz, q⟩ := h
    refine ⟨_, (pss_one (ps_ret (pe_and (C8.pe_c c__law_is_row hr (by decide) (by rfl) (pa_cons (pv 0) pa_nil)) (pe_one (pe_cmpR (op_eqD hr.units) (pv 0) (pv 1) (nomark _)))))), ?_⟩
    refine ⟨_, rfl, a, ws, r, n, rfl, ha, hE, hN, hz, _, rfl, ?_⟩
    refine iteT ?_
    refine ⟨_, rfl, _, rfl, dRow r, dRow r, hE.dp (.inl (.inl ha)), hF.dp (.inl (.inl hc)), shaped_row r, shaped_row r, ?_⟩
    rw [SeqAt.eqv_refl _ (SeqAt.canLay_of_shaped (shaped_row r))]
    exact q
end
end OT

set_option Elab.async false
set_option linter.all false
set_option maxRecDepth 100000
set_option maxHeartbeats 2000000

namespace OT
open PySem PySem.Spec PyProof.Rows L2
open TL (tl)
/-! ### decimal texts, sign by sign -/
def bodyL : List Nat → List Nat
  | [] => []
  | c :: r => if c = 45 then r else c :: r
theorem bodyL_45 (r : List Nat) : bodyL (45 :: r) = r := by
  show (if 45 = 45 then r else 45 :: r) = r
  rw [if_pos rfl]
theorem bodyL_ne {c : Nat} (r : List Nat) (h : ¬ c = 45) : bodyL (c :: r) = c :: r := by
  show (if c = 45 then r else c :: r) = c :: r
  rw [if_neg h]
def digsL (l : List Nat) : Bool := l.all fun c => decide (48 ≤ c ∧ c ≤ 57)
def decL (l : List Nat) : Bool := !(bodyL l).isEmpty && (digsL (bodyL l) && (decide ((bodyL l).head? ≠ some 48) || decide (l = [48])))
theorem tl_minus : tl ("-" : Str) = [45] := by decide +kernel
theorem tl_zero : tl ("0" : Str) = [48] := by decide +kernel
theorem tl_empty : tl ("" : Str) = [] := by decide +kernel
theorem tl_inj {x y : Str} : x = y ↔ tl x = tl y := ⟨fun h => by rw [h], TL.ext_tl⟩
theorem tl_rm (z : Str) : tl (Txt.removeprefix z ("-" : Str)) = bodyL (tl z) := by
  have hl : ("-" : Str).length = 1 := by decide +kernel
  unfold Txt.removeprefix
  rw [PySem.StrLaws.subAt_eq, hl, List.drop_zero]
  show tl (Txt.affix z (if ((tl z).take 1 == tl ("-" : Str)) = true then some (1, z.length) else none)) = _
  rw [tl_minus]
  have hlen := TL.len_tl z
  cases e : tl z with
  | nil =>
    rw [if_neg (by simp)]
    exact e
  | cons c r =>
    by_cases hc : c = 45
    · subst hc
      rw [if_pos (by simp)]
      unfold Txt.affix
      dsimp only
      have h1 : (z.length - 1 == z.length) = false := by
        rw [e] at hlen
        rw [List.length_cons] at hlen
        simp
        omega
      rw [h1, if_neg Bool.false_ne_true, TL.tl_strSub_end, e]
      rfl
    · rw [if_neg (by simpa using hc)]
      show tl z = _
      rw [e, bodyL_ne r hc]
theorem ascii_digit {l : List Nat} : (l.all (· < 128) && (decide (l.length > 0) && l.all Unicode.isDigit)) = (!l.isEmpty && digsL l) := by
  have key : ∀ c : Nat, (decide (c < 128) && Unicode.isDigit c) = decide (48 ≤ c ∧ c ≤ 57) := fun c => by
    by_cases h : c < 128
    · have q : ∀ c, c < 128 → Unicode.isDigit c = decide (48 ≤ c ∧ c ≤ 57) := by decide +kernel
      rw [q c h, decide_eq_true h, Bool.true_and]
    · rw [decide_eq_false h, Bool.false_and]
      exact (decide_eq_false (by omega)).symm
  have all2 : ∀ l : List Nat, (l.all (· < 128) && l.all Unicode.isDigit) = digsL l := by
    intro l
    induction l with
    | nil => rfl
    | cons c r ih =>
      have k := key c
      unfold digsL at ih ⊢
      simp only [List.all_cons]
      rw [← ih, ← k]
      cases decide (c < 128) <;> cases Unicode.isDigit c <;> simp
  rw [← all2 l]
  cases l with
  | nil => rfl
  | cons c r =>
    have h : decide ((c :: r).length > 0) = true := decide_eq_true (Nat.succ_pos _)
    rw [h]
    simp
theorem all_tl (z : Str) (p : Nat → Bool) : z.cps.all p = (tl z).all p := by
  rw [← Array.all_toList]
section
variable {P : Program} {w : World} {K : PySem.W.Frag} {mg : Str → Option Value} {base : Heap}
def spDec : Sp := fun vs H Q _ => ∃ z : Str, vs = [.str z] ∧ z.length ≤ 1000 ∧ Q (.bl (decL (tl z))) H
theorem rm_len (z : Str) : (Txt.removeprefix z ("-" : Str)).length ≤ z.length := by
  rw [TL.len_tl, TL.len_tl, tl_rm]
  cases tl z with
  | nil => exact Nat.le_refl _
  | cons c r =>
    by_cases h : c = 45
    · subst h
      rw [bodyL_45]
      exact Nat.le_succ _
    · rw [bodyL_ne r h]
      exact Nat.le_refl _
theorem c_is_decimal {f : Addr} {fd : FuncData} (D : C8.Def K mg "is_decimal" s_is_decimal f fd) (b : Binds K fd ["text"] []) (T : Bi mg) : C8.Cal P w K mg base 1 "is_decimal" spDec [] := by
  refine C8.cal0 D b .nil sc_is_decimal (fun vs H Q E h => ?_) (fun cdv A outer s H vs Q E hr h => ?_)
  · obtain ⟨z, rfl, _⟩ := h
    rfl
  · obtain ⟨z, rfl, hz, q⟩ := h
    refine ⟨_, (pss_cons (ps_set (i := 1) sc_is_decimal.nd rfl (Or.inl rfl) (pe_m1 PySem.F.slot_str_removeprefix PySem.F.type_str_removeprefix mt_removeprefix (pv 0) pe_str))
  (pss_cons (ps_if (PW.pt (pw_or (pt_not (pt_val (pe_m0 PySem.F.slot_str_isascii PySem.F.type_str_isascii mt_isascii (pv 1)))) (pw_or1 (pt_not (pt_val (pe_m0 PySem.F.slot_str_isdigit PySem.F.type_str_isdigit mt_isdigit (pv 1))))))) (pss_one (ps_ret pe_bl)) pss_nil)
  (pss_one (ps_ret (pe_or (pe_cmpR op_eq (pv 0) pe_str (nomark _)) (pe_one (pe_cmpR op_ne (pe_ix ix_str (pv 1) pe_int (fun _ _ => rfl)) pe_str (nomark _)))))))), ?_⟩
    have hz2 : z.length ≤ sizeLine := Nat.le_of_lt (small1000 hz)
    refine ⟨_, rfl, ⟨_, rfl⟩, z, "-", rfl, rfl, hz2, ?_⟩
    have ed := tl_rm z
    have hrm := rm_len z
    generalize Txt.removeprefix z ("-" : Str) = d at ed hrm ⊢
    have kd : (Txt.isascii d && Txt.isdigit d) = (!(tl d).isEmpty && digsL (tl d)) := by
      rw [← ascii_digit, ← all_tl, ← all_tl, ← TL.len_tl]
      rfl
    rw [ed] at kd
    have e0 : decL (tl z) = ((Txt.isascii d && Txt.isdigit d) && (decide ((bodyL (tl z)).head? ≠ some 48) || decide (tl z = [48]))) := by
      unfold decL
      rw [kd, Bool.and_assoc]
    refine ⟨_, rfl, ⟨_, rfl⟩, d, rfl, rfl, trivial, _, rfl, iteB (fun h1 => iteT ?_) (fun h1 => ?_)⟩
    · rw [e0] at q
      rw [Bool.not_eq_true'] at h1
      rw [h1, Bool.false_and, Bool.false_and] at q
      exact q
    · rw [Bool.not_eq_false'] at h1
      refine ⟨_, rfl, ⟨_, rfl⟩, d, rfl, rfl, trivial, _, rfl, iteB (fun h2 => ?_) (fun h2 => ?_)⟩
      · rw [e0] at q
        rw [Bool.not_eq_true'] at h2
        rw [h2, Bool.and_false, Bool.false_and] at q
        exact q
      · rw [Bool.not_eq_false'] at h2
        rw [h1, h2, Bool.true_and] at e0
        rw [Bool.true_and] at e0
        have hne : bodyL (tl z) ≠ [] := fun h => by
          rw [h1, h2, h] at kd
          cases kd
        refine ⟨_, rfl, rfl, _, rfl, iteD (fun h3 => ?_) (fun h3 => ?_)⟩
        · rw [e0, show decide (tl z = [48]) = true from decide_eq_true (by rw [V.str.inj h3]; exact tl_zero), Bool.or_true] at q
          exact q
        · have h4 : decide (tl z = [48]) = false := decide_eq_false fun h => h3 (by rw [tl_inj.mpr (h.trans tl_zero.symm)])
          rw [e0, h4, Bool.or_false, ← ed] at q
          rw [← ed] at hne
          cases e5 : tl d with
          | nil => exact absurd e5 hne
          | cons c r =>
            refine ⟨_, rfl, d, 0, c, rfl, rfl, Nat.le_trans hrm hz2, ?_, rfl, ?_⟩
            · show atI (tl d) ((0 : Nat) : Int) = some c
              rw [e5]
              exact atI_nat rfl
            · rw [e5] at q
              have e6 : decide (V.str ⟨#[c]⟩ = V.str ("0" : Str)) = decide (c = 48) := by
                rw [Bool.eq_iff_iff, decide_eq_true_iff, decide_eq_true_iff]
                refine ⟨fun h => ?_, fun h => by rw [h]; rfl⟩
                have h7 := (tl_inj.mp (V.str.inj h)).trans tl_zero
                exact (List.cons.inj h7).1
              have e8 : decide ((c :: r).head? ≠ some 48) = !decide (c = 48) := by
                rw [Bool.eq_iff_iff]
                simp
              show Q (.bl (!decide (V.str ⟨#[c]⟩ = V.str ("0" : Str)))) _
              rw [e6, ← e8]
              exact q
end
end OT
namespace OT
open PySem PySem.Spec PyProof.Rows L2
open TL (tl)
/-- the first bad piece, from place i on -/
def fbL : Nat → List Str → Option Nat
  | _, [] => none
  | i, y :: r => if i = 3 ∨ decL (tl y) = false then some i else fbL (i + 1) r
theorem fbL_hit {i : Nat} {y : Str} {r : List Str} (h : i = 3 ∨ decL (tl y) = false) : fbL i (y :: r) = some i := if_pos h
theorem fbL_miss {i : Nat} {y : Str} {r : List Str} (h : ¬ (i = 3 ∨ decL (tl y) = false)) : fbL i (y :: r) = fbL (i + 1) r := if_neg h
theorem fbL_none : ∀ {ys : List Str} {i : Nat}, fbL i ys = none → ∀ y ∈ ys, decL (tl y) = true
  | [], _, _, y, hy => by cases hy
  | z :: r, i, h, y, hy => by
    by_cases hc : i = 3 ∨ decL (tl z) = false
    · rw [fbL_hit hc] at h
      cases h
    · rw [fbL_miss hc] at h
      rcases List.mem_cons.mp hy with e | hy
      · rw [e]
        cases q : decL (tl z) with
        | true => rfl
        | false => exact absurd (.inr q) hc
      · exact fbL_none h y hy
theorem fbL_len : ∀ {ys : List Str} {i : Nat}, fbL i ys = none → i ≤ 3 → ys.length + i ≤ 3
  | [], i, _, hi => by simpa using hi
  | z :: r, i, h, hi => by
    by_cases hc : i = 3 ∨ decL (tl z) = false
    · rw [fbL_hit hc] at h
      cases h
    · rw [fbL_miss hc] at h
      have h3 : i ≠ 3 := fun e => hc (.inl e)
      have q := fbL_len h (by omega)
      rw [List.length_cons]
      omega
/-- an int's text -/
abbrev strN (n : Int) : Str := Str.ofString (toString n)
theorem strN_len {n : Int} {k : Nat} (hk : 0 < k) (h : n.natAbs < 10 ^ k) : (strN n).length ≤ k + 1 := by
  rw [TL.len_tl, TL.tl_ofString, List.length_map]
  exact int_text_length_le10 hk h
theorem strN_log {n : Int} (h : n.natAbs < 10 ^ 40) : n.natAbs.log2 < 1920 := by
  have h2 : n.natAbs < 2 ^ 133 := Nat.lt_of_lt_of_le h (by decide)
  have := PySem.Flt.log2_lt_of (by decide) h2
  omega
theorem sum_le {l : List Str} {k : Nat} (h : ∀ y ∈ l, y.length ≤ k) : (l.map (·.length)).sum ≤ l.length * k := by
  induction l with
  | nil => exact Nat.zero_le _
  | cons y r ih =>
    have h1 := h y (List.mem_cons_self ..)
    have h2 := ih fun z hz => h z (List.mem_cons_of_mem _ hz)
    rw [List.map_cons, List.sum_cons, List.length_cons, Nat.succ_mul]
    omega
section
variable {P : Program} {w : World} {K : PySem.W.Frag} {mg : Str → Option Value} {base : Heap}
def optV : Option Nat → V
  | some i => .int i
  | none => .non
def spFB (K : PySem.W.Frag) : Sp := fun vs H Q _ => ∃ (a : Addr) (ys : List Str), vs = [.ref a] ∧ SqL K H a (ys.map V.str) ∧ (∀ y ∈ ys, y.length ≤ 1000) ∧ ∀ H', Same H H' → Q (optV (fbL 0 ys)) H'
theorem c_first_bad_piece {f : Addr} {fd : FuncData} (D : C8.Def K mg "first_bad_piece" s_first_bad_piece f fd) (b : Binds K fd ["pieces"] []) (T : Bi mg) (c_is_decimal : C8.Cal P w K mg base 1 "is_decimal" spDec []) : C8.Cal P w K mg base 2 "first_bad_piece" (spFB K) [] := by
  refine C8.cal0 D b .nil sc_first_bad_piece (fun vs H Q E h => ?_) (fun cdv A outer s H vs Q E hr h => ?_)
  · obtain ⟨a, ys, rfl, _⟩ := h
    rfl
  · obtain ⟨a, ys, rfl, hS, hl, q⟩ := h
    refine ⟨_, (pss_cons (ps_for PassesOwn.never rfl (pi_enum (by rfl) T.n_enumerate (pa_cons (pv 0) pa_nil)) (pg_tup rfl (pgs_cons (pg_name (i := 1) sc_first_bad_piece.nd rfl (Or.inl rfl)) (pgs_cons (pg_name (i := 2) sc_first_bad_piece.nd rfl (Or.inl rfl)) pgs_nil))) (pss_one (ps_if (PW.pt (pw_or (pt_cmpR op_eq (pv 1) pe_int (nomark _)) (pw_or1 (pt_not (pt_val (C8.pe_c c_is_decimal hr (by decide) (by rfl) (pa_cons (pv 2) pa_nil))))))) (pss_one (ps_ret (pv 1))) pss_nil)))
  (pss_one (ps_ret pe_non))), ?_⟩
    refine ⟨_, rfl, a, _, rfl, hS, ?_⟩
    refine for_it (walk_enum (xs := ys.map V.str)) (fun i σ H2 => ∃ y1 y2, σ = [some (.ref a), y1, y2] ∧ Same H H2 ∧ fbL i (ys.drop i) = fbL 0 ys) ?_ ?_ ?_ ?_
    · exact ⟨none, none, rfl, Same.refl _, rfl⟩
    · rintro i σ H2 _ ⟨_, _, _, sm, _⟩
      exact sm.seq hS
    · rintro i x σ H2 H3 hi ⟨y1, y2, rfl, sm, e⟩ ⟨t, x1, x2, rfl, nt, rfl, e1, e2⟩
      rw [List.length_map] at hi
      obtain ⟨_, rfl⟩ := getm (show (ys.map V.str)[i]? = some x2 from e2)
      cases e1
      have sm2 : Same H (upd H2 t (.tup [.int (i : Nat), .str ys[i]])) := sm.trans (same_upd nt)
      rw [drop_cons hi] at e
      refine ⟨t, _, rfl, .inl (.inl upd_same), rfl, _, _, rfl, _, _, rfl, rfl, ?_⟩
      refine ⟨_, rfl, rfl, _, rfl, iteD (fun h1 => iteT ?_) (fun h1 => ?_)⟩
      · have e3 : i = 3 := by
          have h2 : V.int ((i : Nat) : Int) = V.int 3 := h1
          have h3 := V.int.inj h2
          omega
        rw [fbL_hit (.inl e3)] at e
        have q2 := q _ sm2
        rw [← e] at q2
        exact ⟨_, rfl, q2⟩
      · have e3 : i ≠ 3 := fun h => h1 (by rw [h]; rfl)
        refine ⟨_, rfl, _, rfl, hl _ (List.getElem_mem hi), _, rfl, iteB (fun h2 => ?_) (fun h2 => ?_)⟩
        · rw [Bool.not_eq_true'] at h2
          rw [fbL_hit (.inr h2)] at e
          have q2 := q _ sm2
          rw [← e] at q2
          exact ⟨_, rfl, q2⟩
        · rw [Bool.not_eq_false'] at h2
          rw [fbL_miss (fun h => h.elim e3 fun h => by rw [h2] at h; cases h)] at e
          exact ⟨_, _, rfl, sm2, e⟩
    · rintro σ H2 ⟨y1, y2, rfl, sm, e⟩
      rw [List.length_map, List.drop_length] at e
      have q2 := q _ sm
      rw [← e] at q2
      exact q2
def spWP (K : PySem.W.Frag) : Sp := fun vs H Q _ => ∃ (a : Addr) (ns : List Int), vs = [.ref a] ∧ SqT K H a (ns.map V.int) ∧ ns.length ≤ 10 ∧ (∀ n ∈ ns, n.natAbs < 10 ^ 40) ∧ ∀ H', Same H H' → Q (.str (Txt.join "," (ns.map strN))) H'
theorem c_write_place {f : Addr} {fd : FuncData} (D : C8.Def K mg "write_place" s_write_place f fd) (b : Binds K fd ["place"] []) (T : Bi mg) : C8.Cal P w K mg base 1 "write_place" (spWP K) [] := by
  refine C8.cal0 D b .nil sc_write_place (fun vs H Q E h => ?_) (fun cdv A outer s H vs Q E hr h => ?_)
  · obtain ⟨a, ys, rfl, _⟩ := h
    rfl
  · obtain ⟨a, ns, rfl, hS, hl, hb, q⟩ := h
    refine ⟨_, (pss_one (ps_ret (pe_join pe_str (pe_lc (own := [("x", 1)]) (g := (gName 1)) (tt := tYes) rfl sc_write_place.nd (pi_tup (pv 0)) (blkOk_by (N := ["place", "x"]) (sc := C8.fnScope s_write_place) (by decide +kernel)) (fun _ _ _ _ _ => (pg_name (i := 1) sc_write_place.nd rfl (Or.inl rfl))) (fun _ _ _ _ _ => pts_nil) (fun _ _ _ _ _ => (pe_callTy call_str_int (by rfl) T.n_str OT.b_str (pa_cons (pv 1) pa_nil))))))), ?_⟩
    refine ⟨⟨_, rfl⟩, _, rfl, a, rfl, ⟨_, hS⟩, fun p np => ?_⟩
    refine lc_tup (K := K) (xs := ns.map V.int) (fun i H2 => Same H H2 ∧ H2 p = some (.lst ((ns.take i).map fun n => V.str (strN n)))) ?_ ?_ ?_ ?_
    · exact ⟨same_upd np, upd_same⟩
    · rintro i H2 _ ⟨sm, _⟩
      exact same_t sm hS
    · rintro i x H2 hx ⟨sm, hp⟩
      obtain ⟨hi, rfl⟩ := getm hx
      have hm := List.getElem_mem hi
      refine ⟨rfl, tYes_of ?_⟩
      refine ⟨_, rfl, _, rfl, strN_log (hb _ hm), _, hp, ?_, same_mut sm np, ?_⟩
      · rw [List.length_map, List.length_take]
        exact small1000 (by omega)
      · rw [upd_same, take_map_succ (fun n => V.str (strN n)) hi]
    · rintro H2 ⟨sm, hp⟩
      rw [List.length_map, List.take_length] at hp
      refine ⟨_, p, ns.map strN, rfl, rfl, .inl (.inl (.inl ?_)), ?_, q _ sm⟩
      · rw [hp, List.map_map]
        rfl
      · have h1 : ((ns.map strN).map (·.length)).sum ≤ (ns.map strN).length * 41 := sum_le fun y hy => by
          obtain ⟨n, hn, rfl⟩ := List.mem_map.mp hy
          exact strN_len (by decide) (hb n hn)
        rw [List.length_map] at h1 ⊢
        have h2 : ("," : Str).length = 1 := by decide +kernel
        rw [h2]
        omega
end
end OT
namespace OT
open PySem PySem.Spec PyProof.Rows L2
open TL (tl)
section
variable {P : Program} {w : World} {K : PySem.W.Frag} {mg : Str → Option Value} {base : Heap}
theorem digit_mem {c : Nat} : c ∈ ("0123456789" : Str).cps.toList ↔ 48 ≤ c ∧ c ≤ 57 := by
  have e : ("0123456789" : Str).cps.toList = [48, 49, 50, 51, 52, 53, 54, 55, 56, 57] := by decide +kernel
  rw [e]
  simp only [List.mem_cons, List.not_mem_nil, or_false]
  omega
def spDec2 : Sp := fun vs H Q _ => ∃ z : Str, vs = [.str z] ∧ z.length ≤ 1000 ∧ Q (.bl (decL (tl z))) H
theorem c__law_decimal {f : Addr} {fd : FuncData} (D : C8.Def K mg "_law_decimal" s__law_decimal f fd) (b : Binds K fd ["_law_piece"] []) (T : Bi mg) : C8.Cal P w K mg base 1 "_law_decimal" spDec2 [] := by
  refine C8.cal0 D b .nil sc__law_decimal (fun vs H Q E h => ?_) (fun cdv A outer s H vs Q E hr h => ?_)
  · obtain ⟨a, rfl, _⟩ := h
    rfl
  · obtain ⟨z, rfl, hz, q⟩ := h
    refine ⟨_, (pss_cons (ps_set (i := 1) sc__law_decimal.nd rfl (Or.inl rfl) (pv 0))
  (C8.pss_cut (ps_if (pt_cmpR op_eq (pe_slice sl_str (pv 0) po_none (po_some pe_int)) pe_str (nomark _)) (pss_one (ps_set (i := 1) sc__law_decimal.nd rfl (Or.inl rfl) (pe_slice sl_str (pv 0) (po_some pe_int) po_none))) pss_nil)
  (pss_cons (ps_if (pt_cmpR op_eq (pv 1) pe_str (nomark _)) (pss_one (ps_ret pe_bl)) pss_nil)
  (pss_cons (ps_for PassesOwn.never rfl (pi_str (pv 1)) (pg_name (i := 2) sc__law_decimal.nd rfl (Or.inl rfl)) (pss_one (ps_if (pt_cmpR op_notIn_sign (pv 2) pe_str rfl) (pss_one (ps_ret pe_bl)) pss_nil)))
  (pss_one (ps_ret (pe_or (pe_cmpR op_ne (pe_ix ix_str (pv 1) pe_int (fun _ _ => rfl)) pe_str (nomark _)) (pe_one (pe_cmpR op_eq (pv 0) pe_str (nomark _)))))))))), ?_⟩
    have hz2 : z.length ≤ sizeLine := Nat.le_of_lt (small1000 hz)
    have c1 : tl (cutS z none (some 1)) = (tl z).take 1 := by
      show ((tl z).drop (HT.sIx z.length 0 none)).take (HT.sIx z.length z.length (some ((1 : Nat) : Int)) - HT.sIx z.length 0 none) = _
      rw [HT.sIx_none, HT.sIx_nat, List.drop_zero, Nat.sub_zero, TL.len_tl]
      cases tl z with
      | nil => rfl
      | cons c r =>
        rw [List.length_cons, Nat.min_eq_left (by omega)]
    have c2 : tl (cutS z (some 1) none) = (tl z).drop 1 := by
      show ((tl z).drop (HT.sIx z.length 0 (some ((1 : Nat) : Int)))).take (HT.sIx z.length z.length none - HT.sIx z.length 0 (some ((1 : Nat) : Int))) = _
      rw [HT.sIx_none, HT.sIx_nat, TL.len_tl]
      cases tl z with
      | nil => rfl
      | cons c r =>
        rw [List.length_cons, Nat.min_eq_left (by omega)]
        exact List.take_of_length_le (by rw [List.length_drop, List.length_cons]; exact Nat.le_refl _)
    refine ⟨_, rfl, fun σ H2 => ∃ d : Str, σ = [some (.str z), some (.str d), none] ∧ H2 = H ∧ tl d = bodyL (tl z), ?_, ?_⟩
    · refine ⟨_, rfl, 1, rfl, z, rfl, hz2, rfl, _, rfl, iteD (fun h => ?_) (fun h => ?_)⟩
      · have h2 := c1.symm.trans ((tl_inj.mp (V.str.inj h)).trans tl_minus)
        refine ⟨_, rfl, 1, rfl, z, rfl, hz2, _, rfl, rfl, ?_⟩
        rw [c2]
        cases e : tl z with
        | nil =>
          rw [e] at h2
          cases h2
        | cons c r =>
          rw [e] at h2
          have e2 : c = 45 := (List.cons.inj h2).1
          subst e2
          rw [bodyL_45]
          rfl
      · refine ⟨z, rfl, rfl, ?_⟩
        cases e : tl z with
        | nil => rfl
        | cons c r =>
          refine (bodyL_ne r fun e2 => h ?_).symm
          have h3 : cutS z none (some 1) = ("-" : Str) := tl_inj.mpr (by rw [c1, e, e2, tl_minus]; rfl)
          rw [h3]
    · rintro σ H2 ⟨d, rfl, rfl, ed⟩
      have hd : d.length ≤ z.length := by
        rw [TL.len_tl, ed, TL.len_tl, ← tl_rm, ← TL.len_tl, ← TL.len_tl]
        exact rm_len z
      refine ⟨_, rfl, rfl, _, rfl, iteD (fun h => ?_) (fun h => ?_)⟩
      · have h2 := (tl_inj.mp (V.str.inj h)).trans tl_empty
        have e0 : decL (tl z) = false := by
          unfold decL
          rw [← ed, h2]
          rfl
        rw [e0] at q
        exact q
      · have hne : tl d ≠ [] := fun e => h (by rw [tl_inj.mpr (e.trans tl_empty.symm)])
        refine ⟨_, rfl, d, rfl, ?_⟩
        refine for_it (walk_str (z := d)) (fun i σ H3 => ∃ y, σ = [some (.str z), some (.str d), y] ∧ H3 = H2 ∧ ∀ j c, j < i → d.cps[j]? = some c → 48 ≤ c ∧ c ≤ 57) ?_ (fun _ _ _ _ _ => True.intro) ?_ ?_
        · exact ⟨none, rfl, rfl, fun j c hj => absurd hj (Nat.not_lt_zero _)⟩
        · rintro i x σ H3 H4 hi ⟨y, rfl, rfl, hall⟩ ⟨rfl, c, hc, rfl⟩
          refine ⟨_, rfl, c, "0123456789", rfl, rfl, _, rfl, iteND (fun h2 => ?_) (fun h2 => ?_)⟩
          · have e0 : decL (tl z) = false := by
              have e1 : digsL (tl d) = false := by
                cases e2 : digsL (tl d) with
                | false => rfl
                | true =>
                  have hm : c ∈ tl d := Array.mem_toList_iff.mpr (Array.mem_of_getElem? hc)
                  exact absurd (digit_mem.mpr (of_decide_eq_true (List.all_eq_true.mp e2 c hm))) h2
              unfold decL
              rw [← ed, e1, Bool.false_and, Bool.and_false]
            rw [e0] at q
            exact q
          · refine ⟨_, rfl, rfl, fun j c' hj hc' => ?_⟩
            by_cases hji : j < i
            · exact hall j c' hji hc'
            · have e : j = i := by omega
              rw [e, hc] at hc'
              rw [← Option.some.inj hc']
              exact digit_mem.mp h2
        · rintro σ H3 ⟨y, rfl, rfl, hall⟩
          have e1 : digsL (tl d) = true := List.all_eq_true.mpr fun c hm => by
            obtain ⟨j, hj⟩ := List.getElem?_of_mem hm
            rw [Array.getElem?_toList] at hj
            exact decide_eq_true (hall j c (Array.getElem?_eq_some_iff.mp hj).1 hj)
          have e2 : decL (tl z) = (decide ((tl d).head? ≠ some 48) || decide (tl z = [48])) := by
            unfold decL
            rw [← ed, e1, Bool.true_and]
            cases e3 : tl d with
            | nil => exact absurd e3 hne
            | cons c r => rfl
          rw [e2] at q
          cases e5 : tl d with
          | nil => exact absurd e5 hne
          | cons c r =>
            refine ⟨_, rfl, d, 0, c, rfl, rfl, Nat.le_trans hd hz2, ?_, rfl, _, rfl, iteND (fun h3 => ?_) (fun h3 => ?_)⟩
            · show atI (tl d) ((0 : Nat) : Int) = some c
              rw [e5]
              exact atI_nat rfl
            · rw [e5] at q
              have e6 : decide ((c :: r).head? ≠ some 48) = true := decide_eq_true fun h => h3 (by
                have h7 : c = 48 := Option.some.inj h
                rw [h7]
                rfl)
              rw [e6, Bool.true_or] at q
              exact q
            · rw [e5] at q
              have h7 := (tl_inj.mp (V.str.inj h3)).trans tl_zero
              have h8 : c = 48 := (List.cons.inj h7).1
              have e6 : decide ((c :: r).head? ≠ some 48) = false := decide_eq_false fun h => h (by rw [h8]; rfl)
              rw [e6, Bool.false_or] at q
              refine ⟨_, rfl, rfl, ?_⟩
              have e9 : decide (V.str z = V.str ("0" : Str)) = decide (tl z = [48]) := by
                rw [Bool.eq_iff_iff, decide_eq_true_iff, decide_eq_true_iff]
                exact ⟨fun h => (tl_inj.mp (V.str.inj h)).trans tl_zero, fun h => by rw [tl_inj.mpr (h.trans tl_zero.symm)]⟩
              show Q (.bl (decide (V.str z = V.str ("0" : Str)))) _
              rw [e9]
              exact q
end
end OT
namespace OT
open PySem PySem.Spec PyProof.Rows L2
open TL (tl)
def numOf (z : Str) : Int := (PySem.intText? z).getD 0
theorem dec_num {z : Str} (h : decL (tl z) = true) (hl : z.length ≤ 4300) : PySem.intText? z = some (numOf z) := by
  have key : ∃ n, PySem.intText? z = some n := by
    unfold decL at h
    simp only [Bool.and_eq_true, Bool.not_eq_true', List.isEmpty_eq_false_iff] at h
    obtain ⟨h1, h2, _⟩ := h
    have hd : NumText.AllDigits (bodyL (tl z)) := fun c hc => of_decide_eq_true (List.all_eq_true.mp h2 c hc)
    cases e : tl z with
    | nil =>
      rw [e] at h1
      exact absurd rfl h1
    | cons c r =>
      rw [e] at hd h1
      by_cases hc : c = 45
      · subst hc
        rw [bodyL_45] at hd h1
        exact ⟨_, intText_neg e hd h1 hl⟩
      · rw [bodyL_ne r hc] at hd h1
        have hd2 : NumText.AllDigits z.cps.toList := by
          show NumText.AllDigits (tl z)
          rw [e]
          exact hd
        exact ⟨_, intText_digits hd2 (by show tl z ≠ []; rw [e]; exact h1) hl⟩
  obtain ⟨n, hn⟩ := key
  unfold numOf
  rw [hn]
  rfl
theorem spl_len (S : List Nat) : ∀ (l : List Nat) (k : Nat) (acc : List Nat), (∀ p ∈ TL.spl S k acc l, p.length ≤ acc.length + l.length) ∧ (TL.spl S k acc l).length ≤ l.length + 1
  | [], k, acc => by
    rw [TL.spl_nil]
    exact ⟨fun p hp => by rw [List.mem_singleton.mp hp]; exact Nat.le_add_right _ _, Nat.le_refl _⟩
  | c :: r, 0, acc => by
    cases h : TL.pre S (c :: r) with
    | true =>
      rw [TL.spl_hit h]
      obtain ⟨h1, h2⟩ := spl_len S r (S.length - 1) []
      refine ⟨fun p hp => ?_, ?_⟩
      · rcases List.mem_cons.mp hp with e | hp
        · rw [e]
          exact Nat.le_add_right _ _
        · have := h1 p hp
          rw [List.length_nil] at this
          rw [List.length_cons]
          omega
      · rw [List.length_cons, List.length_cons]
        omega
    | false =>
      rw [TL.spl_miss h]
      obtain ⟨h1, h2⟩ := spl_len S r 0 (acc ++ [c])
      refine ⟨fun p hp => ?_, ?_⟩
      · have := h1 p hp
        rw [List.length_append, List.length_singleton] at this
        rw [List.length_cons]
        omega
      · rw [List.length_cons]
        omega
  | c :: r, k + 1, acc => by
    show (∀ p ∈ TL.spl S k acc r, _) ∧ (TL.spl S k acc r).length ≤ _
    obtain ⟨h1, h2⟩ := spl_len S r k acc
    refine ⟨fun p hp => ?_, ?_⟩
    · have := h1 p hp
      rw [List.length_cons]
      omega
    · rw [List.length_cons]
      omega
theorem split_len {z y : Str} (hy : tl y ≠ []) (hk : y.cps.all (· < 256) = true) : (∀ p ∈ Txt.split z y, p.length ≤ z.length) ∧ (Txt.split z y).length ≤ z.length + 1 := by
  obtain ⟨h1, h2⟩ := spl_len (tl y) (tl z) 0 []
  rw [← TL.split_spl z y hy (TL.kind_ok hk)] at h1 h2
  rw [List.length_map] at h2
  rw [TL.len_tl z]
  refine ⟨fun p hp => ?_, h2⟩
  have := h1 (tl p) (List.mem_map_of_mem hp)
  rw [List.length_nil] at this
  rw [TL.len_tl]
  omega
theorem comma_ne : tl ("," : Str) ≠ [] := by decide +kernel
theorem comma_k : ("," : Str).cps.all (· < 256) = true := by decide +kernel
theorem comma_z : (("," : Str).length == 0) = false := by decide +kernel
def pieces (z : Str) : List Str := Txt.split z ","
end OT

set_option Elab.async false
set_option linter.all false
set_option maxRecDepth 100000
set_option maxHeartbeats 2000000
namespace OT
open PySem PySem.Spec PyProof.Rows L2
open TL (tl)
theorem foldl_pos : ∀ (cs : List Nat) (a : Nat), 0 < a → 0 < cs.foldl (fun acc c => acc * 10 + (c - 48)) a
  | [], a, h => h
  | c :: r, a, h => foldl_pos r (a * 10 + (c - 48)) (by omega)
theorem digits_pos {c : Nat} {r : List Nat} (h : 49 ≤ c) : 0 < NumText.digitsVal (c :: r) := by
  show 0 < (c :: r).foldl (fun acc c => acc * 10 + (c - 48)) 0
  exact foldl_pos r (0 * 10 + (c - 48)) (by omega)
/-- a written number that is not "0" is not 0 -/
theorem num_ne {z : Str} (h : decL (tl z) = true) (hz : z ≠ ("0" : Str)) (hl : z.length ≤ 4300) : numOf z ≠ 0 := by
  have h0 : tl z ≠ [48] := fun e => hz (tl_inj.mpr (e.trans tl_zero.symm))
  unfold decL at h
  simp only [Bool.and_eq_true, Bool.or_eq_true, Bool.not_eq_true', List.isEmpty_eq_false_iff, decide_eq_true_eq] at h
  obtain ⟨h1, h2, h3⟩ := h
  have hh : (bodyL (tl z)).head? ≠ some 48 := h3.elim id fun e => absurd e h0
  have hd : NumText.AllDigits (bodyL (tl z)) := fun c hc => of_decide_eq_true (List.all_eq_true.mp h2 c hc)
  have key : ∀ l : List Nat, l ≠ [] → NumText.AllDigits l → l.head? ≠ some 48 → 0 < NumText.digitsVal l := by
    intro l
    cases l with
    | nil => exact fun e => absurd rfl e
    | cons c r =>
      intro _ hc hn
      have hc1 := hc.head
      have hc2 : c ≠ 48 := fun e => hn (by rw [e]; rfl)
      exact digits_pos (by omega)
  have hv := key _ h1 hd hh
  unfold numOf
  cases e : tl z with
  | nil =>
    rw [e] at h1
    exact absurd rfl h1
  | cons c r =>
    rw [e] at hd h1 hv
    by_cases hc : c = 45
    · subst hc
      rw [bodyL_45] at hd h1 hv
      rw [intText_neg e hd h1 hl]
      show -((NumText.digitsVal r : Nat) : Int) ≠ 0
      omega
    · rw [bodyL_ne r hc] at hd h1 hv
      have hd2 : NumText.AllDigits z.cps.toList := by
        show NumText.AllDigits (tl z)
        rw [e]
        exact hd
      have e2 : z.cps.toList = c :: r := e
      rw [intText_digits hd2 (by rw [e2]; exact h1) hl, e2]
      show ((NumText.digitsVal (c :: r) : Nat) : Int) ≠ 0
      omega
def atS : Str := "@"
theorem at_ne : tl ("@" : Str) ≠ [] := by decide +kernel
theorem at_k : ("@" : Str).cps.all (· < 256) = true := by decide +kernel
theorem at_z : (("@" : Str).length == 0) = false := by decide +kernel
theorem sp_ne : tl (" " : Str) ≠ [] := by decide +kernel
theorem sp_k : (" " : Str).cps.all (· < 256) = true := by decide +kernel
theorem sp_z : ((" " : Str).length == 0) = false := by decide +kernel
def parts (z : Str) : List Str := Txt.split z "@"
def entP : List Str → Option Ent
  | [x, y] => if decL (tl x) = true ∧ x ≠ ("0" : Str) ∧ fbL 0 (pieces y) = none then some ((pieces y).map numOf, numOf x) else none
  | _ => none
/-- the entry that a word is -/
def entL (z : Str) : Option Ent := entP (parts z)
theorem entP_len {l : List Str} (h : l.length ≠ 2) : entP l = none := by
  match l, h with
  | [], _ => rfl
  | [_], _ => rfl
  | [_, _], h => exact absurd rfl h
  | _ :: _ :: _ :: _, _ => rfl
theorem entP_two {x y : Str} : entP [x, y] = if decL (tl x) = true ∧ x ≠ ("0" : Str) ∧ fbL 0 (pieces y) = none then some ((pieces y).map numOf, numOf x) else none := rfl
theorem parts_len (z : Str) : (∀ p ∈ parts z, p.length ≤ z.length) ∧ (parts z).length ≤ z.length + 1 := split_len at_ne at_k
theorem pieces_len (z : Str) : (∀ p ∈ pieces z, p.length ≤ z.length) ∧ (pieces z).length ≤ z.length + 1 := split_len comma_ne comma_k
section
variable {P : Program} {w : World} {K : PySem.W.Frag} {mg : Str → Option Value} {base : Heap}
def OptE (H : Hp) (v : V) : Option Ent → Prop
  | none => v = .non
  | some e => EntAt H v e
def spEnt : Sp := fun vs H Q _ => ∃ z : Str, vs = [.str z] ∧ z.length ≤ 600 ∧ ∀ v H', Same H H' → OptE H' v (entL z) → Q v H'
theorem c_entry_of {f : Addr} {fd : FuncData} (D : C8.Def K mg "entry_of" s_entry_of f fd) (b : Binds K fd ["word"] []) (T : Bi mg) (c_is_decimal : C8.Cal P w K mg base 1 "is_decimal" spDec []) (c_first_bad_piece : C8.Cal P w K mg base 2 "first_bad_piece" (spFB K) []) : C8.Cal P w K mg base 3 "entry_of" spEnt [] := by
  refine C8.cal0 D b .nil sc_entry_of (fun vs H Q E h => ?_) (fun cdv A outer s H vs Q E hr h => ?_)
  · obtain ⟨z, rfl, _⟩ := h
    rfl
  · obtain ⟨z, rfl, hz, q⟩ := h
    refine ⟨_, (pss_cons (ps_set (i := 1) sc_entry_of.nd rfl (Or.inl rfl) (pe_split (pv 0) pe_str))
  (pss_cons (ps_if (PW.pt (pw_or (pt_cmpR op_ne (pe_callB call_len_seq (by rfl) T.n_len OT.b_len (pa_cons (pv 1) pa_nil)) pe_int (nomark _)) (pw_or (pt_not (pt_val (C8.pe_c c_is_decimal hr (by decide) (by rfl) (pa_cons (pe_ix ix_list (pv 1) pe_int (fun _ _ => rfl)) pa_nil)))) (pw_or1 (pt_cmpR op_eq (pe_ix ix_list (pv 1) pe_int (fun _ _ => rfl)) pe_str (nomark _)))))) (pss_one (ps_ret pe_non)) pss_nil)
  (pss_cons (ps_set (i := 2) sc_entry_of.nd rfl (Or.inl rfl) (pe_split (pe_ix ix_list (pv 1) pe_int (fun _ _ => rfl)) pe_str))
  (pss_cons (ps_if (pt_cmpR op_notN (C8.pe_c c_first_bad_piece hr (by decide) (by rfl) (pa_cons (pv 2) pa_nil)) pe_non (nomark _)) (pss_one (ps_ret pe_non)) pss_nil)
  (pss_one (ps_ret (pe_tup (pa_cons (pe_callTy call_tuple_of (by rfl) T.n_tuple OT.b_tuple (pa_cons (pe_lc (own := [("piece", 3)]) (g := (gName 3)) (tt := tYes) rfl sc_entry_of.nd (pi_list (pv 2)) (blkOk_by (N := ["word", "parts", "pieces", "piece"]) (sc := C8.fnScope s_entry_of) (by decide +kernel)) (fun _ _ _ _ _ => (pg_name (i := 3) sc_entry_of.nd rfl (Or.inl rfl))) (fun _ _ _ _ _ => pts_nil) (fun _ _ _ _ _ => (pe_callTy call_int_str (by rfl) T.n_int OT.b_int (pa_cons (pv 3) pa_nil)))) pa_nil)) (pa_cons (pe_callTy call_int_str (by rfl) T.n_int OT.b_int (pa_cons (pe_ix ix_list (pv 1) pe_int (fun _ _ => rfl)) pa_nil)) pa_nil))))))))), ?_⟩
    have hpl : (∀ p ∈ Txt.split z ("@" : Str), p.length ≤ z.length) ∧ (Txt.split z ("@" : Str)).length ≤ z.length + 1 := parts_len z
    have q : ∀ v H', Same H H' → OptE H' v (entP (Txt.split z ("@" : Str))) → Q v H' := q
    refine ⟨_, rfl, ⟨_, rfl⟩, z, "@", rfl, rfl, at_z, Nat.le_of_lt (small1000 (by omega)), fun p np => ?_⟩
    generalize Txt.split z ("@" : Str) = l at q hpl ⊢
    have s1 : Same H (upd H p (.lst (l.map V.str))) := same_upd np
    have hp : (upd H p (.lst (l.map V.str))) p = some (.lst (l.map V.str)) := upd_same
    generalize upd H p (.lst (l.map V.str)) = H1 at s1 hp ⊢
    have hS : SqL K H1 p (l.map V.str) := .inl (.inl hp)
    by_cases h2 : l.length = 2
    case neg =>
      rw [entP_len h2] at q
      refine ⟨_, rfl, p, _, rfl, .inl hS, rfl, _, rfl, iteND (fun _ => iteT ?_) (fun h => absurd (V.int.inj h) ?_)⟩
      · exact q .non _ s1 rfl
      · rw [List.length_map]
        omega
    obtain ⟨x, y, rfl⟩ : ∃ x y, l = [x, y] := by
      match l, h2 with
      | [x, y], _ => exact ⟨x, y, rfl⟩
    have hx := hpl.1 x List.mem_cons_self
    have hy := hpl.1 y (List.mem_cons_of_mem _ List.mem_cons_self)
    refine ⟨_, rfl, p, _, rfl, .inl hS, rfl, _, rfl, iteND (fun h => absurd rfl h) (fun _ => ?_)⟩
    rw [entP_two] at q
    refine ⟨_, rfl, p, _, 0, _, rfl, rfl, hS, atI_nat (j := 0) rfl, x, rfl, by omega, _, rfl, iteB (fun hd => iteT ?_) (fun hd => ?_)⟩
    · rw [if_neg (fun h => by rw [h.1] at hd; cases hd)] at q
      exact q .non _ s1 rfl
    · rw [Bool.not_eq_false'] at hd
      refine ⟨_, rfl, p, _, 0, _, rfl, rfl, hS, atI_nat (j := 0) rfl, rfl, _, rfl, iteD (fun h0 => ?_) (fun h0 => ?_)⟩
      · rw [if_neg (fun h => h.2.1 (V.str.inj h0))] at q
        exact q .non _ s1 rfl
      · have h0' : x ≠ ("0" : Str) := fun e => h0 (by rw [e])
        have hyl := pieces_len y
        have hpy : ∀ u ∈ pieces y, u.length ≤ 600 := fun u hu => Nat.le_trans (hyl.1 u hu) (by omega)
        refine ⟨_, rfl, p, _, 1, _, rfl, rfl, hS, atI_nat (j := 1) rfl, ⟨_, rfl⟩, y, ",", rfl, rfl, comma_z, Nat.le_of_lt (small1000 (by omega)), fun p2 np2 => ?_⟩
        have s2 : Same H1 (upd H1 p2 (.lst ((pieces y).map V.str))) := same_upd np2
        refine ⟨_, rfl, p2, pieces y, rfl, .inl (.inl upd_same), fun u hu => Nat.le_trans (hpy u hu) (by decide), fun H3 sm3 => ?_⟩
        have hp3 := sm3 _ _ (upd_same : (upd H1 p2 (.lst ((pieces y).map V.str))) p2 = _)
        have sA := s2.trans sm3
        have sB := s1.trans sA
        cases e : fbL 0 (pieces y) with
        | some i =>
          rw [if_neg (fun h => by rw [e] at h; cases h.2.2)] at q
          refine ⟨rfl, _, rfl, iteT ?_⟩
          exact q .non _ sB rfl
        | none =>
          rw [if_pos ⟨hd, h0', e⟩] at q
          refine ⟨rfl, _, rfl, iteF ?_⟩
          have hdec := fbL_none e
          have hS3 := sA.seq hS
          refine ⟨_, rfl, p2, rfl, ⟨_, .inl (.inl hp3)⟩, fun p4 np4 => ?_⟩
          refine lc_list (K := K) (xs := (pieces y).map V.str) (fun i H4 => Same H3 H4 ∧ H4 p4 = some (.lst (((pieces y).take i).map fun u => V.int (numOf u)))) ?_ ?_ ?_ ?_
          · exact ⟨same_upd np4, upd_same⟩
          · rintro i H4 _ ⟨sm4, _⟩
            exact sm4.seq (.inl (.inl hp3))
          · rintro i u H4 hu ⟨sm4, hp4⟩
            obtain ⟨hi, rfl⟩ := getm hu
            have hm := List.getElem_mem hi
            refine ⟨rfl, tYes_of ?_⟩
            refine ⟨_, rfl, _, _, rfl, dec_num (hdec _ hm) (Nat.le_trans (hpy _ hm) (by decide)), Nat.le_trans (hpy _ hm) (by decide), _, hp4, ?_, same_mut sm4 np4, ?_⟩
            · rw [List.length_map, List.length_take]
              exact small1000 (by omega)
            · rw [upd_same, take_map_succ (fun u => V.int (numOf u)) hi]
          · rintro H4 ⟨sm4, hp4⟩
            rw [List.length_map, List.take_length] at hp4
            refine ⟨p4, _, rfl, .inl ⟨.inl (.inl hp4), fun t1 nt1 => ?_⟩⟩
            have sm5 : Same H4 (upd H4 t1 (.tup ((pieces y).map fun u => V.int (numOf u)))) := same_upd nt1
            have hS5 := (sm4.trans sm5).seq hS3
            refine ⟨_, rfl, p, _, 0, _, rfl, rfl, hS5, atI_nat (j := 0) rfl, _, _, rfl, dec_num hd (by omega), by omega, (by show 2 ≤ sizeLine; decide), fun t2 nt2 => ?_⟩
            have sm6 : Same (upd H4 t1 (.tup ((pieces y).map fun u => V.int (numOf u)))) (upd (upd H4 t1 (.tup ((pieces y).map fun u => V.int (numOf u)))) t2 (.tup [.ref t1, .int (numOf x)])) := same_upd nt2
            refine q (.ref t2) _ (sB.trans ((sm4.trans sm5).trans sm6)) ⟨t2, t1, rfl, upd_same, sm6 _ _ ?_⟩
            rw [upd_same, List.map_map]
            rfl
theorem fbL_iff (ys : List Str) : fbL 0 ys = none ↔ ys.length ≤ 3 ∧ ∀ y ∈ ys, decL (tl y) = true := by
  constructor
  · intro h
    have h1 := fbL_len h (by decide)
    exact ⟨by omega, fbL_none h⟩
  · rintro ⟨h1, h2⟩
    have key : ∀ (l : List Str) (i : Nat), i + l.length ≤ 3 → (∀ y ∈ l, decL (tl y) = true) → fbL i l = none := by
      intro l
      induction l with
      | nil => exact fun _ _ _ => rfl
      | cons y r ih =>
        intro i hi hy
        rw [List.length_cons] at hi
        rw [fbL_miss (fun h => h.elim (fun e => by omega) fun e => by rw [hy y List.mem_cons_self] at e; cases e)]
        exact ih (i + 1) (by omega) fun u hu => hy u (List.mem_cons_of_mem _ hu)
    exact key ys 0 (by omega) h2
end
end OT

set_option Elab.async false
set_option linter.all false
set_option maxRecDepth 100000
set_option maxHeartbeats 2000000
namespace OT
open PySem PySem.Spec PyProof.Rows L2
open TL (tl)
/-! ### t > u, tuples of ints -/
theorem listLt_lex : ∀ a b : Pl, PySem.W.listLt a b = HT.lexLt a b
  | [], [] => rfl
  | [], _ :: _ => rfl
  | _ :: _, [] => rfl
  | x :: r, y :: t => by
    show (if x = y then PySem.W.listLt r t else decide (x < y)) = if x = y then HT.lexLt r t else decide (x < y)
    rw [listLt_lex r t]
def rGtT (K : PySem.W.Frag) : R2 := fun x y H Q => ∃ (a b : Addr) (k l : Pl), x = .ref a ∧ y = .ref b ∧ SqT K H a (k.map V.int) ∧ SqT K H b (l.map V.int) ∧ Q (.bl (HT.lexLt l k)) H
theorem op_gtT {X : Cx} (room : X.A.units + 64 < cLine) : OpR X (compareOp .Gt) (rGtT X.K) := by
  rintro pins s σ H x y v u Q I rx ry ⟨a, b, k, l, rfl, rfl, ha, hb, q⟩
  have first : PySem.W.Holds s.heap v (⟨k⟩ : PySem.W.Tup Int) := Dp.reads I (.tuple (k.map .int)) _ _ (.tup ha (dp_ints k)) rx
  have second : PySem.W.Holds s.heap u (⟨l⟩ : PySem.W.Tup Int) := Dp.reads I (.tuple (l.map .int)) _ _ (.tup hb (dp_ints l)) ry
  refine PySem.W.gt_datum first second ?_ ⟨.bl (HT.lexLt l k), H, I, ?_, q⟩
  · exact Nat.lt_of_le_of_lt (Nat.add_le_add_left (by decide) _) room
  · show Value.bool (PySem.W.listLt l k) = _
    rw [listLt_lex]
theorem atI_neg1 {xs : List V} {v : V} (h : 0 < xs.length) (hv : xs[xs.length - 1]? = some v) : atI xs (-1) = some v := by
  have e : ixN xs.length (-1) = some (xs.length - 1) := by
    unfold ixN
    rw [if_neg (by omega), if_pos (by omega)]
    exact congrArg some (by omega)
  unfold atI
  rw [e]
  exact hv
/-- e may stand behind acc -/
def folB (acc : List Ent) (e : Ent) : Bool :=
  match acc.getLast? with
  | none => true
  | some l => decide (e.1.length = l.1.length) && HT.lexLt l.1 e.1
section
variable {P : Program} {w : World} {K : PySem.W.Frag} {mg : Str → Option Value} {base : Heap}
def spFol (K : PySem.W.Frag) : Sp := fun vs H Q _ => ∃ (v : V) (p : Addr) (xs : List V) (acc : List Ent) (e : Ent), vs = [v, .ref p] ∧ EntAt H v e ∧ H p = some (.lst xs) ∧ Ents H xs acc ∧ Q (.bl (folB acc e)) H
theorem c_follows {f : Addr} {fd : FuncData} (D : C8.Def K mg "follows" s_follows f fd) (b : Binds K fd ["entry", "row"] []) (T : Bi mg) : C8.Cal P w K mg base 1 "follows" (spFol K) [] := by
  refine C8.cal0 D b .nil sc_follows (fun vs H Q E h => ?_) (fun cdv A outer s H vs Q E hr h => ?_)
  · obtain ⟨v, p, xs, acc, e, rfl, _⟩ := h
    rfl
  · obtain ⟨v, p, xs, acc, e, rfl, ⟨t, q1, rfl, ht, hq⟩, hp, hE, q⟩ := h
    refine ⟨_, (pss_cons (ps_if (pt_not (pt_truth (pv 1) (by intro _; rfl))) (pss_one (ps_ret pe_bl)) pss_nil)
  (pss_cons (ps_set (i := 2) sc_follows.nd rfl (Or.inl rfl) (pe_ix ix_tup (pv 0) pe_int (fun _ _ => rfl)))
  (pss_cons (ps_set (i := 3) sc_follows.nd rfl (Or.inl rfl) (pe_ix ix_tup (pe_ix ix_list (pv 1) (pe_un un_neg pe_int) (fun _ _ => rfl)) pe_int (fun _ _ => rfl)))
  (pss_one (ps_ret (pe_and (pe_cmpR op_eq (pe_callB call_len_seq (by rfl) T.n_len OT.b_len (pa_cons (pv 2) pa_nil)) (pe_callB call_len_seq (by rfl) T.n_len OT.b_len (pa_cons (pv 3) pa_nil)) (nomark _)) (pe_one (pe_cmpR (op_gtT hr.units) (pv 2) (pv 3) (nomark _))))))))), ?_⟩
    have hS : SqL K H p xs := .inl (.inl hp)
    have hlen := hE.len
    have last_of : ∀ {l : Ent}, acc.getLast? = some l → ∃ v, xs[xs.length - 1]? = some v ∧ EntAt H v l ∧ 0 < xs.length := fun {l} hl => by
      have hne : acc ≠ [] := fun e => by
        rw [e] at hl
        cases hl
      have hpos := List.length_pos_iff.mpr hne
      obtain ⟨v, hv, he⟩ := hE.at (i := acc.length - 1) (by omega)
      rw [List.getLast?_eq_getElem?, List.getElem?_eq_getElem (by omega)] at hl
      cases hl
      exact ⟨v, by rw [hlen]; exact hv, he, by omega⟩
    cases hl : acc.getLast? with
    | none =>
      have hacc : acc = [] := List.getLast?_eq_none_iff.mp hl
      have hxs : xs = [] := List.length_eq_zero_iff.mp (by rw [hlen, hacc]; rfl)
      have hf : folB acc e = true := by
        unfold folB
        rw [hl]
      rw [hf] at q
      subst hxs
      refine ⟨_, rfl, _, .inl ⟨[], hS, rfl⟩, ?_⟩
      refine iteT ?_
      exact q
    | some l =>
      obtain ⟨v2, hv2, ⟨t2, q2, rfl, ht2, hq2⟩, hpos⟩ := last_of hl
      have hf : folB acc e = (decide (e.1.length = l.1.length) && HT.lexLt l.1 e.1) := by
        unfold folB
        rw [hl]
      rw [hf] at q
      have hemp : xs.isEmpty = false := by
        cases xs with
        | nil => exact absurd hpos (Nat.lt_irrefl _)
        | cons _ _ => rfl
      refine ⟨_, rfl, _, .inl ⟨xs, hS, rfl⟩, ?_⟩
      rw [hemp]
      refine iteF ?_
      have hT : SqT K H t [.ref q1, .int e.2] := .inl (.inl ht)
      have hT2 : SqT K H t2 [.ref q2, .int l.2] := .inl (.inl ht2)
      have hQ : SqT K H q1 (e.1.map V.int) := .inl (.inl hq)
      have hQ2 : SqT K H q2 (l.1.map V.int) := .inl (.inl hq2)
      refine ⟨_, rfl, t, _, 0, _, rfl, rfl, hT, atI_nat (j := 0) rfl, ?_⟩
      refine ⟨_, rfl, 1, rfl, p, _, _, _, rfl, rfl, hS, atI_neg1 hpos hv2, t2, _, 0, _, rfl, rfl, hT2, atI_nat (j := 0) rfl, ?_⟩
      refine ⟨_, rfl, q1, _, rfl, .inr hQ, _, rfl, q2, _, rfl, .inr hQ2, rfl, _, rfl, ?_⟩
      rw [List.length_map, List.length_map]
      refine iteD (fun h => ?_) (fun h => ?_)
      · have h2 : e.1.length = l.1.length := by
          have := V.int.inj h
          omega
        rw [decide_eq_true h2, Bool.true_and] at q
        exact ⟨_, rfl, _, rfl, q1, q2, _, _, rfl, rfl, hQ, hQ2, q⟩
      · have h2 : ¬ e.1.length = l.1.length := fun z => h (by rw [z])
        rw [decide_eq_false h2, Bool.false_and] at q
        exact q
end
end OT

set_option Elab.async false
set_option linter.all false
set_option maxRecDepth 100000
set_option maxHeartbeats 2000000
namespace OT
open PySem PySem.Spec PyProof.Rows L2
open TL (tl)
section
variable {P : Program} {w : World} {K : PySem.W.Frag} {mg : Str → Option Value} {base : Heap}
/-! ### the errors' own __init__ -/
theorem ok_te {f : Addr} {fd : FuncData} (F : C8.Fun K "__init__" "TableError.__init__" s_TableError___init__ f fd) : FnOk P w K mg base L2.CX0 1 f fd ["self"] (spTE K) := by
  refine C8.fn0 F sc_TableError___init__ (fun vs H Q E h => ?_) (fun cdv A outer s H vs Q E hr h => ?_)
  · obtain ⟨a, C, nm, rfl, _⟩ := h
    rfl
  · obtain ⟨a, C, nm, rfl, ha, T, k⟩ := h
    refine ⟨_, pss_one (ps_ost (pv 0) (pe_otname (pv 0))), ?_⟩
    exact ⟨_, rfl, a, C, nm, rfl, ha, T.oc, T.on, _, rfl, a, C, rfl, T.ox, T.nw, Or.inl ⟨ha, fun d nd ne => k d nd ne⟩⟩
theorem ok_ie {f B fB : Addr} {fd fdB : FuncData} (F : C8.Fun K "__init__" "IndexedError.__init__" s_IndexedError___init__ f fd) (GB : FnOk P w K mg base L2.CX0 1 fB fdB ["self"] (spTE K)) (bB : Binds K fdB ["self"] []) (R : OtRead K B "__init__" fB) (gB : mg "TableError" = some (.ref B)) :
    FnOk P w K mg base L2.CX0 2 f fd ["self", "index"] (spIE K) := by
  refine C8.fn0 F sc_IndexedError___init__ (fun vs H Q E h => ?_) (fun cdv A outer s H vs Q E hr h => ?_)
  · obtain ⟨a, C, nm, x, rfl, _⟩ := h
    rfl
  · obtain ⟨a, C, nm, x, rfl, ha, T, k⟩ := h
    refine ⟨_, pss_cons (ps_expr (pe_otcall (pe_glob (v := .ref B) (by rfl) gB rfl) R GB hr bB pass0 (pa_cons (pv 0) pa_nil)))
      (pss_one (ps_ost (pv 0) (pv 1))), ?_⟩
    refine ⟨rfl, _, rfl, a, C, nm, rfl, ha, T, fun d nd ne => ?_⟩
    refine ⟨_, rfl, _, rfl, a, C, rfl, T.ox, T.ni, Or.inr ⟨d, _, upd_same, ?_, (by show 1 ≤ 900; decide), k d nd ne⟩⟩
    rw [upd_ne ne, upd_same]
/-- what is known of an error of a class that tells an index -/
structure ErrI (K : PySem.W.Frag) (mg : Str → Option Value) (nm : Str) (C fI : Addr) : Prop where
  g : mg nm = some (.ref C)
  t : OtErr K C nm
  i : PySem.W.findIn K (.ref C) "__init__" = some (some (.ref fI))
  ty : PySem.W.typeIn K (.ref fI) = some (.type "function")
def errT (i : Nat) : List (Str × V) := [("index", .int (i : Nat)), ("word", .str "BadText")]
def readL : Nat → List Ent → List Str → Nat ⊕ List Ent
  | _, acc, [] => .inr acc
  | i, acc, u :: r =>
    match entL u with
    | none => .inl i
    | some e => if folB acc e = true then readL (i + 1) (acc ++ [e]) r else .inl i
theorem readL_none {i : Nat} {acc : List Ent} {u : Str} {r : List Str} (h : entL u = none) : readL i acc (u :: r) = .inl i := by
  show (match entL u with | none => _ | some e => _) = _
  rw [h]
theorem readL_bad {i : Nat} {acc : List Ent} {u : Str} {r : List Str} {e : Ent} (h : entL u = some e) (hf : folB acc e = false) : readL i acc (u :: r) = .inl i := by
  show (match entL u with | none => _ | some e => _) = _
  rw [h]
  show (if folB acc e = true then _ else _) = _
  rw [hf]
  rfl
theorem readL_good {i : Nat} {acc : List Ent} {u : Str} {r : List Str} {e : Ent} (h : entL u = some e) (hf : folB acc e = true) : readL i acc (u :: r) = readL (i + 1) (acc ++ [e]) r := by
  show (match entL u with | none => _ | some e => _) = _
  rw [h]
  show (if folB acc e = true then _ else _) = _
  rw [hf]
  rfl
def words (z : Str) : List Str := Txt.split z " "
theorem words_len (z : Str) : (∀ p ∈ words z, p.length ≤ z.length) ∧ (words z).length ≤ z.length + 1 := split_len sp_ne sp_k
def textL (z : Str) : Nat ⊕ List Ent := if z = ("0" : Str) then .inr [] else readL 0 [] (words z)
def spRead (K : PySem.W.Frag) (C : Addr) : Sp := fun vs H Q E => ∃ z : Str, vs = [.str z] ∧ z.length ≤ 600 ∧
  (∀ i, textL z = .inl i → ∀ d H', Same H H' → H' d = some (.xd (errT i)) → E (.ref C) (some d) H') ∧
  (∀ r, textL z = .inr r → ∀ (p : Addr) (ws : List V) H', Same H H' → H p = none → H' p = some (.lst ws) → Ents H' ws r → r.length ≤ 601 → Q (.ref p) H')
theorem ok_read {f C fI : Addr} {fd fdI : FuncData} (D : C8.Def K mg "read_row" s_read_row f fd) (T : Bi mg) (X : ErrI K mg "BadText" C fI) (GI : FnOk P w K mg base L2.CX0 2 fI fdI ["self", "index"] (spIE K)) (bI : Binds K fdI ["self", "index"] [])
    (c_entry_of : C8.Cal P w K mg base 3 "entry_of" spEnt []) (c_follows : C8.Cal P w K mg base 1 "follows" (spFol K) []) : FnOk P w K mg base (L2.CX P w) 4 f fd ["text"] (spRead K C) := by
  obtain ⟨oc, od, dV, kV, doc, pm, an, cdv, ct, osl, rfl, lk, hcd⟩ := D.fn.ex
  refine fn_of lk hcd sc_read_row (fun vs H Q E h => ?_) fun A outer s H vs Q E hr h => ?_
  · obtain ⟨z, rfl, _⟩ := h
    rfl
  · obtain ⟨z, rfl, hz, qE, qN⟩ := h
    refine ⟨_, (pss_cons (ps_set (i := 1) sc_read_row.nd rfl (Or.inl rfl) (pe_lst pa_nil))
  (pss_cons (ps_if (pt_cmpR op_eq (pv 0) pe_str (nomark _)) (pss_one (ps_ret (pv 1))) pss_nil)
  (pss_cons (ps_for (passes_of rfl) rfl (pi_enum (by rfl) T.n_enumerate (pa_cons (pe_split (pv 0) pe_str) pa_nil)) (pg_tup rfl (pgs_cons (pg_name (i := 2) sc_read_row.nd rfl (Or.inl rfl)) (pgs_cons (pg_name (i := 3) sc_read_row.nd rfl (Or.inl rfl)) pgs_nil))) (pss_cons (ps_set (i := 4) sc_read_row.nd rfl (Or.inl rfl) (C8.pe_c c_entry_of hr (by decide) (by rfl) (pa_cons (pv 3) pa_nil)))
  (pss_cons (ps_if (PW.pt (pw_or (pt_cmpR op_isN (pv 4) pe_non (nomark _)) (pw_or1 (pt_not (pt_val (C8.pe_c c_follows hr (by decide) (by rfl) (pa_cons (pv 4) (pa_cons (pv 1) pa_nil)))))))) (pss_one (ps_raise rfl (takes_of rfl rfl rfl rfl) (pmk_oex X.t.ox X.i X.ty GI hr bI .nil pass0 (by rfl) X.g (pa_cons (pv 2) pa_nil)))) pss_nil)
  (pss_one (ps_expr (pe_bm PySem.F.plainAttrs_list PySem.F.slot_list_append PySem.F.type_list_append mt_append (pv 1) (pa_cons (pv 4) pa_nil)))))))
  (pss_one (ps_ret (pv 1)))))), ?_⟩
    refine ⟨Nat.zero_le _, fun p np => ?_⟩
    have s1 : Same H (upd H p (.lst [])) := same_upd np
    refine ⟨_, rfl, rfl, _, rfl, iteD (fun h => ?_) (fun h => ?_)⟩
    · have h2 : textL z = .inr [] := if_pos (V.str.inj h)
      exact ⟨_, rfl, qN [] h2 p [] _ s1 np upd_same .nil (by decide)⟩
    have htx : textL z = readL 0 [] (words z) := if_neg fun e => h (by rw [e])
    have hwl := words_len z
    refine ⟨_, rfl, ⟨_, rfl⟩, z, " ", rfl, rfl, sp_z, Nat.le_of_lt (small1000 (by omega)), fun p2 np2 => ?_⟩
    obtain ⟨np2H, hpp⟩ := none_of_upd np2
    have s2 : Same (upd H p (.lst [])) (upd (upd H p (.lst [])) p2 (.lst ((words z).map V.str))) := same_upd np2
    refine ⟨p2, _, rfl, .inl (.inl upd_same), ?_⟩
    refine for_it (walk_enum (xs := (words z).map V.str)) (fun i σ H2 => ∃ (acc : List Ent) (ws : List V) (y2 y3 y4 : Option V), σ = [some (.str z), some (.ref p), y2, y3, y4] ∧ Same H H2 ∧ H2 p = some (.lst ws) ∧ Ents H2 ws acc ∧ readL i acc ((words z).drop i) = textL z ∧ acc.length = i ∧ H2 p2 = some (.lst ((words z).map V.str))) ?_ ?_ ?_ ?_
    · exact ⟨[], [], none, none, none, rfl, s1.trans s2, s2 _ _ upd_same, .nil, htx.symm, rfl, upd_same⟩
    · rintro i σ H2 _ ⟨_, _, _, _, _, _, _, _, _, _, _, hw⟩
      exact .inl (.inl hw)
    · rintro i x σ H2 H3 hi ⟨acc, ws, y2, y3, y4, rfl, sm, hp, hE, e, hal, hw⟩ ⟨t, x1, x2, rfl, nt, rfl, e1, e2⟩
      rw [List.length_map] at hi
      obtain ⟨_, rfl⟩ := getm (show ((words z).map V.str)[i]? = some x2 from e2)
      cases e1
      have smt : Same H2 (upd H2 t (.tup [.int (i : Nat), .str (words z)[i]])) := same_upd nt
      rw [drop_cons hi] at e
      have hwi := hwl.1 _ (List.getElem_mem hi)
      refine ⟨t, _, rfl, .inl (.inl upd_same), rfl, _, _, rfl, _, _, rfl, rfl, ?_⟩
      refine ⟨_, rfl, _, rfl, by omega, fun v H4 sm4 hv => ?_⟩
      have smA := smt.trans sm4
      have sB := sm.trans smA
      have raise : ∀ y4 : Option V, textL z = .inl i → tMkO C (spIE K) [] (tCons (tVar 2) tNil) [some (.str z), some (.ref p), some (.int (i : Nat)), some (.str (words z)[i]), y4] H4 (fun cls d H' => E cls d H') := fun y4 hi0 => by
        refine ⟨_, rfl, (by show 1 ≤ 1000; decide), fun a na => ⟨a, C, _, _, rfl, upd_same, X.t, fun d nd ne => ?_⟩⟩
        have nd2 : H4 d = none := by
          rw [upd_ne ne] at nd
          exact nd
        refine ⟨rfl, d, _, ?_, upd_same, nd2, qE i hi0 d _ ?_ upd_same⟩
        · rw [upd_ne ne.symm, upd_same]
        · intro b o hb
          have hb2 := sB b o hb
          have nba : b ≠ a := ne_of_none hb2 na
          have nbd : b ≠ d := ne_of_none hb2 nd2
          rw [upd_ne nbd, del_ne nba, upd_ne nbd, upd_ne nba, upd_ne nbd, upd_ne nba]
          exact hb2
      cases en : entL (words z)[i] with
      | none =>
        rw [en] at hv
        obtain rfl : v = .non := hv
        rw [readL_none en] at e
        refine ⟨_, rfl, rfl, _, rfl, iteT (iteT ?_)⟩
        exact raise _ e.symm
      | some et =>
        rw [en] at hv
        have hv' : EntAt H4 v et := hv
        obtain ⟨te, pe, rfl, hte, hpe⟩ := hv
        refine ⟨_, rfl, rfl, _, rfl, iteF ?_⟩
        refine ⟨_, rfl, _, rfl, _, p, ws, acc, et, rfl, hv', smA _ _ hp, hE.mono smA, _, rfl, ?_⟩
        cases hf : folB acc et with
        | false =>
          rw [readL_bad en hf] at e
          refine iteT ?_
          exact raise _ e.symm
        | true =>
          rw [readL_good en hf] at e
          refine iteF ?_
          have hp4 := smA _ _ hp
          have hlw := hE.len
          refine ⟨_, rfl, .inl ⟨rfl, _, .inl (.inl hp4)⟩, _, rfl, p, _, _, rfl, rfl, hp4, small1000 (by omega), ?_⟩
          refine ⟨acc ++ [et], _, _, _, _, rfl, same_mut sB np, upd_same, ((hE.mono smA).app (.cons hv' .nil)).updL hp4, e, by rw [List.length_append, hal]; rfl, ?_⟩
          rw [upd_ne hpp.symm]
          exact smA _ _ hw
    · rintro σ H2 ⟨acc, ws, y2, y3, y4, rfl, sm, hp, hE, e, hal, hw⟩
      rw [List.length_map] at e hal
      rw [List.drop_length] at e
      exact ⟨_, rfl, qN acc e.symm p ws H2 sm np hp hE (by omega)⟩
end
end OT

set_option Elab.async false
set_option linter.all false
set_option maxRecDepth 100000
set_option maxHeartbeats 2000000
namespace OT
open PySem PySem.Spec PyProof.Rows L2
open TL (tl)
theorem empty_app (x : Str) : Str.empty ++ x = x := by
  refine TL.ext_tl ?_
  rw [TL.tl_append]
  rfl
def placeS (k : Pl) : Str := Txt.join "," (k.map strN)
def wordE (e : Ent) : Str := strN e.2 ++ ("@" : Str) ++ placeS e.1
def writL (r : List Ent) : Str := if r = [] then "0" else Txt.join " " (r.map wordE)
/-- an entry that is short when written -/
structure SmallE (e : Ent) : Prop where
  l : e.1.length ≤ 3
  c : ∀ x ∈ e.1, x.natAbs < 10 ^ 3
  n : e.2.natAbs < 10 ^ 13
theorem comma1 : ("," : Str).length = 1 := by decide +kernel
theorem at1 : ("@" : Str).length = 1 := by decide +kernel
theorem sp1 : (" " : Str).length = 1 := by decide +kernel
theorem join_len {s : Str} {l : List Str} {k n m : Nat} (h : ∀ y ∈ l, y.length ≤ k) (hs : s.length = 1) (hl : l.length ≤ n) (hm : n * (k + 1) ≤ m) : (Txt.join s l).length ≤ m ∧ (l.map (·.length)).sum + l.length * s.length ≤ m := by
  have h1 := PySem.StrLaws.join_length_le s l
  have h2 := sum_le h
  have h3 : l.length * (k + 1) ≤ n * (k + 1) := Nat.mul_le_mul_right _ hl
  rw [TL.join_eq]
  rw [hs] at h1 ⊢
  rw [Nat.mul_succ] at h3
  omega
theorem SmallE.place {e : Ent} (h : SmallE e) : (placeS e.1).length ≤ 15 ∧ ((e.1.map strN).map (·.length)).sum + (e.1.map strN).length * ("," : Str).length ≤ 15 :=
  join_len (k := 4) (n := 3) (fun y hy => by
    obtain ⟨x, hx, rfl⟩ := List.mem_map.mp hy
    exact strN_len (by decide) (h.c x hx)) comma1 (by rw [List.length_map]; exact h.l) (by decide)
theorem SmallE.num {e : Ent} (h : SmallE e) : (strN e.2).length ≤ 14 := strN_len (by decide) h.n
theorem SmallE.word {e : Ent} (h : SmallE e) : (wordE e).length ≤ 30 := by
  have h1 := h.place.1
  have h2 := h.num
  unfold wordE
  rw [Str.length_append, Str.length_append, at1]
  omega
theorem SmallE.log {e : Ent} (h : SmallE e) : e.2.natAbs.log2 < 1920 := strN_log (Nat.lt_of_lt_of_le h.n (by decide))
theorem words_small {r : List Ent} (h : ∀ e ∈ r, SmallE e) (hl : r.length ≤ 8) : (Txt.join " " (r.map wordE)).length ≤ 248 ∧ ((r.map wordE).map (·.length)).sum + (r.map wordE).length * (" " : Str).length ≤ 248 :=
  join_len (k := 30) (n := 8) (fun y hy => by
    obtain ⟨e, he, rfl⟩ := List.mem_map.mp hy
    exact (h e he).word) sp1 (by rw [List.length_map]; exact hl) (by decide)
/-- f'..', its parts' readings -/
def tF (ts : List TE) : TE := fun σ H Q => tJs ts Str.empty σ H fun out H1 => Q (.str out) H1
theorem pe_joinF {X : Cx} {v1 v2 : Expr} {rest : List Expr} {ts : List TE} {pos : Pos} (h : PJ X (v1 :: v2 :: rest) ts) : PE X (.JoinedStr (v1 :: v2 :: rest) pos) (tF ts) := pe_joined h
section
variable {P : Program} {w : World} {K : PySem.W.Frag} {mg : Str → Option Value} {base : Heap}
def spWr (K : PySem.W.Frag) : Sp := fun vs H Q _ => ∃ (a : Addr) (xs : List V) (r : List Ent), vs = [.ref a] ∧ H a = some (.lst xs) ∧ Ents H xs r ∧ (∀ e ∈ r, SmallE e) ∧ r.length ≤ 8 ∧ ∀ H', Same H H' → Q (.str (writL r)) H'
theorem c_write_row {f : Addr} {fd : FuncData} (D : C8.Def K mg "write_row" s_write_row f fd) (b : Binds K fd ["row"] []) (T : Bi mg) (c_write_place : C8.Cal P w K mg base 1 "write_place" (spWP K) []) : C8.Cal P w K mg base 2 "write_row" (spWr K) [] := by
  refine C8.cal0 D b .nil sc_write_row (fun vs H Q E h => ?_) (fun cdv A outer s H vs Q E hr h => ?_)
  · obtain ⟨a, xs, r, rfl, _⟩ := h
    rfl
  · obtain ⟨a, xs, r, rfl, ha, hE, hs, hl, q⟩ := h
    have hS : SqL K H a xs := .inl (.inl ha)
    have hx := hE.len
    refine ⟨_, (pss_cons (ps_if (pt_not (pt_truth (pv 0) (by intro _; rfl))) (pss_one (ps_ret pe_str)) pss_nil)
  (pss_one (ps_ret (pe_join pe_str (pe_lc (own := [("place", 1), ("number", 2)]) (g := (gTup K 2 (gCons (gName 1) (gCons (gName 2) gNil)))) (tt := tYes) rfl sc_write_row.nd (pi_list (pv 0)) (blkOk_by (N := ["row", "place", "number"]) (sc := C8.fnScope s_write_row) (by decide +kernel)) (fun _ _ _ _ _ => (pg_tup rfl (pgs_cons (pg_name (i := 1) sc_write_row.nd rfl (Or.inl rfl)) (pgs_cons (pg_name (i := 2) sc_write_row.nd rfl (Or.inl rfl)) pgs_nil)))) (fun _ _ _ _ _ => pts_nil) (fun _ _ _ _ _ => (pe_joinF (.cons (pe_fmt (pv 2)) (.cons pe_str (.cons (pe_fmt (C8.pe_c c_write_place hr (by decide) (by rfl) (pa_cons (pv 1) pa_nil))) .nil)))))))))), ?_⟩
    refine ⟨_, rfl, _, .inl ⟨xs, hS, rfl⟩, ?_⟩
    by_cases hr0 : r = []
    · have hx0 : xs = [] := List.length_eq_zero_iff.mp (by rw [hx, hr0]; rfl)
      have hw : writL r = "0" := if_pos hr0
      rw [hw] at q
      subst hx0
      refine iteT ?_
      exact q _ (Same.refl _)
    · have hw : writL r = Txt.join " " (r.map wordE) := if_neg hr0
      rw [hw] at q
      have hemp : xs.isEmpty = false := by
        cases z : xs with
        | nil =>
          rw [z] at hx
          exact absurd (List.length_eq_zero_iff.mp hx.symm) hr0
        | cons _ _ => rfl
      rw [hemp]
      refine iteF ?_
      have sz : ∀ {k : Nat}, k ≤ 1000 → k ≤ sizeLine := fun h => Nat.le_of_lt (small1000 h)
      refine ⟨⟨_, rfl⟩, _, rfl, a, rfl, ⟨_, hS⟩, fun p np => ?_⟩
      refine lc_list (K := K) (xs := xs) (fun i H2 => Same H H2 ∧ H2 p = some (.lst ((r.take i).map fun e => V.str (wordE e)))) ?_ ?_ ?_ ?_
      · exact ⟨same_upd np, upd_same⟩
      · rintro i H2 _ ⟨sm, _⟩
        exact sm.seq hS
      · rintro i x H2 hxi ⟨sm, hp⟩
        obtain ⟨e, he, t, pe, rfl, ht, hpe⟩ := (hE.mono sm).get hxi
        obtain ⟨hi, hee⟩ := List.getElem?_eq_some_iff.mp he
        have hm := List.mem_of_getElem? he
        have h := hs e hm
        have h1 := h.place.1
        have h2 := h.num
        refine ⟨t, _, rfl, .inl (.inl ht), rfl, _, _, rfl, _, _, rfl, rfl, rfl, tYes_of ?_⟩
        refine ⟨_, rfl, .inr ⟨_, rfl, h.log, strN e.2, rfl, ?_, "@", rfl, ?_, _, rfl, pe, e.1, rfl, .inl (.inl hpe), Nat.le_trans h.l (by decide), fun n hn => Nat.lt_trans (h.c n hn) (by decide), fun H3 sm3 => .inl ⟨placeS e.1, rfl, ?_, placeS e.1, rfl, ?_, ?_⟩⟩⟩
        · rw [empty_app]
          exact sz (by omega)
        · rw [empty_app, Str.length_append, at1]
          exact sz (by omega)
        · exact sz (by omega)
        · rw [empty_app, Str.length_append, Str.length_append, at1]
          exact sz (by omega)
        · refine ⟨_, sm3 _ _ hp, ?_, same_mut (sm.trans sm3) np, ?_⟩
          · rw [List.length_map, List.length_take]
            exact small1000 (by omega)
          · rw [upd_same, take_map_succ (fun e => V.str (wordE e)) hi, hee, empty_app]
            rfl
      · rintro H2 ⟨sm, hp⟩
        rw [hx, List.take_length] at hp
        obtain ⟨j1, j2⟩ := words_small hs hl
        refine ⟨_, p, r.map wordE, rfl, rfl, .inl (.inl (.inl ?_)), by omega, q _ sm⟩
        rw [hp, List.map_map]
        rfl
theorem c__law_written {f : Addr} {fd : FuncData} (D : C8.Def K mg "_law_written" s__law_written f fd) (b : Binds K fd ["_law_row_here"] []) (T : Bi mg) : C8.Cal P w K mg base 1 "_law_written" (spWr K) [] := by
  refine C8.cal0 D b .nil sc__law_written (fun vs H Q E h => ?_) (fun cdv A outer s H vs Q E hr h => ?_)
  · obtain ⟨a, xs, r, rfl, _⟩ := h
    rfl
  · obtain ⟨a, xs, r, rfl, ha, hE, hs, hl, q⟩ := h
    have hS : SqL K H a xs := .inl (.inl ha)
    have hx := hE.len
    have sz : ∀ {k : Nat}, k ≤ 1000 → k ≤ sizeLine := fun h => Nat.le_of_lt (small1000 h)
    refine ⟨_, (pss_cons (ps_set (i := 1) sc__law_written.nd rfl (Or.inl rfl) (pe_lst pa_nil))
  (pss_cons (ps_for PassesOwn.never rfl (pi_list (pv 0)) (pg_tup rfl (pgs_cons (pg_name (i := 2) sc__law_written.nd rfl (Or.inl rfl)) (pgs_cons (pg_name (i := 3) sc__law_written.nd rfl (Or.inl rfl)) pgs_nil))) (pss_one (ps_expr (pe_bm PySem.F.plainAttrs_list PySem.F.slot_list_append PySem.F.type_list_append mt_append (pv 1) (pa_cons (pe_op op_add_str (pe_op op_add_str (pe_callTy call_str_int (by rfl) T.n_str OT.b_str (pa_cons (pv 3) pa_nil)) pe_str) (pe_join pe_str (pe_lc (own := [("_law_x", 4)]) (g := (gName 4)) (tt := tYes) rfl sc__law_written.nd (pi_tup (pv 2)) (blkOk_by (N := ["_law_row_here", "_law_words", "_law_place", "_law_number", "_law_x"]) (sc := C8.fnScope s__law_written) (by decide +kernel)) (fun _ _ _ _ _ => (pg_name (i := 4) sc__law_written.nd rfl (Or.inl rfl))) (fun _ _ _ _ _ => pts_nil) (fun _ _ _ _ _ => (pe_callTy call_str_int (by rfl) T.n_str OT.b_str (pa_cons (pv 4) pa_nil)))))) pa_nil)))))
  (pss_cons (ps_if (pt_cmpR op_eq (pe_callB call_len_seq (by rfl) T.n_len OT.b_len (pa_cons (pv 1) pa_nil)) pe_int (nomark _)) (pss_one (ps_ret pe_str)) pss_nil)
  (pss_one (ps_ret (pe_join pe_str (pv 1))))))), ?_⟩
    refine ⟨Nat.zero_le _, fun p np => ?_⟩
    have s1 : Same H (upd H p (.lst [])) := same_upd np
    refine ⟨_, rfl, a, rfl, ⟨_, s1.seq hS⟩, ?_⟩
    refine for_list (K := K) (xs := xs) (fun i σ H2 => ∃ y2 y3 y4 : Option V, σ = [some (.ref a), some (.ref p), y2, y3, y4] ∧ Same H H2 ∧ H2 p = some (.lst ((r.take i).map fun e => V.str (wordE e)))) ?_ ?_ ?_ ?_
    · exact ⟨none, none, none, rfl, s1, upd_same⟩
    · rintro i σ H2 _ ⟨_, _, _, _, sm, _⟩
      exact sm.seq hS
    · rintro i x σ H2 hxi ⟨y2, y3, y4, rfl, sm, hp⟩
      obtain ⟨e, he, t, pe, rfl, ht, hpe⟩ := (hE.mono sm).get hxi
      obtain ⟨hi, hee⟩ := List.getElem?_eq_some_iff.mp he
      have hm := List.mem_of_getElem? he
      have h := hs e hm
      obtain ⟨h1, h1b⟩ := h.place
      have h2 := h.num
      refine ⟨t, _, rfl, .inl (.inl ht), rfl, _, _, rfl, _, _, rfl, rfl, ?_⟩
      refine ⟨_, rfl, .inl ⟨rfl, _, .inl (.inl hp)⟩, _, rfl, _, rfl, h.log, _, _, rfl, rfl, ?_, ⟨_, rfl⟩, _, rfl, pe, rfl, ⟨_, .inl (.inl hpe)⟩, fun p2 np2 => ?_⟩
      · rw [at1]
        exact sz (Nat.le_trans (Nat.add_le_add_right h2 1) (by decide))
      refine lc_tup (K := K) (xs := e.1.map V.int) (fun j H3 => Same H2 H3 ∧ H3 p2 = some (.lst ((e.1.take j).map fun n => V.str (strN n)))) ?_ ?_ ?_ ?_
      · exact ⟨same_upd np2, upd_same⟩
      · rintro j H3 _ ⟨sm3, _⟩
        exact .inl (.inl (sm3 _ _ hpe))
      · rintro j y H3 hy ⟨sm3, hp3⟩
        obtain ⟨hj, rfl⟩ := getm hy
        refine ⟨rfl, tYes_of ?_⟩
        refine ⟨_, rfl, _, rfl, strN_log (Nat.lt_trans (h.c _ (List.getElem_mem hj)) (by decide)), _, hp3, ?_, same_mut sm3 np2, ?_⟩
        · rw [List.length_map, List.length_take]
          have := h.l
          exact small1000 (by omega)
        · rw [upd_same, take_map_succ (fun n => V.str (strN n)) hj]
      · rintro H3 ⟨sm3, hp3⟩
        rw [List.length_map, List.take_length] at hp3
        refine ⟨_, p2, e.1.map strN, rfl, rfl, .inl (.inl (.inl ?_)), by omega, ?_⟩
        · rw [hp3, List.map_map]
          rfl
        have hpl : (Txt.join ("," : Str) (e.1.map strN)).length ≤ 15 := h1
        refine ⟨_, _, rfl, rfl, ?_, p, _, _, rfl, rfl, sm3 _ _ hp, ?_, ?_⟩
        · rw [Str.length_append, at1]
          exact sz (Nat.le_trans (Nat.add_le_add (Nat.add_le_add_right h2 1) hpl) (by decide))
        · rw [List.length_map, List.length_take]
          exact small1000 (by omega)
        · refine ⟨_, _, _, rfl, same_mut (sm.trans sm3) np, ?_⟩
          rw [upd_same, take_map_succ (fun e => V.str (wordE e)) hi, hee]
          rfl
    · rintro σ H2 ⟨y2, y3, y4, rfl, sm, hp⟩
      rw [hx, List.take_length] at hp
      have hP : SqL K H2 p (r.map fun e => V.str (wordE e)) := .inl (.inl hp)
      refine ⟨_, rfl, p, _, rfl, .inl hP, rfl, _, rfl, ?_⟩
      rw [List.length_map]
      by_cases hr0 : r = []
      · have hw : writL r = "0" := if_pos hr0
        rw [hw] at q
        subst hr0
        refine iteD (fun _ => ?_) (fun h => absurd rfl h)
        exact q _ sm
      · have hw : writL r = Txt.join " " (r.map wordE) := if_neg hr0
        rw [hw] at q
        refine iteD (fun h => ?_) (fun _ => ?_)
        · have h3 := V.int.inj h
          exact absurd (List.length_eq_zero_iff.mp (by omega)) hr0
        · obtain ⟨j1, j2⟩ := words_small hs hl
          refine ⟨⟨_, rfl⟩, _, rfl, _, p, r.map wordE, rfl, rfl, .inl (.inl (.inl ?_)), by omega, q _ sm⟩
          rw [hp, List.map_map]
          rfl
end
end OT

set_option Elab.async false
set_option linter.all false
set_option maxRecDepth 100000
set_option maxHeartbeats 2000000
namespace OT
open PySem PySem.Spec PyProof.Rows L2
/-! ### places -/
def plusP (k l : Pl) : Pl := List.zipWith (· + ·) k l
theorem plusP_len {k l : Pl} (h : k.length ≤ l.length) : (plusP k l).length = k.length := by
  unfold plusP
  rw [List.length_zipWith, Nat.min_eq_left h]
theorem plusP_get {k l : Pl} {i : Nat} (h : i < (plusP k l).length) (h1 : i < k.length) (h2 : i < l.length) : (plusP k l)[i] = k[i] + l[i] := by
  unfold plusP
  exact List.getElem_zipWith ..
theorem plusP_mem {k l : Pl} {x : Int} (h : x ∈ plusP k l) : ∃ a ∈ k, ∃ b ∈ l, x = a + b := by
  obtain ⟨i, hi, rfl⟩ := List.getElem_of_mem h
  have hk : i < k.length := by
    unfold plusP at hi
    rw [List.length_zipWith] at hi
    omega
  have hl : i < l.length := by
    unfold plusP at hi
    rw [List.length_zipWith] at hi
    omega
  exact ⟨_, List.getElem_mem hk, _, List.getElem_mem hl, plusP_get hi hk hl⟩
theorem plusP_lt : ∀ {a b l : Pl}, a.length ≤ l.length → b.length ≤ l.length → HT.lexLt (plusP a l) (plusP b l) = HT.lexLt a b
  | [], [], _, _, _ => rfl
  | [], _ :: _, _ :: _, _, _ => rfl
  | _ :: _, [], _ :: _, _, _ => rfl
  | x :: a, y :: b, z :: l, h1, h2 => by
    show (if x + z = y + z then HT.lexLt (plusP a l) (plusP b l) else decide (x + z < y + z)) = if x = y then HT.lexLt a b else decide (x < y)
    rw [plusP_lt (Nat.le_of_succ_le_succ h1) (Nat.le_of_succ_le_succ h2)]
    by_cases e : x = y
    · rw [if_pos e, if_pos (by rw [e])]
    · rw [if_neg e, if_neg (by omega)]
      by_cases h : x < y
      · rw [decide_eq_true h, decide_eq_true (by omega)]
      · rw [decide_eq_false h, decide_eq_false (by omega)]
def movL (es : List Ent) (l : Pl) : List Ent := es.map fun e => (plusP e.1 l, e.2)
theorem movL_valid {es : List Ent} {l : Pl} (h : Valid es) (hl : ∀ e ∈ es, e.1.length ≤ l.length) : Valid (movL es l) := by
  refine ⟨?_, fun e he => ?_⟩
  · unfold movL
    rw [List.pairwise_map]
    refine List.Pairwise.imp_of_mem (fun {x y} hx hy q => ?_) h.asc
    rw [plusP_lt (hl x hx) (hl y hy)]
    exact q
  · obtain ⟨x, hx, rfl⟩ := List.mem_map.mp he
    exact h.nz x hx
theorem numAt_bound {es : List Ent} {m : Nat} (h : ∀ e ∈ es, e.2.natAbs ≤ m) (q : Pl) : (numAt es q).natAbs ≤ es.length * m := by
  induction es with
  | nil => exact Nat.zero_le _
  | cons e r ih =>
    have h1 := h e List.mem_cons_self
    have h2 := ih fun x hx => h x (List.mem_cons_of_mem _ hx)
    show ((if e.1 = q then e.2 else 0) + numAt r q).natAbs ≤ (r.length + 1) * m
    rw [Nat.succ_mul]
    by_cases c : e.1 = q
    · rw [if_pos c]
      omega
    · rw [if_neg c]
      omega
theorem RowIs.bound {r es : List Ent} {m : Nat} (h : RowIs r es) (hb : ∀ e ∈ es, e.2.natAbs ≤ m) : ∀ e ∈ r, e.2.natAbs ≤ es.length * m := fun e he => by
  have h1 := h.v.at e he
  rw [h.s] at h1
  rw [← h1]
  exact numAt_bound hb _
/-- tuples of ints, in turn -/
inductive Pls (H : Hp) : List V → List Pl → Prop
  | nil : Pls H [] []
  | cons {p : Addr} {k : Pl} {vs : List V} {ks : List Pl} : H p = some (.tup (k.map V.int)) → Pls H vs ks → Pls H (.ref p :: vs) (k :: ks)
theorem Pls.len {H : Hp} {vs : List V} {ks : List Pl} (h : Pls H vs ks) : vs.length = ks.length := by
  induction h with
  | nil => rfl
  | cons _ _ ih => rw [List.length_cons, List.length_cons, ih]
theorem Pls.mono {H H' : Hp} {vs : List V} {ks : List Pl} (s : ∀ b o, H b = some o → H' b = some o) (h : Pls H vs ks) : Pls H' vs ks := by
  induction h with
  | nil => exact .nil
  | cons h1 _ ih => exact .cons (s _ _ h1) ih
theorem Pls.app {H : Hp} {vs ws : List V} {ks ls : List Pl} (h : Pls H vs ks) (g : Pls H ws ls) : Pls H (vs ++ ws) (ks ++ ls) := by
  induction h with
  | nil => exact g
  | cons h1 _ ih => exact .cons h1 ih
theorem Pls.updL {H : Hp} {D : Addr} {l l' : List V} {vs : List V} {ks : List Pl} (hD : H D = some (.lst l)) (h : Pls H vs ks) : Pls (upd H D (.lst l')) vs ks := by
  induction h with
  | nil => exact .nil
  | cons h1 _ ih => exact .cons (by rw [upd_ne (ne_lst h1 hD)]; exact h1) ih
theorem Pls.get {H : Hp} {vs : List V} {ks : List Pl} (h : Pls H vs ks) : ∀ {i : Nat} {v : V}, vs[i]? = some v → ∃ p k, v = .ref p ∧ ks[i]? = some k ∧ H p = some (.tup (k.map V.int)) := by
  induction h with
  | nil => intro i v h; simp at h
  | cons h1 _ ih =>
    intro i v hv
    cases i with
    | zero =>
      cases hv
      exact ⟨_, _, rfl, rfl, h1⟩
    | succ i => exact ih (i := i) hv
section
variable {P : Program} {w : World} {K : PySem.W.Frag} {mg : Str → Option Value} {base : Heap}
theorem small100k {n : Nat} (h : n ≤ 100000) : n < sizeLine := Nat.lt_of_le_of_lt h (by decide)
theorem b62 {n : Nat} (h : n ≤ 100000) : (n : Int) < 2 ^ 62 := by
  have : (2 : Int) ^ 62 = 4611686018427387904 := by decide
  omega
def spPlus (K : PySem.W.Frag) : Sp := fun vs H Q _ => ∃ (a b : Addr) (k l : Pl), vs = [.ref a, .ref b] ∧ SqT K H a (k.map V.int) ∧ SqT K H b (l.map V.int) ∧ k.length ≤ l.length ∧ k.length ≤ 1000 ∧ ∀ p H', Same H H' → H' p = some (.tup ((plusP k l).map V.int)) → Q (.ref p) H'
theorem c__law_plus {f : Addr} {fd : FuncData} (D : C8.Def K mg "_law_plus" s__law_plus f fd) (b : Binds K fd ["_law_place", "_law_other"] []) (T : Bi mg) : C8.Cal P w K mg base 1 "_law_plus" (spPlus K) [] := by
  refine C8.cal0 D b .nil sc__law_plus (fun vs H Q E h => ?_) (fun cdv A outer s H vs Q E hr h => ?_)
  · obtain ⟨a, b, k, l, rfl, _⟩ := h
    rfl
  · obtain ⟨a, b, k, l, rfl, hk, hl, hkl, hz, q⟩ := h
    refine ⟨_, (pss_one (ps_ret (pe_callTy call_tuple_of (by rfl) T.n_tuple OT.b_tuple (pa_cons (pe_lc (own := [("_law_k", 2)]) (g := (gName 2)) (tt := tYes) rfl sc__law_plus.nd (pi_range1 rfl T.n_range (pa_cons (pe_callB call_len_seq (by rfl) T.n_len OT.b_len (pa_cons (pv 0) pa_nil)) pa_nil)) (blkOk_by (N := ["_law_place", "_law_other", "_law_k"]) (sc := C8.fnScope s__law_plus) (by decide +kernel)) (fun _ _ _ _ _ => (pg_name (i := 2) sc__law_plus.nd rfl (Or.inl rfl))) (fun _ _ _ _ _ => pts_nil) (fun _ _ _ _ _ => (pe_op op_add (pe_ix (show IxR _ (rIxT K) from ix_tup) (pv 0) (pv 2) (fun _ _ => rfl)) (pe_ix (show IxR _ (rIxT K) from ix_tup) (pv 1) (pv 2) (fun _ _ => rfl))))) pa_nil)))), ?_⟩
    have hpl := plusP_len hkl
    refine ⟨_, rfl, a, _, rfl, .inr hk, _, rfl, by omega, b62 (by rw [List.length_map]; omega), fun p np => ?_⟩
    rw [List.length_map, Int.toNat_natCast]
    refine lc_range (lo := 0) (n := k.length) (fun i H2 => Same H H2 ∧ H2 p = some (.lst (((plusP k l).take i).map V.int))) ⟨same_upd np, upd_same⟩ ?_ ?_
    · rintro i H2 hi ⟨sm, hp⟩
      have hil : i < l.length := by omega
      have hip : i < (plusP k l).length := by omega
      have gk : atI (k.map V.int) ((0 : Int) + (i : Int)) = some (.int k[i]) := by
        rw [Int.zero_add]
        exact atI_nat (by rw [List.getElem?_map, List.getElem?_eq_getElem hi]; rfl)
      have gl : atI (l.map V.int) ((0 : Int) + (i : Int)) = some (.int l[i]) := by
        rw [Int.zero_add]
        exact atI_nat (by rw [List.getElem?_map, List.getElem?_eq_getElem hil]; rfl)
      refine ⟨rfl, tYes_of ?_⟩
      refine ⟨_, rfl, _, rfl, a, _, _, _, rfl, rfl, same_t sm hk, gk, _, rfl, _, rfl, b, _, _, _, rfl, rfl, same_t sm hl, gl, _, _, rfl, rfl, _, hp, ?_, same_mut sm np, ?_⟩
      · rw [List.length_map, List.length_take]
        exact small1000 (by omega)
      · rw [upd_same, take_map_succ V.int hip, plusP_get hip hi hil]
    · rintro H2 ⟨sm, hp⟩
      rw [← hpl, List.take_length] at hp
      exact ⟨p, _, rfl, .inl ⟨.inl (.inl hp), fun t nt => q t _ (sm.trans (same_upd nt)) upd_same⟩⟩
def spMoved (K : PySem.W.Frag) : Sp := fun vs H Q _ => ∃ (a b : Addr) (xs : List V) (es : List Ent) (l : Pl), vs = [.ref a, .ref b] ∧ InEnts K H a xs es ∧ SqT K H b (l.map V.int) ∧ (∀ e ∈ es, e.1.length ≤ l.length) ∧ l.length ≤ 1000 ∧
  ∀ p ws H', Same H H' → H p = none → H' p = some (.lst ws) → Ents H' ws (movL es l) → Q (.ref p) H'
theorem c__law_moved {f : Addr} {fd : FuncData} (D : C8.Def K mg "_law_moved" s__law_moved f fd) (b : Binds K fd ["_law_row_here", "_law_by"] []) (T : Bi mg) (c__law_plus : C8.Cal P w K mg base 1 "_law_plus" (spPlus K) []) : C8.Cal P w K mg base 2 "_law_moved" (spMoved K) [] := by
  refine C8.cal0 D b .nil sc__law_moved (fun vs H Q E h => ?_) (fun cdv A outer s H vs Q E hr h => ?_)
  · obtain ⟨a, b, xs, es, l, rfl, _⟩ := h
    rfl
  · obtain ⟨a, b, xs, es, l, rfl, hE, hl, hle, hz, q⟩ := h
    refine ⟨_, (pss_one (ps_ret (pe_lc (own := [("_law_entry_here", 2)]) (g := (gName 2)) (tt := tYes) rfl sc__law_moved.nd (pi_list (pv 0)) (blkOk_by (N := ["_law_row_here", "_law_by", "_law_entry_here"]) (sc := C8.fnScope s__law_moved) (by decide +kernel)) (fun _ _ _ _ _ => (pg_name (i := 2) sc__law_moved.nd rfl (Or.inl rfl))) (fun _ _ _ _ _ => pts_nil) (fun _ _ _ _ _ => (pe_tup (pa_cons (C8.pe_c c__law_plus hr (by decide) (by rfl) (pa_cons (pe_ix (show IxR _ (rIxT K) from ix_tup) (pv 2) pe_int (fun _ _ => rfl)) (pa_cons (pv 1) pa_nil))) (pa_cons (pe_ix (show IxR _ (rIxT K) from ix_tup) (pv 2) pe_int (fun _ _ => rfl)) pa_nil))))))), ?_⟩
    have hx := hE.e.len
    have hez := hE.z
    refine ⟨_, rfl, a, rfl, ⟨_, hE.l⟩, fun p np => ?_⟩
    refine lc_list (K := K) (xs := xs) (fun i H2 => Same H H2 ∧ ∃ ws, H2 p = some (.lst ws) ∧ Ents H2 ws (movL (es.take i) l)) ?_ ?_ ?_ ?_
    · exact ⟨same_upd np, [], upd_same, .nil⟩
    · rintro i H2 _ ⟨sm, _⟩
      exact sm.seq hE.l
    · rintro i x H2 hxi ⟨sm, ws, hp, hW⟩
      obtain ⟨e, he, t, pe, rfl, ht, hpe⟩ := (hE.e.mono sm).get hxi
      obtain ⟨hi, hee⟩ := List.getElem?_eq_some_iff.mp he
      have hm := List.mem_of_getElem? he
      have hT : SqT K H2 t [.ref pe, .int e.2] := .inl (.inl ht)
      refine ⟨rfl, tYes_of ?_⟩
      refine ⟨_, rfl, t, _, 0, _, rfl, rfl, hT, atI_nat (j := 0) rfl, _, rfl, pe, b, e.1, l, rfl, .inl (.inl hpe), same_t sm hl, hle e hm, Nat.le_trans (hle e hm) hz, fun p3 H3 sm3 hp3 => ?_⟩
      refine ⟨_, rfl, t, _, 1, _, rfl, rfl, same_t sm3 hT, atI_nat (j := 1) rfl, (by show 2 ≤ sizeLine; decide), fun t4 nt4 => ?_⟩
      have sm4 : Same H3 (upd H3 t4 (.tup [.ref p3, .int e.2])) := same_upd nt4
      have smA := sm3.trans sm4
      have hv : EntAt (upd H3 t4 (.tup [.ref p3, .int e.2])) (.ref t4) (plusP e.1 l, e.2) := ⟨t4, p3, rfl, upd_same, sm4 _ _ hp3⟩
      have hD := smA _ _ hp
      have hwl := hW.len
      refine ⟨ws, hD, ?_, same_mut (sm.trans smA) np, ws ++ [.ref t4], upd_same, ?_⟩
      · unfold movL at hwl
        rw [List.length_map, List.length_take] at hwl
        omega
      · have ht1 : es.take (i + 1) = es.take i ++ [e] := by
          rw [List.take_add_one, he]
          rfl
        unfold movL
        rw [ht1, List.map_append]
        exact ((hW.mono smA).app (.cons hv .nil)).updL hD
    · rintro H2 ⟨sm, ws, hp, hW⟩
      rw [hx, List.take_length] at hW
      exact q p ws H2 sm np hp hW
def spBox (K : PySem.W.Frag) : Sp := fun vs H Q _ => ∃ (k u : Nat), vs = [.int (k : Int), .int (u : Int)] ∧ k < 3 ∧ ∀ p (bs : List Nat) H', (bs = [u] ∨ bs = [u, 2] ∨ bs = [2, 2, 2]) → bs.length = k + 1 → Same H H' → H' p = some (.lst (bs.map fun (n : Nat) => V.int n)) → Q (.ref p) H'
theorem c__law_box {f : Addr} {fd : FuncData} (D : C8.Def K mg "_law_box" s__law_box f fd) (b : Binds K fd ["_law_kind", "_law_wide"] []) (T : Bi mg) : C8.Cal P w K mg base 1 "_law_box" (spBox K) [] := by
  refine C8.cal0 D b .nil sc__law_box (fun vs H Q E h => ?_) (fun cdv A outer s H vs Q E hr h => ?_)
  · obtain ⟨k, u, rfl, _⟩ := h
    rfl
  · obtain ⟨k, u, rfl, hk, q⟩ := h
    refine ⟨_, (pss_cons (ps_if (pt_cmpR op_eq (pv 0) pe_int (nomark _)) (pss_one (ps_ret (pe_lst (pa_cons (pv 1) pa_nil)))) pss_nil)
  (pss_cons (ps_if (pt_cmpR op_eq (pv 0) pe_int (nomark _)) (pss_one (ps_ret (pe_lst (pa_cons (pv 1) (pa_cons pe_int pa_nil))))) pss_nil)
  (pss_one (ps_ret (pe_lst (pa_cons pe_int (pa_cons pe_int (pa_cons pe_int pa_nil)))))))), ?_⟩
    refine ⟨_, rfl, rfl, _, rfl, iteD (fun h => ?_) (fun h => ?_)⟩
    · refine ⟨_, rfl, (by show 1 ≤ sizeLine; decide), fun p np => ?_⟩
      have h0 := V.int.inj h
      exact q p [u] _ (.inl rfl) (by show 1 = k + 1; omega) (same_upd np) upd_same
    · refine ⟨_, rfl, rfl, _, rfl, iteD (fun h2 => ?_) (fun h2 => ?_)⟩
      · refine ⟨_, rfl, (by show 2 ≤ sizeLine; decide), fun p np => ?_⟩
        have h0 := V.int.inj h2
        exact q p [u, 2] _ (.inr (.inl rfl)) (by show 2 = k + 1; omega) (same_upd np) upd_same
      · refine ⟨(by show 3 ≤ sizeLine; decide), fun p np => ?_⟩
        have h0 : k ≠ 0 := fun e => h (by rw [e]; rfl)
        have h1 : k ≠ 1 := fun e => h2 (by rw [e]; rfl)
        exact q p [2, 2, 2] _ (.inr (.inr rfl)) (by show 3 = k + 1; omega) (same_upd np) upd_same
end
end OT

set_option Elab.async false
set_option linter.all false
set_option maxRecDepth 100000
set_option maxHeartbeats 2000000
namespace OT
open PySem PySem.Spec PyProof.Rows L2
theorem InR.get {ds zs : List Int} (h : InR ds zs) {i : Nat} {z : Int} (hz : zs[i]? = some z) : ∃ d, (ds.map V.int)[i]? = some (.int d) ∧ 0 ≤ d ∧ d < z := by
  have hi : i < ds.length := by
    rw [h.1]
    exact (List.getElem?_eq_some_iff.mp hz).1
  have e : ds[i]? = some ds[i] := List.getElem?_eq_getElem hi
  exact ⟨ds[i], by rw [List.getElem?_map, e]; rfl, h.2 i _ z e hz⟩
theorem ixN_nat {n j : Nat} (h : j < n) : ixN n (j : Int) = some j := by
  unfold ixN
  rw [if_pos (by omega), if_pos (by omega), Int.toNat_natCast]
theorem mod_nat {n : Nat} (h : 0 < n) (z : Int) : ∃ j : Nat, z % (n : Int) = (j : Int) ∧ j < n := by
  have h0 : 0 ≤ z % (n : Int) := Int.emod_nonneg _ (by omega)
  have h1 : z % (n : Int) < n := Int.emod_lt_of_pos _ (by omega)
  obtain ⟨j, hj⟩ := Int.eq_ofNat_of_zero_le h0
  exact ⟨j, hj, by omega⟩
/-- how many places a box has -/
def pr (bs : List Nat) : Nat := bs.foldl (· * ·) 1
theorem pr_snoc (bs : List Nat) (n : Nat) : pr (bs ++ [n]) = pr bs * n := by
  unfold pr
  rw [List.foldl_append]
  rfl
theorem pr_take {bs : List Nat} {i : Nat} (h : i < bs.length) : pr (bs.take (i + 1)) = pr (bs.take i) * bs[i] := by
  rw [List.take_add_one, List.getElem?_eq_getElem h]
  exact pr_snoc _ _
structure PlaceN (n : Nat) (ks : List Pl) : Prop where
  l : ∀ k ∈ ks, k.length = n
  c : ∀ k ∈ ks, ∀ x ∈ k, 0 ≤ x ∧ x < 8
theorem PlaceN.push {n : Nat} {ks : List Pl} {k : Pl} {m : Nat} (h : PlaceN (n + 1) ks) (hl : k.length = n) (hc : ∀ x ∈ k, 0 ≤ x ∧ x < 8) (hm : m < 8) : PlaceN (n + 1) (ks ++ [k ++ [(m : Int)]]) := by
  constructor
  · intro y hy
    rcases List.mem_append.mp hy with hy | hy
    · exact h.l y hy
    · rw [List.mem_singleton.mp hy, List.length_append, hl]
      rfl
  · intro y hy x hx
    rcases List.mem_append.mp hy with hy | hy
    · exact h.c y hy x hx
    · rw [List.mem_singleton.mp hy] at hx
      rcases List.mem_append.mp hx with hx | hx
      · exact hc x hx
      · rw [List.mem_singleton.mp hx]
        omega
section
variable {P : Program} {w : World} {K : PySem.W.Frag} {mg : Str → Option Value} {base : Heap}
/-- a box that is small -/
structure BoxOk (bs : List Nat) : Prop where
  n : bs.length ≤ 3
  w : ∀ n ∈ bs, n ≤ 8
  p : ∀ i, pr (bs.take i) ≤ 1000
def spPlaces (K : PySem.W.Frag) : Sp := fun vs H Q _ => ∃ (b : Addr) (bs : List Nat), vs = [.ref b] ∧ SqL K H b (bs.map fun (n : Nat) => V.int n) ∧ BoxOk bs ∧
  ∀ p ws ks H', Same H H' → H' p = some (.lst ws) → Pls H' ws ks → ks.length = pr bs → PlaceN bs.length ks → Q (.ref p) H'
theorem c__law_places {f : Addr} {fd : FuncData} (D : C8.Def K mg "_law_places" s__law_places f fd) (b : Binds K fd ["_law_box_here"] []) (T : Bi mg) : C8.Cal P w K mg base 1 "_law_places" (spPlaces K) [] := by
  refine C8.cal0 D b .nil sc__law_places (fun vs H Q E h => ?_) (fun cdv A outer s H vs Q E hr h => ?_)
  · obtain ⟨b, bs, rfl, _⟩ := h
    rfl
  · obtain ⟨b, bs, rfl, hB, ok, q⟩ := h
    refine ⟨_, (pss_cons (ps_set (i := 1) sc__law_places.nd rfl (Or.inl rfl) (pe_lst (pa_cons (pe_tup pa_nil) pa_nil)))
  (pss_cons (ps_for PassesOwn.never rfl (pi_list (pv 0)) (pg_name (i := 2) sc__law_places.nd rfl (Or.inl rfl)) (pss_cons (ps_set (i := 3) sc__law_places.nd rfl (Or.inl rfl) (pe_lst pa_nil))
  (pss_cons (ps_for PassesOwn.never rfl (pi_list (pe_callTy call_list_of (by rfl) T.n_list OT.b_list (pa_cons (pv 1) pa_nil))) (pg_name (i := 4) sc__law_places.nd rfl (Or.inl rfl)) (pss_one (ps_for PassesOwn.never rfl (pi_range1 rfl T.n_range (pa_cons (pv 2) pa_nil)) (pg_name (i := 5) sc__law_places.nd rfl (Or.inl rfl)) (pss_one (ps_expr (pe_bm PySem.F.plainAttrs_list PySem.F.slot_list_append PySem.F.type_list_append mt_append (pv 3) (pa_cons (pe_op op_catA (pv 4) (pe_tup (pa_cons (pv 5) pa_nil))) pa_nil)))))))
  (pss_one (ps_set (i := 1) sc__law_places.nd rfl (Or.inl rfl) (pv 3))))))
  (pss_one (ps_ret (pv 1))))), ?_⟩
    refine ⟨(by show 0 ≤ sizeLine; decide), fun t0 nt0 => ⟨(by show 1 ≤ sizeLine; decide), fun p0 np0 => ?_⟩⟩
    have s0 : Same H (upd H t0 (.tup [])) := same_upd nt0
    have s1 : Same (upd H t0 (.tup [])) (upd (upd H t0 (.tup [])) p0 (.lst [.ref t0])) := same_upd np0
    refine ⟨_, rfl, b, rfl, ⟨_, (s0.trans s1).seq hB⟩, ?_⟩
    refine for_list (K := K) (xs := bs.map fun (n : Nat) => V.int n) (fun i σ H2 => ∃ (p : Addr) (ws : List V) (ks : List Pl) (y2 y3 y4 y5 : Option V), σ = [some (.ref b), some (.ref p), y2, y3, y4, y5] ∧ Same H H2 ∧ H2 p = some (.lst ws) ∧ Pls H2 ws ks ∧ ks.length = pr (bs.take i) ∧ PlaceN i ks) ?_ ?_ ?_ ?_
    · refine ⟨p0, _, [[]], none, none, none, none, rfl, s0.trans s1, upd_same, .cons (s1 _ _ upd_same) .nil, rfl, ⟨fun k hk => ?_, fun k hk x hx => ?_⟩⟩
      · rw [List.mem_singleton.mp hk]
        rfl
      · rw [List.mem_singleton.mp hk] at hx
        cases hx
    · rintro i σ H2 _ ⟨_, _, _, _, _, _, _, _, sm, _⟩
      exact sm.seq hB
    · rintro i x σ H2 hx ⟨p, ws, ks, y2, y3, y4, y5, rfl, sm, hp, hW, hkl, hN⟩
      obtain ⟨hi, rfl⟩ := getm hx
      have hwi := ok.w _ (List.getElem_mem hi)
      have hpi := ok.p i
      have hpi1 := ok.p (i + 1)
      rw [pr_take hi] at hpi1
      generalize hbn : bs[i] = n at hwi hpi1 ⊢
      rw [← hkl] at hpi hpi1
      have hwl := hW.len
      refine ⟨Nat.zero_le _, fun D nD => ?_⟩
      have s2 : Same H2 (upd H2 D (.lst [])) := same_upd nD
      refine ⟨_, rfl, p, _, rfl, .inl (.inl (.inl (s2 _ _ hp))), fun l nl => ?_⟩
      have s3 : Same (upd H2 D (.lst [])) (upd (upd H2 D (.lst [])) l (.lst ws)) := same_upd nl
      refine ⟨l, rfl, ⟨_, .inl (.inl upd_same)⟩, ?_⟩
      have nDl : D ≠ l := ne_of_none upd_same nl
      refine for_list (K := K) (a := l) (xs := ws) (fun j σ H3 => ∃ (us : List V) (ls : List Pl) (z4 z5 : Option V), σ = [some (.ref b), some (.ref p), some (.int (n : Int)), some (.ref D), z4, z5] ∧ Same H2 H3 ∧ H3 l = some (.lst ws) ∧ H3 D = some (.lst us) ∧ Pls H3 us ls ∧ ls.length = j * n ∧ PlaceN (i + 1) ls) ?_ ?_ ?_ ?_
      · exact ⟨[], [], y4, y5, rfl, s2.trans s3, upd_same, s3 _ _ upd_same, .nil, by rw [Nat.zero_mul]; rfl, ⟨fun k hk => (by cases hk), fun k hk => (by cases hk)⟩⟩
      · rintro j σ H3 _ ⟨_, _, _, _, _, _, hl, _⟩
        exact .inl (.inl hl)
      · rintro j x σ H3 hxj ⟨us, ls, z4, z5, rfl, sm3, hl, hD, hU, hll, hN3⟩
        obtain ⟨a, k, rfl, hkk, hak⟩ := (hW.mono sm3).get hxj
        have hj := (List.getElem?_eq_some_iff.mp hkk).1
        have hkm := List.mem_of_getElem? hkk
        have hjn : (j + 1) * n ≤ ks.length * n := Nat.mul_le_mul_right _ hj
        rw [Nat.succ_mul] at hjn
        refine ⟨_, rfl, _, rfl, by omega, b62 (by omega), ?_⟩
        rw [Int.toNat_natCast]
        refine for_range (lo := 0) (n := n) (fun m σ H4 => ∃ (us : List V) (ls : List Pl) (z5 : Option V), σ = [some (.ref b), some (.ref p), some (.int (n : Int)), some (.ref D), some (.ref a), z5] ∧ Same H2 H4 ∧ H4 l = some (.lst ws) ∧ H4 D = some (.lst us) ∧ Pls H4 us ls ∧ ls.length = j * n + m ∧ PlaceN (i + 1) ls) ⟨us, ls, z5, rfl, sm3, hl, hD, hU, hll, hN3⟩ ?_ ?_
        · rintro m σ H4 hm ⟨us, ls, z5, rfl, sm4, hl4, hD4, hU4, hll4, hN4⟩
          have hak4 : H4 a = some (.tup (k.map V.int)) := by
            obtain ⟨a2, k2, e1, e2, e3⟩ := (hW.mono sm4).get hxj
            cases e1
            rw [hkk] at e2
            cases e2
            exact e3
          have hul := hU4.len
          have nl4 : ∀ {o : HO}, upd H4 D o l = H4 l := fun {o} => upd_ne (Ne.symm nDl)
          refine ⟨_, rfl, .inl ⟨rfl, _, .inl (.inl hD4)⟩, _, rfl, _, rfl, (by show 1 ≤ sizeLine; decide), fun t nt => ?_⟩
          have sm5 : Same H4 (upd H4 t (.tup [.int ((0 : Int) + (m : Int))])) := same_upd nt
          have hN5 := hN4.push (hN.l k hkm) (hN.c k hkm) (show m < 8 by omega)
          have hlen5 : (ls ++ [k ++ [(m : Int)]]).length = j * n + (m + 1) := by
            rw [List.length_append, hll4]
            rfl
          refine ⟨a, t, _, _, rfl, rfl, .inl (.inl (sm5 _ _ hak4)), .inl (.inl upd_same), ?_, fun h0 => ?_, fun _ h => (by cases h), fun _ _ u nu => ?_⟩
          · rw [List.length_map, hN.l k hkm]
            exact Nat.le_of_lt (small1000 (by show i + 1 ≤ 1000; have := ok.n; omega))
          · have hk0 : k = [] := List.map_eq_nil_iff.mp h0
            have hD5 := sm5 _ _ hD4
            refine ⟨D, us, _, rfl, rfl, hD5, small100k (by omega), ?_⟩
            refine ⟨us ++ [.ref t], ls ++ [k ++ [(m : Int)]], _, rfl, same_mut (sm4.trans sm5) nD, ?_, upd_same, ((hU4.mono sm5).app (.cons ?_ .nil)).updL hD5, hlen5, hN5⟩
            · rw [upd_ne (Ne.symm nDl)]
              exact sm5 _ _ hl4
            · rw [upd_same, hk0, Int.zero_add]
              rfl
          · have sm6 : Same (upd H4 t (.tup [.int ((0 : Int) + (m : Int))])) (upd (upd H4 t (.tup [.int ((0 : Int) + (m : Int))])) u (.tup (k.map V.int ++ [.int ((0 : Int) + (m : Int))]))) := same_upd nu
            have sm7 := sm5.trans sm6
            have hD5 := sm7 _ _ hD4
            refine ⟨D, us, _, rfl, rfl, hD5, small100k (by omega), ?_⟩
            refine ⟨us ++ [.ref u], ls ++ [k ++ [(m : Int)]], _, rfl, same_mut (sm4.trans sm7) nD, ?_, upd_same, ((hU4.mono sm7).app (.cons ?_ .nil)).updL hD5, hlen5, hN5⟩
            · rw [upd_ne (Ne.symm nDl)]
              exact sm7 _ _ hl4
            · rw [upd_same, List.map_append, Int.zero_add]
              rfl
        · rintro σ H4 ⟨us, ls, z5, rfl, sm4, hl4, hD4, hU4, hll4, hN4⟩
          exact ⟨us, ls, _, _, rfl, sm4, hl4, hD4, hU4, by rw [hll4, Nat.succ_mul], hN4⟩
      · rintro σ H3 ⟨us, ls, z4, z5, rfl, sm3, hl, hD, hU, hll, hN3⟩
        refine ⟨_, rfl, D, us, ls, _, _, _, _, rfl, sm.trans sm3, hD, hU, ?_, hN3⟩
        rw [hll, hwl, hkl, pr_take hi, hbn]
    · rintro σ H2 ⟨p, ws, ks, y2, y3, y4, y5, rfl, sm, hp, hW, hkl, hN⟩
      rw [List.length_map] at hkl hN
      rw [List.take_length] at hkl
      exact ⟨_, rfl, q p ws ks H2 sm hp hW hkl hN⟩
end
end OT

set_option Elab.async false
set_option linter.all false
set_option maxRecDepth 100000
set_option maxHeartbeats 2000000
namespace OT
open PySem PySem.Spec PyProof.Rows L2
/-- a row that is drawn: at most m places of n coordinates -/
structure DrawnR (n m c u : Nat) (r : List Ent) : Prop where
  v : Valid r
  m : r.length ≤ m
  n : ∀ e ∈ r, e.1.length = n
  c : ∀ e ∈ r, ∀ x ∈ e.1, x.natAbs ≤ c
  u : ∀ e ∈ r, e.2.natAbs ≤ u
section
variable {P : Program} {w : World} {K : PySem.W.Frag} {mg : Str → Option Value} {base : Heap}
def spDrawn (K : PySem.W.Frag) : Sp := fun vs H Q _ => ∃ (c : Int) (b : Addr) (bs : List Nat) (rc mv : Nat), vs = [.int c, .ref b, .int (rc : Int), .int (mv : Int)] ∧ SqL K H b (bs.map fun (n : Nat) => V.int n) ∧ BoxOk bs ∧ 1 ≤ bs.length ∧ pr bs ≤ 900 ∧ rc ≤ 1000 ∧ mv ≤ 100000 ∧
  ∀ p ws r H', Same H H' → H p = none → H' p = some (.lst ws) → Ents H' ws r → DrawnR bs.length (pr bs) (8 + mv) (pr bs * rc) r → Q (.ref p) H'
theorem rep_get {n : Nat} {z : Int} {i : Nat} (h : i < n) (ys : List Int) : (List.replicate n z ++ ys)[i]? = some z := by
  rw [List.getElem?_append_left (by rw [List.length_replicate]; exact h), List.getElem?_replicate, if_pos h]
theorem rep_get2 {n m : Nat} {y z : Int} {i : Nat} (h : i < m) : (List.replicate n y ++ List.replicate m z)[n + i]? = some z := by
  rw [List.getElem?_append_right (by rw [List.length_replicate]; exact Nat.le_add_right _ _), List.length_replicate, Nat.add_sub_cancel_left, List.getElem?_replicate, if_pos h]
theorem c__law_drawn {f : Addr} {fd : FuncData} (D : C8.Def K mg "_law_drawn" s__law_drawn f fd) (b : Binds K fd ["_law_cell_here", "_law_box_here", "_law_reach", "_law_moves"] []) (T : Bi mg) (c__law_places : C8.Cal P w K mg base 1 "_law_places" (spPlaces K) []) (c__law_draws : C8.Cal P w K mg base 1 "_law_draws" (spDraws K) [])
    (c__law_row : C8.Cal P w K mg base 1 "_law_row" (spGather K) []) (c__law_moved : C8.Cal P w K mg base 2 "_law_moved" (spMoved K) []) : C8.Cal P w K mg base 3 "_law_drawn" (spDrawn K) [] := by
  refine C8.cal0 D b .nil sc__law_drawn (fun vs H Q E h => ?_) (fun cdv A outer s H vs Q E hr h => ?_)
  · obtain ⟨c, b, bs, rc, mv, rfl, _⟩ := h
    rfl
  · obtain ⟨c, b, bs, rc, mv, rfl, hB, ok, hb1, hpr, hrc, hmv, q⟩ := h
    refine ⟨_, (pss_cons (ps_set (i := 4) sc__law_drawn.nd rfl (Or.inr rfl) (C8.pe_c c__law_places hr (by decide) (by rfl) (pa_cons (pv 1) pa_nil)))
  (pss_cons (ps_set (i := 5) sc__law_drawn.nd rfl (Or.inr rfl) (C8.pe_c c__law_draws hr (by decide) (by rfl) (pa_cons (pv 0) (pa_cons (pe_op op_cat (pe_lc (own := [("_law_k", 7)]) (g := (gName 7)) (tt := tYes) rfl sc__law_drawn.nd (pi_list (pv 4)) (blkOk_by (N := ["_law_cell_here", "_law_box_here", "_law_reach", "_law_moves", "_law_places_here", "_law_draws_here", "_law_by", "_law_k"]) (sc := C8.fnScope s__law_drawn) (by decide +kernel)) (fun _ _ _ _ _ => (pg_name (i := 7) sc__law_drawn.nd rfl (Or.inl rfl))) (fun _ _ _ _ _ => pts_nil) (fun _ _ _ _ _ => (pe_op op_add (pe_op op_mul pe_int (pv 2)) pe_int))) (pe_lc (own := [("_law_k", 7)]) (g := (gName 7)) (tt := tYes) rfl sc__law_drawn.nd (pi_list (pv 1)) (blkOk_by (N := ["_law_cell_here", "_law_box_here", "_law_reach", "_law_moves", "_law_places_here", "_law_draws_here", "_law_by", "_law_k"]) (sc := C8.fnScope s__law_drawn) (by decide +kernel)) (fun _ _ _ _ _ => (pg_name (i := 7) sc__law_drawn.nd rfl (Or.inl rfl))) (fun _ _ _ _ _ => pts_nil) (fun _ _ _ _ _ => (pe_op op_add (pe_op op_mul pe_int (pv 3)) pe_int)))) pa_nil))))
  (pss_cons (ps_set (i := 6) sc__law_drawn.nd rfl (Or.inl rfl) (pe_callTy call_tuple_of (by rfl) T.n_tuple OT.b_tuple (pa_cons (pe_lc (own := [("_law_k", 7)]) (g := (gName 7)) (tt := tYes) rfl sc__law_drawn.nd (pi_range1 rfl T.n_range (pa_cons (pe_callB call_len_seq (by rfl) T.n_len OT.b_len (pa_cons (pv 1) pa_nil)) pa_nil)) (blkOk_by (N := ["_law_cell_here", "_law_box_here", "_law_reach", "_law_moves", "_law_places_here", "_law_draws_here", "_law_by", "_law_k"]) (sc := C8.fnScope s__law_drawn) (by decide +kernel)) (fun _ _ _ _ _ => (pg_name (i := 7) sc__law_drawn.nd rfl (Or.inl rfl))) (fun _ _ _ _ _ => pts_nil) (fun _ _ _ _ _ => (pe_op op_sub (pe_ix (show IxR _ (rIxL K) from ix_list) (pv 5) (pe_op op_add (pe_callB (show CallR _ _ (Evl.rLenS K) from call_len_seq) (by rfl) T.n_len OT.b_len (pa_cons (pv 4) pa_nil)) (pv 7)) (fun _ _ => rfl)) (pv 3)))) pa_nil)))
  (pss_one (ps_ret (C8.pe_c c__law_moved hr (by decide) (by rfl) (pa_cons (C8.pe_c c__law_row hr (by decide) (by rfl) (pa_cons (pe_lc (own := [("_law_k", 7)]) (g := (gName 7)) (tt := tYes) rfl sc__law_drawn.nd (pi_range1 rfl T.n_range (pa_cons (pe_callB call_len_seq (by rfl) T.n_len OT.b_len (pa_cons (pv 4) pa_nil)) pa_nil)) (blkOk_by (N := ["_law_cell_here", "_law_box_here", "_law_reach", "_law_moves", "_law_places_here", "_law_draws_here", "_law_by", "_law_k"]) (sc := C8.fnScope s__law_drawn) (by decide +kernel)) (fun _ _ _ _ _ => (pg_name (i := 7) sc__law_drawn.nd rfl (Or.inl rfl))) (fun _ _ _ _ _ => pts_nil) (fun _ _ _ _ _ => (pe_tup (pa_cons (pe_ix (show IxR _ (rIxL K) from ix_list) (pv 4) (pv 7) (fun _ _ => rfl)) (pa_cons (pe_op op_sub (pe_ix (show IxR _ (rIxL K) from ix_list) (pv 5) (pv 7) (fun _ _ => rfl)) (pv 2)) pa_nil))))) pa_nil)) (pa_cons (pv 6) pa_nil)))))))), ?_⟩
    refine ⟨_, rfl, b, bs, rfl, hB, ok, fun p ws ks H1 sm1 hp hW hkl hN => ?_⟩
    have hS : SqL K H1 p ws := .inl (.inl hp)
    have hwl := hW.len
    have hbn := ok.n
    refine ⟨_, rfl, _, rfl, p, rfl, ⟨_, hS⟩, fun D1 nD1 => ?_⟩
    refine lc_list (K := K) (xs := ws) (fun i H2 => Same H1 H2 ∧ H2 D1 = some (.lst (List.replicate i (V.int (2 * (rc : Int) + 1))))) ⟨same_upd nD1, upd_same⟩ ?_ ?_ ?_
    · rintro i H2 _ ⟨sm, _⟩
      exact sm.seq hS
    · rintro i x H2 hx ⟨sm, hD⟩
      have hi := (List.getElem?_eq_some_iff.mp hx).1
      refine ⟨rfl, tYes_of ?_⟩
      refine ⟨_, rfl, _, _, rfl, rfl, .inl ⟨by decide, by decide⟩, _, _, rfl, rfl, _, hD, ?_, same_mut sm nD1, ?_⟩
      · rw [List.length_replicate]
        exact small1000 (by omega)
      · rw [upd_same, List.replicate_succ']
    rintro H2 ⟨sm2, hD1⟩
    have sA := sm1.trans sm2
    refine ⟨_, rfl, b, rfl, ⟨_, sA.seq hB⟩, fun D2 nD2 => ?_⟩
    refine lc_list (K := K) (xs := bs.map fun (n : Nat) => V.int n) (fun i H3 => Same H2 H3 ∧ H3 D2 = some (.lst (List.replicate i (V.int (2 * (mv : Int) + 1))))) ⟨same_upd nD2, upd_same⟩ ?_ ?_ ?_
    · rintro i H3 _ ⟨sm, _⟩
      exact (sA.trans sm).seq hB
    · rintro i x H3 hx ⟨sm, hD⟩
      have hi := (List.getElem?_eq_some_iff.mp hx).1
      rw [List.length_map] at hi
      refine ⟨rfl, tYes_of ?_⟩
      refine ⟨_, rfl, _, _, rfl, rfl, .inl ⟨by decide, by decide⟩, _, _, rfl, rfl, _, hD, ?_, same_mut sm nD2, ?_⟩
      · rw [List.length_replicate]
        exact small1000 (by omega)
      · rw [upd_same, List.replicate_succ']
    rintro H3 ⟨sm3, hD2⟩
    rw [List.length_map] at hD2
    refine ⟨D1, D2, _, _, rfl, rfl, sm3 _ _ hD1, hD2, ?_, fun p3 np3 => ?_⟩
    · rw [List.length_replicate, List.length_replicate]
      exact Nat.le_of_lt (small1000 (by omega))
    let zs : List Int := List.replicate ws.length (2 * (rc : Int) + 1) ++ List.replicate bs.length (2 * (mv : Int) + 1)
    have hzl : zs.length = ws.length + bs.length := by
      show (_ ++ _ : List Int).length = _
      rw [List.length_append, List.length_replicate, List.length_replicate]
    have hzm : zs.map V.int = List.replicate ws.length (V.int (2 * (rc : Int) + 1)) ++ List.replicate bs.length (V.int (2 * (mv : Int) + 1)) := by
      show (_ ++ _ : List Int).map V.int = _
      rw [List.map_append, List.map_replicate, List.map_replicate]
    have sB := (sA.trans sm3).trans (same_upd (o := .lst (List.replicate ws.length (V.int (2 * (rc : Int) + 1)) ++ List.replicate bs.length (V.int (2 * (mv : Int) + 1)))) np3)
    have sB1 := (sm2.trans sm3).trans (same_upd (o := .lst (List.replicate ws.length (V.int (2 * (rc : Int) + 1)) ++ List.replicate bs.length (V.int (2 * (mv : Int) + 1)))) np3)
    refine ⟨p3, zs, c, rfl, .inl (.inl ?_), by omega, fun z hz => ?_, fun ds H4 p4 hin sm4 np4 hp4 => ?_⟩
    · rw [upd_same, hzm]
    · rcases List.mem_append.mp hz with hz | hz
      · rw [(List.mem_replicate.mp hz).2]
        omega
      · rw [(List.mem_replicate.mp hz).2]
        omega
    have sC := sB.trans sm4
    have sC1 := sB1.trans sm4
    have L4 : SqL K H4 p4 (ds.map V.int) := .inl (.inl hp4)
    refine ⟨_, rfl, b, _, rfl, .inl (sC.seq hB), _, rfl, by omega, b62 (by rw [List.length_map]; omega), fun p5 np5 => ?_⟩
    rw [List.length_map, Int.toNat_natCast]
    refine lc_range (lo := 0) (n := bs.length) (fun i H5 => ∃ ys : List Int, ys.length = i ∧ (∀ y ∈ ys, y.natAbs ≤ mv) ∧ Same H4 H5 ∧ H5 p5 = some (.lst (ys.map V.int))) ⟨[], rfl, fun y hy => (by cases hy), same_upd np5, upd_same⟩ ?_ ?_
    · rintro i H5 hi ⟨ys, hyl, hyb, sm5, hp5⟩
      obtain ⟨d, gd, gda, gdb⟩ := hin.get (i := ws.length + i) (rep_get2 hi)
      refine ⟨rfl, tYes_of ?_⟩
      have hix : atI (ds.map V.int) (((ws.length : Nat) : Int) + ((0 : Int) + (i : Int))) = some (.int d) := by
        rw [show ((ws.length : Nat) : Int) + ((0 : Int) + (i : Int)) = ((ws.length + i : Nat) : Int) by omega]
        exact atI_nat gd
      refine ⟨_, rfl, _, rfl, p, _, rfl, .inl ((sC1.trans sm5).seq hS), _, rfl, _, _, rfl, rfl, p4, _, _, _, rfl, rfl, sm5.seq L4, hix, ?_⟩
      refine ⟨_, rfl, _, _, rfl, rfl, ?_⟩
      refine ⟨_, hp5, ?_, ys ++ [d - (mv : Int)], by rw [List.length_append, hyl]; rfl, fun y hy => ?_, same_mut sm5 np5, ?_⟩
      · rw [List.length_map]
        exact small1000 (by omega)
      · rcases List.mem_append.mp hy with hy | hy
        · exact hyb y hy
        · rw [List.mem_singleton.mp hy]
          omega
      · rw [upd_same, List.map_append]
        rfl
    rintro H5 ⟨ys, hyl, hyb, sm5, hp5⟩
    refine ⟨p5, _, rfl, .inl ⟨.inl (.inl hp5), fun bt nbt => ?_⟩⟩
    have sm6 := sm5.trans (same_upd (o := .tup (ys.map V.int)) nbt)
    have hbt : (upd H5 bt (.tup (ys.map V.int))) bt = some (.tup (ys.map V.int)) := upd_same
    generalize upd H5 bt (.tup (ys.map V.int)) = H6 at sm6 hbt ⊢
    have sD := sC.trans sm6
    have sD1 := sC1.trans sm6
    refine ⟨_, rfl, p, _, rfl, .inl (sD1.seq hS), _, rfl, by omega, b62 (by omega), fun p7 np7 => ?_⟩
    rw [Int.toNat_natCast]
    refine lc_range (lo := 0) (n := ws.length) (fun i H7 => ∃ (us : List V) (es : List Ent), es.length = i ∧ Same H6 H7 ∧ H7 p7 = some (.lst us) ∧ Ents H7 us es ∧ (∀ e ∈ es, e.1 ∈ ks) ∧ ∀ e ∈ es, e.2.natAbs ≤ rc) ⟨[], [], rfl, same_upd np7, upd_same, .nil, fun e he => (by cases he), fun e he => (by cases he)⟩ ?_ ?_
    · rintro i H7 hi ⟨us, es, hel, sm7, hp7, hU, hek, hen⟩
      obtain ⟨d, gd, gda, gdb⟩ := hin.get (i := i) (rep_get hi _)
      have hWs := hW.mono (sD1.trans sm7)
      obtain ⟨a, k, ea, hk, hak⟩ := hWs.get (List.getElem?_eq_getElem hi)
      have hix : atI ws ((0 : Int) + (i : Int)) = some (.ref a) := by
        rw [Int.zero_add, ← ea]
        exact atI_nat (List.getElem?_eq_getElem hi)
      have hid : atI (ds.map V.int) ((0 : Int) + (i : Int)) = some (.int d) := by
        rw [Int.zero_add]
        exact atI_nat gd
      refine ⟨rfl, tYes_of ?_⟩
      refine ⟨_, rfl, _, rfl, p, _, _, _, rfl, rfl, (sD1.trans sm7).seq hS, hix, _, rfl, _, rfl, p4, _, _, _, rfl, rfl, (sm6.trans sm7).seq L4, hid, _, rfl, _, _, rfl, rfl, (by show 2 ≤ sizeLine; decide), fun t nt => ?_⟩
      have smt : Same H7 (upd H7 t (.tup [.ref a, .int (d - (rc : Int))])) := same_upd nt
      have hv : EntAt (upd H7 t (.tup [.ref a, .int (d - (rc : Int))])) (.ref t) (k, d - (rc : Int)) := ⟨t, a, rfl, upd_same, smt _ _ hak⟩
      have hul := hU.len
      refine ⟨us, smt _ _ hp7, small1000 (by omega), us ++ [.ref t], es ++ [(k, d - (rc : Int))], by rw [List.length_append, hel]; rfl, same_mut (sm7.trans smt) np7, upd_same, ((hU.mono smt).app (.cons hv .nil)).updL (smt _ _ hp7), fun e he => ?_, fun e he => ?_⟩
      · rcases List.mem_append.mp he with he | he
        · exact hek e he
        · rw [List.mem_singleton.mp he]
          exact List.mem_of_getElem? hk
      · rcases List.mem_append.mp he with he | he
        · exact hen e he
        · rw [List.mem_singleton.mp he]
          show (d - (rc : Int)).natAbs ≤ rc
          omega
    rintro H7 ⟨us, es, hel, sm7, hp7, hU, hek, hen⟩
    have hel2 : es.length ≤ pr bs := by omega
    refine ⟨p7, us, es, rfl, ⟨.inl (.inl hp7), hU, small1000 (by omega)⟩, fun e he z => ?_, fun r p8 rws H8 hr sm8 np8 hp8 he8 => ?_⟩
    · have := hN.l e.1 (hek e he)
      rw [z] at this
      have h0 : (0 : Nat) = bs.length := this
      omega
    have hrl := hr.len
    have hrk : ∀ e ∈ r, e.1 ∈ ks := fun e he => by
      obtain ⟨x, hx, ex⟩ := hr.mem he
      rw [← ex]
      exact hek x hx
    have hrn := hr.bound hen
    have hle : ∀ e ∈ r, e.1.length ≤ ys.length := fun e he => by
      rw [hN.l _ (hrk e he), hyl]
      exact Nat.le_refl _
    refine ⟨_, rfl, p8, bt, rws, r, ys, rfl, ⟨.inl (.inl hp8), he8, small1000 (by omega)⟩, .inl (.inl ((sm7.trans sm8) _ _ hbt)), hle, by omega, fun p9 ws9 H9 sm9 np9 hp9 he9 => ?_⟩
    have sZ := sD.trans (sm7.trans sm8)
    refine q p9 ws9 (movL r ys) H9 (sZ.trans sm9) ?_ hp9 he9 ⟨movL_valid hr.v hle, ?_, fun e he => ?_, fun e he x hx => ?_, fun e he => ?_⟩
    · cases z : H p9 with
      | none => rfl
      | some o =>
        rw [sZ _ _ z] at np9
        cases np9
    · unfold movL
      rw [List.length_map]
      omega
    · obtain ⟨y, hy, rfl⟩ := List.mem_map.mp he
      show (plusP y.1 ys).length = _
      rw [plusP_len (hle y hy)]
      exact hN.l _ (hrk y hy)
    · obtain ⟨y, hy, rfl⟩ := List.mem_map.mp he
      obtain ⟨a, ha, b2, hb2, rfl⟩ := plusP_mem hx
      have h1 := hN.c _ (hrk y hy) a ha
      have h2 := hyb b2 hb2
      omega
    · obtain ⟨y, hy, rfl⟩ := List.mem_map.mp he
      exact Nat.le_trans (hrn y hy) (Nat.mul_le_mul_right _ hel2)
end
end OT

set_option Elab.async false
set_option linter.all false
set_option maxRecDepth 100000
set_option maxHeartbeats 2000000
namespace OT
open PySem PySem.Spec PyProof.Rows L2
section
variable {P : Program} {w : World} {K : PySem.W.Frag} {mg : Str → Option Value} {base : Heap}
theorem take_cases {bs : List Nat} (hl : bs.length ≤ 3) (i : Nat) : bs.take i = bs.take 0 ∨ bs.take i = bs.take 1 ∨ bs.take i = bs.take 2 ∨ bs.take i = bs.take 3 := by
  match i with
  | 0 => exact .inl rfl
  | 1 => exact .inr (.inl rfl)
  | 2 => exact .inr (.inr (.inl rfl))
  | n + 3 => exact .inr (.inr (.inr (by rw [List.take_of_length_le (by omega), List.take_of_length_le hl])))
theorem box4 {bs : List Nat} (h : bs = [4] ∨ bs = [4, 2] ∨ bs = [2, 2, 2]) : BoxOk bs ∧ pr bs ≤ 8 ∧ 1 ≤ bs.length := by
  have key : ∀ bs : List Nat, bs.length ≤ 3 → (∀ n ∈ bs, n ≤ 8) → pr (bs.take 0) ≤ 1000 → pr (bs.take 1) ≤ 1000 → pr (bs.take 2) ≤ 1000 → pr (bs.take 3) ≤ 1000 → BoxOk bs := fun bs h1 h2 a b c d => by
    refine ⟨h1, h2, fun i => ?_⟩
    rcases take_cases h1 i with e | e | e | e <;> rw [e] <;> assumption
  rcases h with rfl | rfl | rfl
  · exact ⟨key _ (by decide) (by decide) (by decide) (by decide) (by decide) (by decide), by decide, by decide⟩
  · exact ⟨key _ (by decide) (by decide) (by decide) (by decide) (by decide) (by decide), by decide, by decide⟩
  · exact ⟨key _ (by decide) (by decide) (by decide) (by decide) (by decide) (by decide), by decide, by decide⟩
def zsR : List Int := [3, 4, 8, 2]
def spDR (K : PySem.W.Frag) : Sp := fun vs H Q _ => ∃ (a d : Addr) (ns ds : List Int), vs = [.ref a, .ref d] ∧ SqL K H a (ns.map V.int) ∧ SqL K H d (ds.map V.int) ∧ InR ds zsR ∧
  ∀ p ws r H', Same H H' → H p = none → H' p = some (.lst ws) → Ents H' ws r → (∀ e ∈ r, SmallE e) → r.length ≤ 8 → Q (.ref p) H'
theorem c__law_drawn_row {f : Addr} {fd : FuncData} (D : C8.Def K mg "_law_drawn_row" s__law_drawn_row f fd) (b : Binds K fd ["_law_script", "_law_draws_here"] []) (T : Bi mg) (c__law_cell : C8.Cal P w K mg base 1 "_law_cell" (spCell K) []) (c__law_draws : C8.Cal P w K mg base 1 "_law_draws" (spDraws K) [])
    (c__law_box : C8.Cal P w K mg base 1 "_law_box" (spBox K) []) (c__law_drawn : C8.Cal P w K mg base 3 "_law_drawn" (spDrawn K) []) : C8.Cal P w K mg base 4 "_law_drawn_row" (spDR K) [] := by
  refine C8.cal0 D b .nil sc__law_drawn_row (fun vs H Q E h => ?_) (fun cdv A outer s H vs Q E hr h => ?_)
  · obtain ⟨a, d, ns, ds, rfl, _⟩ := h
    rfl
  · obtain ⟨a, d, ns, ds, rfl, hS, hd, hin, q⟩ := h
    refine ⟨_, (pss_cons (ps_set (i := 2) sc__law_drawn_row.nd rfl (Or.inl rfl) (C8.pe_c c__law_drawn hr (by decide) (by rfl) (pa_cons (C8.pe_c c__law_cell hr (by decide) (by rfl) (pa_cons (pv 0) (pa_cons pe_int pa_nil))) (pa_cons (C8.pe_c c__law_box hr (by decide) (by rfl) (pa_cons (pe_ix ix_list (pv 1) pe_int (fun _ _ => rfl)) (pa_cons pe_int pa_nil))) (pa_cons pe_int (pa_cons pe_int pa_nil))))))
  (pss_cons (ps_set (i := 3) sc__law_drawn_row.nd rfl (Or.inl rfl) (pe_op op_add pe_int (pe_ix ix_list (C8.pe_c c__law_draws hr (by decide) (by rfl) (pa_cons (C8.pe_c c__law_cell hr (by decide) (by rfl) (pa_cons (pv 0) (pa_cons pe_int pa_nil))) (pa_cons (pe_lst (pa_cons (pe_op op_pow pe_int pe_int) pa_nil)) pa_nil))) pe_int (fun _ _ => rfl))))
  (C8.pss_cut (ps_if (pt_cmpR op_eq (pe_ix ix_list (pv 1) pe_int (fun _ _ => rfl)) pe_int (nomark _)) (pss_one (ps_set (i := 3) sc__law_drawn_row.nd rfl (Or.inl rfl) (pe_op op_pow pe_int pe_int))) pss_nil)
  (pss_cons (ps_if (PW.pt (pw_and (pt_cmpR op_gt (pe_callB call_len_seq (by rfl) T.n_len OT.b_len (pa_cons (pv 2) pa_nil)) pe_int (nomark _)) (pw_and1 (pt_cmpR op_gt (pe_ix ix_list (pv 1) pe_int (fun _ _ => rfl)) pe_int (nomark _))))) (pss_cons (ps_set (i := 4) sc__law_drawn_row.nd rfl (Or.inl rfl) (pe_op op_mod (pe_callTy call_int1 (by rfl) T.n_int OT.b_int (pa_cons (pe_ix ix_list (pv 1) pe_int (fun _ _ => rfl)) pa_nil)) (pe_callB call_len_seq (by rfl) T.n_len OT.b_len (pa_cons (pv 2) pa_nil))))
  (pss_one (ps_asg (pe_tup (pa_cons (pe_ix ix_tup (pe_ix ix_list (pv 2) (pv 4) (fun _ _ => rfl)) pe_int (fun _ _ => rfl)) (pa_cons (pe_op op_mul (pv 3) (pe_op op_sub pe_int (pe_op op_mul pe_int (pe_ix ix_list (pv 1) pe_int (fun _ _ => rfl))))) pa_nil))) (pg_sub (pv 2) (pv 4) set_list)))) pss_nil)
  (pss_one (ps_ret (pv 2))))))), ?_⟩
    obtain ⟨d0, g0, g0a, g0b⟩ := hin.get (i := 0) (z := 3) rfl
    obtain ⟨d1, g1, g1a, g1b⟩ := hin.get (i := 1) (z := 4) rfl
    obtain ⟨d2, g2, g2a, g2b⟩ := hin.get (i := 2) (z := 8) rfl
    obtain ⟨d3, g3, g3a, g3b⟩ := hin.get (i := 3) (z := 2) rfl
    obtain ⟨k0, rfl⟩ := Int.eq_ofNat_of_zero_le g0a
    refine ⟨_, rfl, a, ns, 1, rfl, hS, by decide, fun c => ?_⟩
    refine ⟨_, rfl, d, _, 0, _, rfl, rfl, hd, atI_nat (j := 0) g0, k0, 4, rfl, by omega, fun pb bs H1 hbs hbl sm1 hpb => ?_⟩
    obtain ⟨ok, hpr, hb1⟩ := box4 hbs
    refine ⟨c, pb, bs, 3, 8, rfl, .inl (.inl hpb), ok, hb1, by omega, by decide, by decide, fun p ws r H2 sm2 np2 hp hE hR => ?_⟩
    have sA := sm1.trans sm2
    have npH : H p = none := by
      cases z : H p with
      | none => rfl
      | some o =>
        rw [sm1 _ _ z] at np2
        cases np2
    refine ⟨_, rfl, a, ns, 2, rfl, sA.seq hS, by decide, fun c2 => ?_⟩
    refine ⟨10, 12, rfl, rfl, ⟨by decide, by decide⟩, (by show 1 ≤ sizeLine; decide), fun p3 np3 => ?_⟩
    have sm3 : Same H2 (upd H2 p3 (.lst [.int ((10 : Int) ^ (12 : Int).toNat)])) := same_upd np3
    refine ⟨p3, [(10 : Int) ^ (12 : Int).toNat], c2, rfl, .inl (.inl upd_same), by decide, by decide, fun es2 H4 p4 hin4 sm4 np4 hp4 => ?_⟩
    obtain ⟨e0, ge, gea, geb⟩ := hin4.get (i := 0) (z := (10 : Int) ^ (12 : Int).toNat) rfl
    have h12 : ((10 : Int) ^ (12 : Int).toNat) = 1000000000000 := by decide
    rw [h12] at geb
    have smB := sm3.trans sm4
    refine ⟨p4, _, 0, _, rfl, rfl, .inl (.inl hp4), atI_nat (j := 0) ge, _, _, rfl, rfl, ?_⟩
    have hd4 := (sA.trans smB).seq hd
    have hp4' := smB _ _ hp
    have hE4 := hE.mono smB
    have npp : p4 ≠ p := (ne_of_none (sm3 _ _ hp) np4).symm
    have sC := sA.trans smB
    have hsm : ∀ e ∈ r, SmallE e := fun e he => by
      refine ⟨?_, fun x hx => ?_, ?_⟩
      · rw [hR.n e he]
        exact ok.n
      · exact Nat.lt_of_le_of_lt (hR.c e he x hx) (by decide)
      · have h1 := hR.u e he
        have h2 : pr bs * 3 ≤ 8 * 3 := Nat.mul_le_mul_right _ hpr
        have : (10 : Nat) ^ 13 = 10000000000000 := by decide
        omega
    have hrl := hR.m
    have hwl := hE.len
    refine ⟨fun σ H5 => ∃ g : Int, σ = [some (.ref a), some (.ref d), some (.ref p), some (.int g), none] ∧ H5 = H4 ∧ 1 ≤ g ∧ g ≤ 1000000000000, ?_, ?_⟩
    · refine ⟨_, rfl, d, _, 1, _, rfl, rfl, hd4, atI_nat (j := 1) g1, rfl, _, rfl, iteD (fun _ => ?_) (fun _ => ?_)⟩
      · exact ⟨10, 12, rfl, rfl, ⟨by decide, by decide⟩, _, rfl, rfl, by decide, by decide⟩
      · exact ⟨_, rfl, rfl, by omega, by omega⟩
    · rintro σ H5 ⟨g, rfl, rfl, hg1, hg2⟩
      have hS5 : SqL K H5 p ws := .inl (.inl hp4')
      refine ⟨_, rfl, p, _, rfl, .inl hS5, _, _, rfl, rfl, _, rfl, iteD (fun h0 => ?_) (fun _ => iteF ?_)⟩
      · refine ⟨_, rfl, d, _, 1, _, rfl, rfl, hd4, atI_nat (j := 1) g1, _, _, rfl, rfl, _, rfl, iteD (fun _ => ?_) (fun _ => ?_)⟩
        · have hpos : 0 < ws.length := by omega
          obtain ⟨j, ej, hj⟩ := mod_nat hpos d2
          obtain ⟨v, hv, t, pe, rfl, ht, hpe⟩ := hE4.at (i := j) (by omega)
          have hix : atI ws (d2 % (ws.length : Int)) = some (.ref t) := by
            rw [ej]
            exact atI_nat hv
          refine ⟨_, rfl, d, _, 2, _, rfl, rfl, hd4, atI_nat (j := 2) g2, .inl ⟨_, rfl, _, rfl, p, _, rfl, .inl hS5, _, _, rfl, rfl, (by show (0 : Int) < (ws.length : Int); omega), ?_⟩⟩
          refine ⟨_, rfl, _, rfl, p, _, _, _, rfl, rfl, hS5, hix, t, _, 0, _, rfl, rfl, .inl (.inl ht), atI_nat (j := 0) rfl, ?_⟩
          refine ⟨_, rfl, _, rfl, d, _, 3, _, rfl, rfl, hd4, atI_nat (j := 3) g3, _, _, rfl, rfl, .inl ⟨by decide, by decide⟩, _, _, rfl, rfl, g, _, rfl, rfl, .inl ⟨?_, ?_⟩, (by show 2 ≤ sizeLine; decide), fun t6 nt6 => ?_⟩
          · have : (2 : Int) ^ 64 = 18446744073709551616 := by decide
            omega
          · have : (2 : Int) ^ 64 = 18446744073709551616 := by decide
            omega
          have sm6 : Same H5 (upd H5 t6 (.tup [.ref pe, .int (g * (1 - 2 * d3))])) := same_upd nt6
          have hp6 := sm6 _ _ hp4'
          have hv6 : EntAt (upd H5 t6 (.tup [.ref pe, .int (g * (1 - 2 * d3))])) (.ref t6) (r[j].1, g * (1 - 2 * d3)) := ⟨t6, pe, rfl, upd_same, sm6 _ _ hpe⟩
          refine ⟨_, rfl, _, rfl, p, ws, _, j, rfl, rfl, hp6, ?_, ?_⟩
          · show ixN ws.length (d2 % (ws.length : Int)) = some j
            rw [ej]
            exact ixN_nat hj
          · refine ⟨_, rfl, q p _ (r.set j (r[j].1, g * (1 - 2 * d3))) _ (same_mut (sC.trans sm6) npH) npH upd_same (((hE4.mono sm6).set hv6 j).updL hp6) (fun e he => ?_) ?_⟩
            · rcases List.mem_or_eq_of_mem_set he with he | rfl
              · exact hsm e he
              · have hj2 := hsm r[j] (List.getElem_mem _)
                refine ⟨hj2.l, hj2.c, ?_⟩
                show (g * (1 - 2 * d3)).natAbs < 10 ^ 13
                have h1 : (10 : Nat) ^ 13 = 10000000000000 := by decide
                rcases (show d3 = 0 ∨ d3 = 1 by omega) with rfl | rfl
                · rw [show g * (1 - 2 * 0) = g by omega]
                  omega
                · rw [show g * (1 - 2 * 1) = -g by omega]
                  omega
            · rw [List.length_set]
              omega
        · exact ⟨_, rfl, q p ws r _ sC npH hp4' hE4 hsm (by omega)⟩
      · exact ⟨_, rfl, q p ws r _ sC npH hp4' hE4 hsm (by omega)⟩
end
end OT

set_option Elab.async false
set_option linter.all false
set_option maxRecDepth 100000
set_option maxHeartbeats 2000000
namespace OT
open PySem PySem.Spec PyProof.Rows L2
open TL (tl)
def szL (ys : List Str) : Nat := (ys.map (·.length)).sum
theorem szL_set {x : Str} : ∀ {l : List Str} {i : Nat} (h : i < l.length), szL (l.set i x) + l[i].length = szL l + x.length
  | y :: r, 0, h => by
    show x.length + szL r + y.length = y.length + szL r + x.length
    omega
  | y :: r, i + 1, h => by
    have ih := szL_set (x := x) (l := r) (i := i) (Nat.lt_of_succ_lt_succ h)
    show y.length + szL (r.set i x) + (r[i]'(Nat.lt_of_succ_lt_succ h)).length = y.length + szL r + x.length
    omega
theorem szL_app (l m : List Str) : szL (l ++ m) = szL l + szL m := by
  unfold szL
  rw [List.map_append, List.sum_append]
theorem szL_mem : ∀ {l : List Str} {x : Str}, x ∈ l → x.length ≤ szL l
  | y :: r, x, h => by
    rcases List.mem_cons.mp h with rfl | h
    · show x.length ≤ x.length + szL r
      omega
    · have := szL_mem h
      show x.length ≤ y.length + szL r
      omega
theorem spl_sum (c : Nat) : ∀ (l acc : List Nat), ((TL.spl [c] 0 acc l).map List.length).sum + (TL.spl [c] 0 acc l).length = acc.length + l.length + 1
  | [], acc => by
    rw [TL.spl_nil]
    show acc.length + 0 + 1 = acc.length + 0 + 1
    rfl
  | x :: r, acc => by
    cases h : TL.pre [c] (x :: r) with
    | true =>
      rw [TL.spl_hit h]
      have ih := spl_sum c r []
      show acc.length + ((TL.spl [c] 0 [] r).map List.length).sum + ((TL.spl [c] 0 [] r).length + 1) = acc.length + (r.length + 1) + 1
      have h0 : ([] : List Nat).length = 0 := rfl
      omega
    | false =>
      rw [TL.spl_miss h]
      have ih := spl_sum c r (acc ++ [x])
      rw [List.length_append, List.length_singleton] at ih
      rw [List.length_cons]
      omega
theorem spl_pos' : ∀ (l acc : List Nat), 1 ≤ (TL.spl [32] 0 acc l).length
  | [], acc => by
    rw [TL.spl_nil]
    exact Nat.le_refl _
  | c :: r, acc => by
    cases h : TL.pre [32] (c :: r) with
    | true =>
      rw [TL.spl_hit h, List.length_cons]
      exact Nat.succ_pos _
    | false =>
      rw [TL.spl_miss h]
      exact spl_pos' r _
theorem tl_sp : tl (" " : Str) = [32] := by decide +kernel
theorem words_sum (z : Str) : szL (words z) + (words z).length = z.length + 1 := by
  have h := spl_sum 32 (tl z) []
  have e : (Txt.split z " ").map tl = TL.spl [32] 0 [] (tl z) := by
    rw [TL.split_spl z " " sp_ne (TL.kind_ok sp_k), tl_sp]
  rw [← e, List.length_map, List.map_map] at h
  have h2 : szL (words z) = (((Txt.split z " ")).map (List.length ∘ tl)).sum := by
    unfold szL words
    refine congrArg List.sum (List.map_congr_left fun y _ => ?_)
    exact TL.len_tl y
  have h3 : (tl z).length = z.length := (TL.len_tl z).symm
  have h4 : (words z).length = (Txt.split z " ").length := rfl
  have h0 : ([] : List Nat).length = 0 := rfl
  omega
theorem words_pos (z : Str) : 1 ≤ (words z).length := by
  have h := spl_pos' (tl z) []
  have e : (Txt.split z " ").map tl = TL.spl [32] 0 [] (tl z) := by
    rw [TL.split_spl z " " sp_ne (TL.kind_ok sp_k), tl_sp]
  rw [← e, List.length_map] at h
  exact h
theorem join_sz (ys : List Str) : (Txt.join " " ys).length ≤ szL ys + ys.length := by
  have h1 := PySem.StrLaws.join_length_le (" " : Str) ys
  rw [TL.join_eq]
  rw [sp1, Nat.mul_one] at h1
  exact h1
def oddT : List Str := ["", " ", "0 ", " 0", "0@0", "00", "1@0 1@0", "1@0  1@1", "-0@1", "1@", "@1", "1@1,", "1@0@0", "0 1@0", "1@0 0", "+1@0", "1@-0", "1@0,0,0,0", "-1", "1@2 1@1", "1@0 1@0,0", "1@0,0 1@1", "@", "1@0,,1"]
def shortT (l : List Str) : Bool := l.all fun z => decide (z.length ≤ 20)
theorem oddT_get {j : Nat} (hj : j < 24) : ∃ z : Str, oddT[j]? = some z ∧ z.length ≤ 20 := by
  have a : shortT oddT = true := by decide +kernel
  have l : oddT.length = 24 := rfl
  refine ⟨oddT[j]'(by omega), List.getElem?_eq_getElem _, ?_⟩
  exact of_decide_eq_true (List.all_eq_true.mp a _ (List.getElem_mem _))
section
variable {P : Program} {w : World} {K : PySem.W.Frag} {mg : Str → Option Value} {base : Heap}
def spOddT (K : PySem.W.Frag) : Sp := fun vs H Q _ => ∃ k : Int, vs = [.int k] ∧ 0 ≤ k ∧ k < 24 ∧ ∀ (z : Str) H', z.length ≤ 20 → Same H H' → Q (.str z) H'
theorem c__law_odd_text {f : Addr} {fd : FuncData} (D : C8.Def K mg "_law_odd_text" s__law_odd_text f fd) (b : Binds K fd ["_law_which"] []) (T : Bi mg) : C8.Cal P w K mg base 1 "_law_odd_text" (spOddT K) [] := by
  refine C8.cal0 D b .nil sc__law_odd_text (fun vs H Q E h => ?_) (fun cdv A outer s H vs Q E hr h => ?_)
  · obtain ⟨a, rfl, _⟩ := h
    rfl
  · obtain ⟨k, rfl, h0, h1, q⟩ := h
    refine ⟨_, (pss_cons (ps_set (i := 1) sc__law_odd_text.nd rfl (Or.inl rfl) (pe_lst (pa_cons pe_str (pa_cons pe_str (pa_cons pe_str (pa_cons pe_str (pa_cons pe_str (pa_cons pe_str (pa_cons pe_str (pa_cons pe_str (pa_cons pe_str (pa_cons pe_str (pa_cons pe_str (pa_cons pe_str pa_nil))))))))))))))
  (pss_cons (ps_set (i := 1) sc__law_odd_text.nd rfl (Or.inl rfl) (pe_op op_cat (pv 1) (pe_lst (pa_cons pe_str (pa_cons pe_str (pa_cons pe_str (pa_cons pe_str (pa_cons pe_str (pa_cons pe_str (pa_cons pe_str (pa_cons pe_str pa_nil)))))))))))
  (pss_one (ps_ret (pe_ix ix_list (pe_op op_cat (pv 1) (pe_lst (pa_cons pe_str (pa_cons pe_str (pa_cons pe_str (pa_cons pe_str pa_nil)))))) (pv 0) (fun _ _ => rfl)))))), ?_⟩
    refine ⟨by decide, fun p np => ?_⟩
    refine ⟨_, rfl, by decide, fun p2 np2 => ?_⟩
    have ne : p ≠ p2 := ne_of_none upd_same np2
    refine ⟨p, p2, _, _, rfl, rfl, by rw [upd_ne ne, upd_same], upd_same, by decide, fun p3 np3 => ?_⟩
    refine ⟨_, rfl, by decide, fun p4 np4 => ?_⟩
    have ne2 : p3 ≠ p4 := ne_of_none upd_same np4
    refine ⟨p3, p4, _, _, rfl, rfl, by rw [upd_ne ne2, upd_same], upd_same, by decide, fun p5 np5 => ?_⟩
    obtain ⟨j, rfl⟩ := Int.eq_ofNat_of_zero_le h0
    obtain ⟨z, hz, hl⟩ := oddT_get (show j < 24 by omega)
    refine ⟨_, rfl, p5, _, _, .str z, rfl, rfl, .inl (.inl upd_same), ?_, q z _ hl (((((same_upd np).trans (same_upd np2)).trans (same_upd np3)).trans (same_upd np4)).trans (same_upd np5))⟩
    refine atI_nat (j := j) ?_
    show (oddT.map V.str)[j]? = _
    rw [List.getElem?_map, hz]
    rfl
end
end OT

set_option Elab.async false
set_option linter.all false
set_option maxRecDepth 100000
set_option maxHeartbeats 2000000
namespace OT
open PySem PySem.Spec PyProof.Rows L2
open TL (tl)
section
variable {P : Program} {w : World} {K : PySem.W.Frag} {mg : Str → Option Value} {base : Heap}
def signs : List Nat := ("0123456789-@, x;+_\n" : Str).cps.toList
theorem signs_len : signs.length = 19 := by decide +kernel
theorem signs_z : ("0123456789-@, x;+_\n" : Str).length ≤ 1000 := by decide +kernel
theorem sign_get {j : Nat} (h : j < 19) : ∃ c, ("0123456789-@, x;+_\n" : Str).cps.toList[j]? = some c :=
  ⟨signs[j]'(by rw [signs_len]; exact h), List.getElem?_eq_getElem (l := signs) _⟩
def zsO : List Int := [8, 200, 19, 8, 8, 24]
/-- cut lists of texts -/
theorem szL_cut (l : List Str) (lo hi : Option Int) : ∃ m : List Str, cutV (l.map V.str) lo hi = m.map V.str ∧ szL m ≤ szL l ∧ m.length ≤ l.length := by
  have key : ∀ (l : List Str) (k : Nat), szL (l.drop k) ≤ szL l ∧ szL (l.take k) ≤ szL l := by
    intro l
    induction l with
    | nil => intro k; simp [szL]
    | cons y r ih =>
      intro k
      cases k with
      | zero => exact ⟨Nat.le_refl _, Nat.zero_le _⟩
      | succ k =>
        obtain ⟨h1, h2⟩ := ih k
        constructor
        · show szL (r.drop k) ≤ y.length + szL r
          omega
        · show y.length + szL (r.take k) ≤ y.length + szL r
          omega
  refine ⟨(l.drop (HT.sIx (l.map V.str).length 0 lo)).take (HT.sIx (l.map V.str).length (l.map V.str).length hi - HT.sIx (l.map V.str).length 0 lo), ?_, ?_, ?_⟩
  · unfold cutV
    rw [List.map_take, List.map_drop]
  · exact Nat.le_trans (key _ _).2 (key _ _).1
  · rw [List.length_take, List.length_drop]
    omega
theorem strs_inj : ∀ {a b : List Str}, a.map V.str = b.map V.str → a = b
  | [], [], _ => rfl
  | [], _ :: _, h => by cases h
  | _ :: _, [], h => by cases h
  | x :: r, y :: t, h => by
    rw [List.map_cons, List.map_cons] at h
    obtain ⟨e, h⟩ := List.cons.inj h
    rw [V.str.inj e, strs_inj h]
theorem new_none {H H' : Hp} {p : Addr} (s : Same H H') (h : H' p = none) : H p = none := by
  cases z : H p with
  | none => rfl
  | some o =>
    rw [s _ _ z] at h
    cases h
def spOther (K : PySem.W.Frag) : Sp := fun vs H Q _ => ∃ (z : Str) (d : Addr) (ds : List Int), vs = [.str z, .ref d] ∧ z.length ≤ 250 ∧ SqL K H d (ds.map V.int) ∧ InR ds zsO ∧ ∀ (y : Str) H', y.length ≤ 600 → Same H H' → Q (.str y) H'
theorem c__law_other_text {f : Addr} {fd : FuncData} (D : C8.Def K mg "_law_other_text" s__law_other_text f fd) (b : Binds K fd ["_law_text", "_law_draws_here"] []) (T : Bi mg) (c__law_odd_text : C8.Cal P w K mg base 1 "_law_odd_text" (spOddT K) []) : C8.Cal P w K mg base 2 "_law_other_text" (spOther K) [] := by
  refine C8.cal0 D b .nil sc__law_other_text (fun vs H Q E h => ?_) (fun cdv A outer s H vs Q E hr h => ?_)
  · obtain ⟨z, d, ds, rfl, _⟩ := h
    rfl
  · obtain ⟨z, d, ds, rfl, hz, hd, hin, q⟩ := h
    refine ⟨_, (pss_cons (ps_set (i := 2) sc__law_other_text.nd rfl (Or.inl rfl) (pe_ix ix_list (pv 1) pe_int (fun _ _ => rfl)))
  (pss_cons (ps_set (i := 3) sc__law_other_text.nd rfl (Or.inl rfl) (pe_op op_mod (pe_callTy call_int1 (by rfl) T.n_int OT.b_int (pa_cons (pe_ix ix_list (pv 1) pe_int (fun _ _ => rfl)) pa_nil)) (pe_op op_add (pe_callB call_len_str (by rfl) T.n_len OT.b_len (pa_cons (pv 0) pa_nil)) pe_int)))
  (pss_cons (ps_set (i := 4) sc__law_other_text.nd rfl (Or.inl rfl) (pe_ix ix_str pe_str (pe_ix ix_list (pv 1) pe_int (fun _ _ => rfl)) (fun _ _ => rfl)))
  (pss_cons (ps_if (pt_cmpR op_eq (pv 2) pe_int (nomark _)) (pss_one (ps_ret (pe_op op_add_str (pe_slice sl_str (pv 0) po_none (po_some (pv 3))) (pe_slice sl_str (pv 0) (po_some (pe_op op_add (pv 3) pe_int)) po_none)))) pss_nil)
  (pss_cons (ps_if (pt_cmpR op_eq (pv 2) pe_int (nomark _)) (pss_one (ps_ret (pe_op op_add_str (pe_op op_add_str (pe_slice sl_str (pv 0) po_none (po_some (pv 3))) (pv 4)) (pe_slice sl_str (pv 0) (po_some (pv 3)) po_none)))) pss_nil)
  (pss_cons (ps_if (pt_cmpR op_eq (pv 2) pe_int (nomark _)) (pss_one (ps_ret (pe_op op_add_str (pe_op op_add_str (pe_slice sl_str (pv 0) po_none (po_some (pv 3))) (pv 4)) (pe_slice sl_str (pv 0) (po_some (pe_op op_add (pv 3) pe_int)) po_none)))) pss_nil)
  (pss_cons (ps_if (pt_cmpR op_eq (pv 2) pe_int (nomark _)) (pss_one (ps_ret (C8.pe_c c__law_odd_text hr (by decide) (by rfl) (pa_cons (pe_ix ix_list (pv 1) pe_int (fun _ _ => rfl)) pa_nil)))) pss_nil)
  (pss_cons (ps_set (i := 5) sc__law_other_text.nd rfl (Or.inl rfl) (pe_split (pv 0) pe_str))
  (pss_cons (ps_set (i := 6) sc__law_other_text.nd rfl (Or.inl rfl) (pe_op op_mod (pe_callTy call_int1 (by rfl) T.n_int OT.b_int (pa_cons (pe_ix ix_list (pv 1) pe_int (fun _ _ => rfl)) pa_nil)) (pe_callB call_len_seq (by rfl) T.n_len OT.b_len (pa_cons (pv 5) pa_nil))))
  (pss_cons (ps_set (i := 7) sc__law_other_text.nd rfl (Or.inl rfl) (pe_op op_mod (pe_callTy call_int1 (by rfl) T.n_int OT.b_int (pa_cons (pe_ix ix_list (pv 1) pe_int (fun _ _ => rfl)) pa_nil)) (pe_callB call_len_seq (by rfl) T.n_len OT.b_len (pa_cons (pv 5) pa_nil))))
  (pss_cons (ps_set (i := 8) sc__law_other_text.nd rfl (Or.inl rfl) (pe_ix ix_list (pv 5) (pv 6) (fun _ _ => rfl)))
  (C8.pss_cut (ps_if (pt_cmpR op_eq (pv 2) pe_int (nomark _)) (pss_cons (ps_asg (pe_ix ix_list (pv 5) (pv 7) (fun _ _ => rfl)) (pg_sub (pv 5) (pv 6) set_list))
  (pss_one (ps_asg (pv 8) (pg_sub (pv 5) (pv 7) set_list)))) pss_nil)
  (C8.pss_cut (ps_if (pt_cmpR op_eq (pv 2) pe_int (nomark _)) (pss_one (ps_set (i := 5) sc__law_other_text.nd rfl (Or.inl rfl) (pe_op op_cat (pe_op op_cat (pe_slice sl_list (pv 5) po_none (po_some (pv 7))) (pe_lst (pa_cons (pv 8) pa_nil))) (pe_slice sl_list (pv 5) (po_some (pv 7)) po_none)))) pss_nil)
  (C8.pss_cut (ps_if (pt_cmpR op_eq (pv 2) pe_int (nomark _)) (pss_one (ps_asg (pe_op op_add_str (pv 8) pe_str) (pg_sub (pv 5) (pv 6) set_list))) pss_nil)
  (C8.pss_cut (ps_if (PW.pt (pw_and (pt_cmpR op_eq (pv 2) pe_int (nomark _)) (pw_and1 (pt_cmpR op_in_str pe_str (pv 8) rfl)))) (pss_one (ps_asg (pe_slice sl_str (pv 8) po_none (po_some (pe_m1 PySem.F.slot_str_rfind PySem.F.type_str_rfind mt_rfind (pv 8) pe_str))) (pg_sub (pv 5) (pv 6) set_list))) pss_nil)
  (pss_one (ps_ret (pe_join pe_str (pv 5))))))))))))))))))), ?_⟩
    obtain ⟨d0, g0, g0a, g0b⟩ := hin.get (i := 0) (z := 8) rfl
    obtain ⟨d1, g1, g1a, g1b⟩ := hin.get (i := 1) (z := 200) rfl
    obtain ⟨d2, g2, g2a, g2b⟩ := hin.get (i := 2) (z := 19) rfl
    obtain ⟨d3, g3, g3a, g3b⟩ := hin.get (i := 3) (z := 8) rfl
    obtain ⟨d4, g4, g4a, g4b⟩ := hin.get (i := 4) (z := 8) rfl
    obtain ⟨d5, g5, g5a, g5b⟩ := hin.get (i := 5) (z := 24) rfl
    obtain ⟨k2, rfl⟩ := Int.eq_ofNat_of_zero_le g2a
    obtain ⟨c, hc⟩ := sign_get (show k2 < 19 by omega)
    have sz : ∀ {k : Nat}, k ≤ 1000 → k ≤ sizeLine := fun h => Nat.le_of_lt (small1000 h)
    have hzz : z.length ≤ sizeLine := sz (by omega)
    have c1 : (⟨#[c]⟩ : Str).length = 1 := rfl
    have cl := fun lo hi => cutS_length z lo hi
    refine ⟨_, rfl, d, _, 0, _, rfl, rfl, hd, atI_nat (j := 0) g0, ?_⟩
    refine ⟨_, rfl, d, _, 1, _, rfl, rfl, hd, atI_nat (j := 1) g1, .inl ⟨_, rfl, _, rfl, z, rfl, hzz, _, _, rfl, rfl, _, _, rfl, rfl, (by show (0 : Int) < (z.length : Int) + 1; omega), ?_⟩⟩
    refine ⟨_, rfl, d, _, 2, _, rfl, rfl, hd, atI_nat (j := 2) g2, _, _, c, rfl, rfl, sz signs_z, atI_nat hc, ?_⟩
    refine ⟨_, rfl, rfl, _, rfl, iteD (fun _ => ?_) (fun _ => ?_)⟩
    · refine ⟨_, rfl, _, rfl, _, rfl, z, rfl, hzz, _, rfl, _, rfl, _, _, rfl, rfl, _, rfl, z, rfl, hzz, _, _, rfl, rfl, ?_, q _ _ ?_ (Same.refl _)⟩
      · have := cl none (some (d1 % ((z.length : Int) + 1)))
        have := cl (some (d1 % ((z.length : Int) + 1) + 1)) none
        exact sz (by omega)
      · rw [Str.length_append]
        have := cl none (some (d1 % ((z.length : Int) + 1)))
        have := cl (some (d1 % ((z.length : Int) + 1) + 1)) none
        omega
    have two : ∀ x y : Str, x.length ≤ z.length → y.length ≤ z.length → (x ++ y).length ≤ 600 ∧ x.length + y.length ≤ sizeLine := fun x y h1 h2 => by
      rw [Str.length_append]
      exact ⟨by omega, sz (by omega)⟩
    have three : ∀ x y : Str, x.length ≤ z.length → y.length ≤ z.length → (x ++ (⟨#[c]⟩ : Str) ++ y).length ≤ 600 ∧ x.length + (⟨#[c]⟩ : Str).length ≤ sizeLine ∧ (x ++ (⟨#[c]⟩ : Str)).length + y.length ≤ sizeLine := fun x y h1 h2 => by
      rw [Str.length_append, Str.length_append, c1]
      exact ⟨by omega, sz (by omega), sz (by omega)⟩
    refine ⟨_, rfl, rfl, _, rfl, iteD (fun _ => ?_) (fun _ => ?_)⟩
    · obtain ⟨k1, k2, k3⟩ := three _ _ (cl none (some (d1 % ((z.length : Int) + 1)))) (cl (some (d1 % ((z.length : Int) + 1))) none)
      exact ⟨_, rfl, _, rfl, _, rfl, z, rfl, hzz, _, rfl, _, _, rfl, rfl, k2, _, rfl, _, rfl, _, rfl, z, rfl, hzz, _, _, rfl, rfl, k3, q _ _ k1 (Same.refl _)⟩
    refine ⟨_, rfl, rfl, _, rfl, iteD (fun _ => ?_) (fun _ => ?_)⟩
    · obtain ⟨k1, k2, k3⟩ := three _ _ (cl none (some (d1 % ((z.length : Int) + 1)))) (cl (some (d1 % ((z.length : Int) + 1) + 1)) none)
      exact ⟨_, rfl, _, rfl, _, rfl, z, rfl, hzz, _, rfl, _, _, rfl, rfl, k2, _, rfl, _, rfl, _, _, rfl, rfl, _, rfl, z, rfl, hzz, _, _, rfl, rfl, k3, q _ _ k1 (Same.refl _)⟩
    refine ⟨_, rfl, rfl, _, rfl, iteD (fun _ => ?_) (fun _ => ?_)⟩
    · exact ⟨_, rfl, d, _, 5, _, rfl, rfl, hd, atI_nat (j := 5) g5, d5, rfl, g5a, g5b, fun y H' hy sm => q y H' (by omega) sm⟩
    have hwl := words_len z
    have hws := words_sum z
    have hwp := words_pos z
    refine ⟨_, rfl, ⟨_, rfl⟩, z, " ", rfl, rfl, sp_z, sz (by omega), fun p np => ?_⟩
    have hwm : ∀ u ∈ words z, u.length ≤ 250 := fun u hu => Nat.le_trans (hwl.1 u hu) hz
    have e0 : Txt.split z (" " : Str) = words z := rfl
    rw [e0]
    generalize words z = l at hwl hws hwp hwm
    have s1 : Same H (upd H p (.lst (l.map V.str))) := same_upd np
    have hp : (upd H p (.lst (l.map V.str))) p = some (.lst (l.map V.str)) := upd_same
    generalize upd H p (.lst (l.map V.str)) = H1 at s1 hp ⊢
    have hd1 := s1.seq hd
    have hS : SqL K H1 p (l.map V.str) := .inl (.inl hp)
    have hpos : (0 : Int) < ((l.map V.str).length : Int) := by
      rw [List.length_map]
      omega
    refine ⟨_, rfl, d, _, 3, _, rfl, rfl, hd1, atI_nat (j := 3) g3, .inl ⟨_, rfl, _, rfl, p, _, rfl, .inl hS, _, _, rfl, rfl, hpos, ?_⟩⟩
    refine ⟨_, rfl, d, _, 4, _, rfl, rfl, hd1, atI_nat (j := 4) g4, .inl ⟨_, rfl, _, rfl, p, _, rfl, .inl hS, _, _, rfl, rfl, hpos, ?_⟩⟩
    obtain ⟨j1, e1, hj1⟩ := mod_nat (n := (l.map V.str).length) (by omega) d3
    obtain ⟨j2, e2, hj2⟩ := mod_nat (n := (l.map V.str).length) (by omega) d4
    rw [List.length_map] at hj1 hj2
    have hix1 : atI (l.map V.str) (d3 % ((l.map V.str).length : Int)) = some (.str l[j1]) := by
      rw [e1]
      exact atI_nat (by rw [List.getElem?_map, List.getElem?_eq_getElem hj1]; rfl)
    have hix2 : atI (l.map V.str) (d4 % ((l.map V.str).length : Int)) = some (.str l[j2]) := by
      rw [e2]
      exact atI_nat (by rw [List.getElem?_map, List.getElem?_eq_getElem hj2]; rfl)
    have hw1 := hwm _ (List.getElem_mem hj1)
    refine ⟨_, rfl, _, rfl, p, _, _, _, rfl, rfl, hS, hix1, ?_⟩
    have ix1 : ∀ ys : List Str, l.length ≤ ys.length → ixN (ys.map V.str).length (d3 % ((l.map V.str).length : Int)) = some j1 := fun ys h => by
      rw [e1, List.length_map]
      exact ixN_nat (by omega)
    have ix2 : ∀ ys : List Str, l.length ≤ ys.length → ixN (ys.map V.str).length (d4 % ((l.map V.str).length : Int)) = some j2 := fun ys h => by
      rw [e2, List.length_map]
      exact ixN_nat (by omega)
    have sset : ∀ (ys : List Str) (j : Nat) (x : Str), (ys.map V.str).set j (.str x) = (ys.set j x).map V.str := fun ys j x => List.map_set.symm
    let M (B : Int) : L2.St → Hp → Prop := fun σ H3 => ∃ (p3 : Addr) (ys : List Str), σ = [some (.str z), some (.ref d), some (.int d0), some (.int (d1 % ((z.length : Int) + 1))), some (.str ⟨#[c]⟩), some (.ref p3), some (.int (d3 % ((l.map V.str).length : Int))), some (.int (d4 % ((l.map V.str).length : Int))), some (.str l[j1])] ∧
      Same H H3 ∧ H p3 = none ∧ H3 p3 = some (.lst (ys.map V.str)) ∧ l.length ≤ ys.length ∧ szL ys + ys.length ≤ 503 ∧ (B < d0 → szL ys + ys.length ≤ 251)
    refine ⟨M 4, ?_, ?_⟩
    · refine ⟨_, rfl, rfl, _, rfl, iteD (fun _ => ?_) (fun _ => ?_)⟩
      · refine ⟨_, rfl, _, rfl, p, _, _, _, rfl, rfl, hS, hix2, ?_⟩
        refine ⟨_, rfl, _, rfl, p, _, _, j1, rfl, rfl, hp, ix1 l (Nat.le_refl _), ?_⟩
        refine ⟨_, rfl, _, rfl, _, rfl, p, _, _, j2, rfl, rfl, upd_same, ?_, ?_⟩
        · rw [sset]
          exact ix2 _ (by rw [List.length_set]; exact Nat.le_refl _)
        · have h1 := szL_set (x := l[j2]) hj1
          have hj2' : j2 < (l.set j1 l[j2]).length := by
            rw [List.length_set]
            exact hj2
          have h2 := szL_set (x := l[j1]) hj2'
          have h3 : (l.set j1 l[j2])[j2] = l[j2] := by
            rw [List.getElem_set]
            by_cases e : j1 = j2
            · rw [if_pos e]
            · rw [if_neg e]
          rw [h3] at h2
          refine ⟨p, (l.set j1 l[j2]).set j2 l[j1], rfl, same_mut (same_mut s1 np) np, np, ?_, ?_, ?_, fun _ => ?_⟩
          · rw [upd_same, sset, sset]
          · rw [List.length_set, List.length_set]
            exact Nat.le_refl _
          · rw [List.length_set, List.length_set]
            omega
          · rw [List.length_set, List.length_set]
            omega
      · exact ⟨p, l, rfl, s1, np, hp, Nat.le_refl _, by omega, fun _ => by omega⟩
    rintro σ H2 ⟨p3, ys, rfl, sm2, np3, hp3, hly, hb1, hb2⟩
    refine ⟨M 5, ?_, ?_⟩
    · refine ⟨_, rfl, rfl, _, rfl, iteD (fun h5 => ?_) (fun h5 => ?_)⟩
      · have h5' : d0 = 5 := V.int.inj h5
        have hb := hb2 (by omega)
        have hS3 : SqL K H2 p3 (ys.map V.str) := .inl (.inl hp3)
        obtain ⟨m1, em1, hm1, hm1l⟩ := szL_cut ys none (some (d4 % ((l.map V.str).length : Int)))
        obtain ⟨m2, em2, hm2, hm2l⟩ := szL_cut ys (some (d4 % ((l.map V.str).length : Int))) none
        have hsum : szL m1 + szL m2 ≤ szL ys ∧ m1.length + m2.length = ys.length := by
          have hk : d4 % ((l.map V.str).length : Int) = ((j2 : Nat) : Int) := e2
          have hj : j2 ≤ ys.length := by omega
          have c1 : cutV (ys.map V.str) none (some ((j2 : Nat) : Int)) = (ys.take j2).map V.str := by
            unfold cutV
            rw [HT.sIx_none, HT.sIx_nat, List.length_map, Nat.min_eq_left hj, List.drop_zero, Nat.sub_zero, List.map_take]
          have c2 : cutV (ys.map V.str) (some ((j2 : Nat) : Int)) none = (ys.drop j2).map V.str := by
            unfold cutV
            rw [HT.sIx_none, HT.sIx_nat, List.length_map, Nat.min_eq_left hj, ← List.map_drop]
            exact List.take_of_length_le (by rw [List.length_map, List.length_drop]; exact Nat.le_refl _)
          rw [hk] at em1 em2
          have f1 : ys.take j2 = m1 := strs_inj (c1.symm.trans em1)
          have f2 : ys.drop j2 = m2 := strs_inj (c2.symm.trans em2)
          have f3 : szL (ys.take j2) + szL (ys.drop j2) = szL ys := by
            rw [← szL_app, List.take_append_drop]
          have f4 : (ys.take j2).length + (ys.drop j2).length = ys.length := by
            rw [← List.length_append, List.take_append_drop]
          rw [← f1, ← f2]
          exact ⟨by omega, f4⟩
        refine ⟨_, rfl, _, rfl, _, rfl, p3, _, rfl, hS3, fun a1 na1 => ?_⟩
        rw [em1]
        have t1 : Same H2 (upd H2 a1 (.lst (m1.map V.str))) := same_upd na1
        have u1 : (upd H2 a1 (.lst (m1.map V.str))) a1 = some (.lst (m1.map V.str)) := upd_same
        generalize upd H2 a1 (.lst (m1.map V.str)) = G1 at t1 u1 ⊢
        refine ⟨_, rfl, (by show 1 ≤ sizeLine; decide), fun a2 na2 => ?_⟩
        have t2 : Same G1 (upd G1 a2 (.lst [.str l[j1]])) := same_upd na2
        have u2 : (upd G1 a2 (.lst [.str l[j1]])) a2 = some (.lst [.str l[j1]]) := upd_same
        generalize upd G1 a2 (.lst [.str l[j1]]) = G2 at t2 u2 ⊢
        refine ⟨a1, a2, _, _, rfl, rfl, t2 _ _ u1, u2, ?_, fun a3 na3 => ?_⟩
        · rw [List.length_map]
          exact sz (by show m1.length + 1 ≤ 1000; omega)
        have t3 : Same G2 (upd G2 a3 (.lst (m1.map V.str ++ [.str l[j1]]))) := same_upd na3
        have u3 : (upd G2 a3 (.lst (m1.map V.str ++ [.str l[j1]]))) a3 = some (.lst (m1.map V.str ++ [.str l[j1]])) := upd_same
        generalize upd G2 a3 (.lst (m1.map V.str ++ [.str l[j1]])) = G3 at t3 u3 ⊢
        have tA := (t1.trans t2).trans t3
        refine ⟨_, rfl, _, rfl, _, rfl, p3, _, rfl, tA.seq hS3, fun a4 na4 => ?_⟩
        rw [em2]
        have t4 : Same G3 (upd G3 a4 (.lst (m2.map V.str))) := same_upd na4
        have u4 : (upd G3 a4 (.lst (m2.map V.str))) a4 = some (.lst (m2.map V.str)) := upd_same
        generalize upd G3 a4 (.lst (m2.map V.str)) = G4 at t4 u4 ⊢
        refine ⟨a3, a4, _, _, rfl, rfl, t4 _ _ u3, u4, ?_, fun a5 na5 => ?_⟩
        · rw [List.length_append, List.length_map, List.length_map]
          exact sz (by show m1.length + 1 + m2.length ≤ 1000; omega)
        have t5 := sm2.trans (tA.trans (t4.trans (same_upd (o := .lst (m1.map V.str ++ [.str l[j1]] ++ m2.map V.str)) na5)))
        have nH5 := new_none (sm2.trans (tA.trans t4)) na5
        refine ⟨a5, m1 ++ [l[j1]] ++ m2, rfl, t5, nH5, ?_, ?_, ?_, fun h => absurd h (by omega)⟩
        · rw [upd_same, List.map_append, List.map_append]
          rfl
        · rw [List.length_append, List.length_append, List.length_singleton]
          omega
        · rw [szL_app, szL_app, List.length_append, List.length_append, List.length_singleton]
          have : szL [l[j1]] = l[j1].length + 0 := rfl
          omega
      · exact ⟨p3, ys, rfl, sm2, np3, hp3, hly, hb1, fun h => hb2 (by omega)⟩
    clear hp3 hly hb1 hb2 np3 sm2
    rintro σ H3 ⟨p4, ys4, rfl, sm2, np3, hp3, hly, hb1, hb2⟩
    refine ⟨M 6, ?_, ?_⟩
    · refine ⟨_, rfl, rfl, _, rfl, iteD (fun h6 => ?_) (fun h6 => ?_)⟩
      · have h6' : d0 = 6 := V.int.inj h6
        have hb := hb2 (by omega)
        have e2' : (",0" : Str).length = 2 := by decide +kernel
        refine ⟨_, rfl, _, _, rfl, rfl, ?_, ?_⟩
        · rw [e2']
          exact sz (by omega)
        refine ⟨_, rfl, _, rfl, p4, _, _, j1, rfl, rfl, hp3, ix1 ys4 hly, ?_⟩
        have hjy : j1 < ys4.length := by omega
        have h1 := szL_set (x := l[j1] ++ (",0" : Str)) hjy
        rw [Str.length_append, e2'] at h1
        refine ⟨p4, ys4.set j1 (l[j1] ++ (",0" : Str)), rfl, same_mut sm2 np3, np3, ?_, ?_, ?_, fun h => absurd h (by omega)⟩
        · rw [upd_same, sset]
        · rw [List.length_set]
          exact hly
        · rw [List.length_set]
          omega
      · exact ⟨p4, ys4, rfl, sm2, np3, hp3, hly, hb1, fun h => hb2 (by omega)⟩
    clear hp3 hly hb1 hb2 np3 sm2
    rintro σ H4 ⟨p5, ys5, rfl, sm2, np3, hp3, hly, hb1, hb2⟩
    refine ⟨M 7, ?_, ?_⟩
    · refine ⟨_, rfl, rfl, _, rfl, iteD (fun h7 => ?_) (fun h7 => iteF ?_)⟩
      · have h7' : d0 = 7 := V.int.inj h7
        have hb := hb2 (by omega)
        refine ⟨_, rfl, _, _, rfl, rfl, _, rfl, iteB (fun _ => ?_) (fun _ => ?_)⟩
        · refine ⟨_, rfl, _, rfl, ⟨_, rfl⟩, _, _, rfl, rfl, _, rfl, _, rfl, sz (by omega), ?_⟩
          refine ⟨_, rfl, _, rfl, p5, _, _, j1, rfl, rfl, hp3, ix1 ys5 hly, ?_⟩
          have hjy : j1 < ys5.length := by omega
          have hc := cutS_length l[j1] none (some (Txt.rfind l[j1] ","))
          have h1 := szL_set (x := cutS l[j1] none (some (Txt.rfind l[j1] ","))) hjy
          refine ⟨p5, ys5.set j1 (cutS l[j1] none (some (Txt.rfind l[j1] ","))), rfl, same_mut sm2 np3, np3, ?_, ?_, ?_, fun h => absurd h (by omega)⟩
          · rw [upd_same, sset]
          · rw [List.length_set]
            exact hly
          · rw [List.length_set]
            omega
        · exact ⟨p5, ys5, rfl, sm2, np3, hp3, hly, hb1, fun h => absurd h (by omega)⟩
      · exact ⟨p5, ys5, rfl, sm2, np3, hp3, hly, hb1, fun h => absurd h (by omega)⟩
    clear hp3 hly hb1 hb2 np3 sm2
    rintro σ H5 ⟨p6, ys6, rfl, sm2, np3, hp3, hly, hb1, hb2⟩
    have hj := join_sz ys6
    refine ⟨⟨_, rfl⟩, _, rfl, _, p6, ys6, rfl, rfl, .inl (.inl (.inl hp3)), ?_, q _ _ (by omega) sm2⟩
    rw [sp1, Nat.mul_one]
    have : szL ys6 = (ys6.map (·.length)).sum := rfl
    omega
end
end OT

set_option Elab.async false
set_option linter.all false
set_option maxRecDepth 100000
set_option maxHeartbeats 2000000
namespace OT
open PySem PySem.Spec PyProof.Rows L2
open TL (tl)
section
variable {P : Program} {w : World} {K : PySem.W.Frag} {mg : Str → Option Value} {base : Heap}
theorem c__law_entry {f : Addr} {fd : FuncData} (D : C8.Def K mg "_law_entry" s__law_entry f fd) (b : Binds K fd ["_law_word"] []) (T : Bi mg) (c__law_decimal : C8.Cal P w K mg base 1 "_law_decimal" spDec2 []) : C8.Cal P w K mg base 2 "_law_entry" spEnt [] := by
  refine C8.cal0 D b .nil sc__law_entry (fun vs H Q E h => ?_) (fun cdv A outer s H vs Q E hr h => ?_)
  · obtain ⟨z, rfl, _⟩ := h
    rfl
  · obtain ⟨z, rfl, hz, q⟩ := h
    refine ⟨_, (pss_cons (ps_set (i := 1) sc__law_entry.nd rfl (Or.inl rfl) (pe_split (pv 0) pe_str))
  (pss_cons (ps_if (PW.pt (pw_or (pt_cmpR op_ne (pe_callB call_len_seq (by rfl) T.n_len OT.b_len (pa_cons (pv 1) pa_nil)) pe_int (nomark _)) (pw_or (pt_not (pt_val (C8.pe_c c__law_decimal hr (by decide) (by rfl) (pa_cons (pe_ix ix_list (pv 1) pe_int (fun _ _ => rfl)) pa_nil)))) (pw_or1 (pt_cmpR op_eq (pe_ix ix_list (pv 1) pe_int (fun _ _ => rfl)) pe_str (nomark _)))))) (pss_one (ps_ret pe_non)) pss_nil)
  (pss_cons (ps_set (i := 2) sc__law_entry.nd rfl (Or.inl rfl) (pe_split (pe_ix ix_list (pv 1) pe_int (fun _ _ => rfl)) pe_str))
  (pss_cons (ps_if (pt_cmpR op_gt (pe_callB call_len_seq (by rfl) T.n_len OT.b_len (pa_cons (pv 2) pa_nil)) pe_int (nomark _)) (pss_one (ps_ret pe_non)) pss_nil)
  (pss_cons (ps_for PassesOwn.never rfl (pi_list (pv 2)) (pg_name (i := 3) sc__law_entry.nd rfl (Or.inl rfl)) (pss_one (ps_if (pt_not (pt_val (C8.pe_c c__law_decimal hr (by decide) (by rfl) (pa_cons (pv 3) pa_nil)))) (pss_one (ps_ret pe_non)) pss_nil)))
  (pss_one (ps_ret (pe_tup (pa_cons (pe_callTy call_tuple_of (by rfl) T.n_tuple OT.b_tuple (pa_cons (pe_lc (own := [("_law_piece", 3)]) (g := (gName 3)) (tt := tYes) rfl sc__law_entry.nd (pi_list (pv 2)) (blkOk_by (N := ["_law_word", "_law_parts", "_law_pieces", "_law_piece"]) (sc := C8.fnScope s__law_entry) (by decide +kernel)) (fun _ _ _ _ _ => (pg_name (i := 3) sc__law_entry.nd rfl (Or.inl rfl))) (fun _ _ _ _ _ => pts_nil) (fun _ _ _ _ _ => (pe_callTy call_int_str (by rfl) T.n_int OT.b_int (pa_cons (pv 3) pa_nil)))) pa_nil)) (pa_cons (pe_callTy call_int_str (by rfl) T.n_int OT.b_int (pa_cons (pe_ix ix_list (pv 1) pe_int (fun _ _ => rfl)) pa_nil)) pa_nil)))))))))), ?_⟩
    have hpl : (∀ p ∈ Txt.split z ("@" : Str), p.length ≤ z.length) ∧ (Txt.split z ("@" : Str)).length ≤ z.length + 1 := parts_len z
    have q : ∀ v H', Same H H' → OptE H' v (entP (Txt.split z ("@" : Str))) → Q v H' := q
    refine ⟨_, rfl, ⟨_, rfl⟩, z, "@", rfl, rfl, at_z, Nat.le_of_lt (small1000 (by omega)), fun p np => ?_⟩
    generalize Txt.split z ("@" : Str) = l at q hpl ⊢
    have s1 : Same H (upd H p (.lst (l.map V.str))) := same_upd np
    have hp : (upd H p (.lst (l.map V.str))) p = some (.lst (l.map V.str)) := upd_same
    generalize upd H p (.lst (l.map V.str)) = H1 at s1 hp ⊢
    have hS : SqL K H1 p (l.map V.str) := .inl (.inl hp)
    by_cases h2 : l.length = 2
    case neg =>
      rw [entP_len h2] at q
      refine ⟨_, rfl, p, _, rfl, .inl hS, rfl, _, rfl, iteND (fun _ => iteT ?_) (fun h => absurd (V.int.inj h) ?_)⟩
      · exact q .non _ s1 rfl
      · rw [List.length_map]
        omega
    obtain ⟨x, y, rfl⟩ : ∃ x y, l = [x, y] := by
      match l, h2 with
      | [x, y], _ => exact ⟨x, y, rfl⟩
    have hx := hpl.1 x List.mem_cons_self
    have hy := hpl.1 y (List.mem_cons_of_mem _ List.mem_cons_self)
    refine ⟨_, rfl, p, _, rfl, .inl hS, rfl, _, rfl, iteND (fun h => absurd rfl h) (fun _ => ?_)⟩
    rw [entP_two] at q
    refine ⟨_, rfl, p, _, 0, _, rfl, rfl, hS, atI_nat (j := 0) rfl, x, rfl, by omega, _, rfl, iteB (fun hd => iteT ?_) (fun hd => ?_)⟩
    · rw [if_neg (fun h => by rw [h.1] at hd; cases hd)] at q
      exact q .non _ s1 rfl
    · rw [Bool.not_eq_false'] at hd
      refine ⟨_, rfl, p, _, 0, _, rfl, rfl, hS, atI_nat (j := 0) rfl, rfl, _, rfl, iteD (fun h0 => ?_) (fun h0 => ?_)⟩
      · rw [if_neg (fun h => h.2.1 (V.str.inj h0))] at q
        exact q .non _ s1 rfl
      · have h0' : x ≠ ("0" : Str) := fun e => h0 (by rw [e])
        have hyl := pieces_len y
        have hpy : ∀ u ∈ pieces y, u.length ≤ 600 := fun u hu => Nat.le_trans (hyl.1 u hu) (by omega)
        refine ⟨_, rfl, p, _, 1, _, rfl, rfl, hS, atI_nat (j := 1) rfl, ⟨_, rfl⟩, y, ",", rfl, rfl, comma_z, Nat.le_of_lt (small1000 (by omega)), fun p2 np2 => ?_⟩
        have s2 : Same H1 (upd H1 p2 (.lst ((pieces y).map V.str))) := same_upd np2
        have hp3 : (upd H1 p2 (.lst ((pieces y).map V.str))) p2 = some (.lst ((pieces y).map V.str)) := upd_same
        have e0 : Txt.split y ("," : Str) = pieces y := rfl
        rw [e0]
        generalize upd H1 p2 (.lst ((pieces y).map V.str)) = H3 at s2 hp3 ⊢
        have sB := s1.trans s2
        have hP : SqL K H3 p2 ((pieces y).map V.str) := .inl (.inl hp3)
        refine ⟨_, rfl, p2, _, rfl, .inl hP, _, _, rfl, rfl, _, rfl, ?_⟩
        rw [List.length_map]
        refine iteD (fun h3 => ?_) (fun h3 => ?_)
        · rw [if_neg (fun h => by have := ((fbL_iff _).mp h.2.2).1; omega)] at q
          exact q .non _ sB rfl
        refine ⟨_, rfl, p2, rfl, ⟨_, hP⟩, ?_⟩
        refine for_list (K := K) (xs := (pieces y).map V.str) (fun i σ H4 => ∃ y3, σ = [some (.str z), some (.ref p), some (.ref p2), y3] ∧ H4 = H3 ∧ ∀ u ∈ (pieces y).take i, decL (tl u) = true) ⟨none, rfl, rfl, fun u hu => (by cases hu)⟩ (fun i σ H4 _ ⟨_, _, e, _⟩ => by rw [e]; exact hP) ?_ ?_
        · rintro i u σ H4 hu ⟨y3, rfl, rfl, hal⟩
          obtain ⟨hi, rfl⟩ := getm hu
          have hm := List.getElem_mem hi
          refine ⟨_, rfl, _, rfl, Nat.le_trans (hpy _ hm) (by decide), _, rfl, iteB (fun hb => ?_) (fun hb => ?_)⟩
          · rw [Bool.not_eq_true'] at hb
            rw [if_neg (fun h => by rw [((fbL_iff _).mp h.2.2).2 _ hm] at hb; cases hb)] at q
            exact q .non _ sB rfl
          · rw [Bool.not_eq_false'] at hb
            refine ⟨_, rfl, rfl, fun u hu => ?_⟩
            rw [List.take_add_one, List.getElem?_eq_getElem hi] at hu
            rcases List.mem_append.mp hu with hu | hu
            · exact hal u hu
            · rw [List.mem_singleton.mp hu]
              exact hb
        · rintro σ H4 ⟨y3, rfl, rfl, hal⟩
          rw [List.length_map, List.take_length] at hal
          have hdec := hal
          have e : fbL 0 (pieces y) = none := (fbL_iff _).mpr ⟨by omega, hal⟩
          rw [if_pos ⟨hd, h0', e⟩] at q
          have hS3 := s2.seq hS
          refine ⟨_, rfl, p2, rfl, ⟨_, hP⟩, fun p4 np4 => ?_⟩
          refine lc_list (K := K) (xs := (pieces y).map V.str) (fun i H5 => Same H4 H5 ∧ H5 p4 = some (.lst (((pieces y).take i).map fun u => V.int (numOf u)))) ?_ ?_ ?_ ?_
          · exact ⟨same_upd np4, upd_same⟩
          · rintro i H4 _ ⟨sm4, _⟩
            exact sm4.seq (.inl (.inl hp3))
          · rintro i u H4 hu ⟨sm4, hp4⟩
            obtain ⟨hi, rfl⟩ := getm hu
            have hm := List.getElem_mem hi
            refine ⟨rfl, tYes_of ?_⟩
            refine ⟨_, rfl, _, _, rfl, dec_num (hdec _ hm) (Nat.le_trans (hpy _ hm) (by decide)), Nat.le_trans (hpy _ hm) (by decide), _, hp4, ?_, same_mut sm4 np4, ?_⟩
            · rw [List.length_map, List.length_take]
              exact small1000 (by omega)
            · rw [upd_same, take_map_succ (fun u => V.int (numOf u)) hi]
          · rintro H4 ⟨sm4, hp4⟩
            rw [List.length_map, List.take_length] at hp4
            refine ⟨p4, _, rfl, .inl ⟨.inl (.inl hp4), fun t1 nt1 => ?_⟩⟩
            have sm5 : Same H4 (upd H4 t1 (.tup ((pieces y).map fun u => V.int (numOf u)))) := same_upd nt1
            have hS5 := (sm4.trans sm5).seq hS3
            refine ⟨_, rfl, p, _, 0, _, rfl, rfl, hS5, atI_nat (j := 0) rfl, _, _, rfl, dec_num hd (by omega), by omega, (by show 2 ≤ sizeLine; decide), fun t2 nt2 => ?_⟩
            have sm6 : Same (upd H4 t1 (.tup ((pieces y).map fun u => V.int (numOf u)))) (upd (upd H4 t1 (.tup ((pieces y).map fun u => V.int (numOf u)))) t2 (.tup [.ref t1, .int (numOf x)])) := same_upd nt2
            refine q (.ref t2) _ (sB.trans ((sm4.trans sm5).trans sm6)) ⟨t2, t1, rfl, upd_same, sm6 _ _ ?_⟩
            rw [upd_same, List.map_map]
            rfl
end
end OT

set_option Elab.async false
set_option linter.all false
set_option maxRecDepth 100000
set_option maxHeartbeats 2000000
namespace OT
open PySem PySem.Spec PyProof.Rows L2
open TL (tl)
theorem pieces_pos (z : Str) : 1 ≤ (pieces z).length := by
  have tlc : tl ("," : Str) = [44] := by decide +kernel
  have key : ∀ (l acc : List Nat), 1 ≤ (TL.spl [44] 0 acc l).length := by
    intro l
    induction l with
    | nil => intro acc; rw [TL.spl_nil]; exact Nat.le_refl _
    | cons c r ih =>
      intro acc
      cases h : TL.pre [44] (c :: r) with
      | true =>
        rw [TL.spl_hit h, List.length_cons]
        exact Nat.succ_pos _
      | false =>
        rw [TL.spl_miss h]
        exact ih _
  have e : (Txt.split z ",").map tl = TL.spl [44] 0 [] (tl z) := by
    rw [TL.split_spl z "," comma_ne (TL.kind_ok comma_k), tlc]
  have h := key (tl z) []
  rw [← e, List.length_map] at h
  exact h
theorem entL_ok {z : Str} {e : Ent} (h : entL z = some e) (hz : z.length ≤ 4300) : 1 ≤ e.1.length ∧ e.1.length ≤ 3 ∧ e.2 ≠ 0 := by
  unfold entL at h
  have hpl := (parts_len z).1
  generalize parts z = l at h hpl
  match l, h, hpl with
  | [x, y], h, hpl =>
    rw [entP_two] at h
    by_cases c : decL (tl x) = true ∧ x ≠ ("0" : Str) ∧ fbL 0 (pieces y) = none
    · rw [if_pos c] at h
      cases h
      have h1 := pieces_pos y
      have h2 := ((fbL_iff _).mp c.2.2).1
      refine ⟨?_, ?_, num_ne c.1 c.2.1 (Nat.le_trans (hpl x List.mem_cons_self) hz)⟩
      · rw [List.length_map]
        exact h1
      · rw [List.length_map]
        exact h2
    · rw [if_neg c] at h
      cases h
theorem fol_get {acc : List Ent} {e : Ent} {k : Nat} (h : k < acc.length) (hk : acc.length = k + 1) : folB acc e = (decide (e.1.length = acc[k].1.length) && HT.lexLt acc[k].1 e.1) := by
  unfold folB
  have : acc.getLast? = some acc[k] := by
    rw [List.getLast?_eq_getElem?, hk, Nat.add_sub_cancel, List.getElem?_eq_getElem h]
  rw [this]
/-- a row that is read so far -/
def GoodR (acc : List Ent) : Prop := ∃ n, RowN n acc
theorem GoodR.nil : GoodR [] := ⟨1, ⟨.nil, fun e h => by cases h⟩, by decide, by decide, fun e h => by cases h⟩
theorem GoodR.push {acc : List Ent} {e : Ent} (h : GoodR acc) (hf : folB acc e = true) (h1 : 1 ≤ e.1.length) (h3 : e.1.length ≤ 3) (hn : e.2 ≠ 0) : GoodR (acc ++ [e]) := by
  cases ha : acc.length with
  | zero =>
    have h0 : acc = [] := List.length_eq_zero_iff.mp ha
    subst h0
    refine ⟨e.1.length, ⟨List.pairwise_singleton _ _, fun x hx => ?_⟩, h1, h3, fun x hx => ?_⟩
    · rw [List.mem_singleton.mp hx]
      exact hn
    · rw [List.mem_singleton.mp hx]
  | succ k =>
    obtain ⟨n, hN⟩ := h
    have hk : k < acc.length := by omega
    rw [fol_get hk ha, Bool.and_eq_true, decide_eq_true_iff] at hf
    obtain ⟨hf1, hf2⟩ := hf
    have hm := List.getElem_mem hk
    refine ⟨n, ⟨?_, fun x hx => ?_⟩, hN.n1, hN.n3, fun x hx => ?_⟩
    · rw [List.pairwise_append]
      refine ⟨hN.v.asc, List.pairwise_singleton _ _, fun x hx y hy => ?_⟩
      rw [List.mem_singleton.mp hy]
      obtain ⟨i, hi, rfl⟩ := List.getElem_of_mem hx
      by_cases e2 : i = k
      · subst e2
        exact hf2
      · exact lt_trans (asc_get hN.v hi hk (by omega)) hf2
    · rcases List.mem_append.mp hx with hx | hx
      · exact hN.v.nz x hx
      · rw [List.mem_singleton.mp hx]
        exact hn
    · rcases List.mem_append.mp hx with hx | hx
      · exact hN.at_ x hx
      · rw [List.mem_singleton.mp hx, hf1]
        exact hN.at_ _ hm
section
variable {P : Program} {w : World} {K : PySem.W.Frag} {mg : Str → Option Value} {base : Heap}
def DueT (H : Hp) (v : V) (z : Str) : Prop :=
  (∃ (i : Nat) (t : Addr), textL z = .inl i ∧ v = .ref t ∧ H t = some (.tup [.str "BadText", .int (i : Nat)])) ∨
  (∃ (t p : Addr) (ws : List V) (r : List Ent), textL z = .inr r ∧ v = .ref t ∧ H t = some (.tup [.str "row", .ref p]) ∧ H p = some (.lst ws) ∧ Ents H ws r ∧ GoodR r ∧ r.length ≤ 601)
theorem DueT.mono {H H' : Hp} {v : V} {z : Str} (s : Same H H') (h : DueT H v z) : DueT H' v z := by
  rcases h with ⟨i, t, h1, h2, h3⟩ | ⟨t, p, ws, r, h1, h2, h3, h4, h5, h6⟩
  · exact .inl ⟨i, t, h1, h2, s _ _ h3⟩
  · exact .inr ⟨t, p, ws, r, h1, h2, s _ _ h3, s _ _ h4, h5.mono s, h6⟩
def spDue : Sp := fun vs H Q _ => ∃ z : Str, vs = [.str z] ∧ z.length ≤ 600 ∧ ∀ v H', Same H H' → DueT H' v z → Q v H'
theorem c__law_due {f : Addr} {fd : FuncData} (D : C8.Def K mg "_law_due" s__law_due f fd) (b : Binds K fd ["_law_text"] []) (T : Bi mg) (c__law_entry : C8.Cal P w K mg base 2 "_law_entry" spEnt []) : C8.Cal P w K mg base 3 "_law_due" spDue [] := by
  refine C8.cal0 D b .nil sc__law_due (fun vs H Q E h => ?_) (fun cdv A outer s H vs Q E hr h => ?_)
  · obtain ⟨z, rfl, _⟩ := h
    rfl
  · obtain ⟨z, rfl, hz, q⟩ := h
    refine ⟨_, (pss_cons (ps_if (pt_cmpR op_eq (pv 0) pe_str (nomark _)) (pss_one (ps_ret (pe_tup (pa_cons pe_str (pa_cons (pe_lst pa_nil) pa_nil))))) pss_nil)
  (pss_cons (ps_set (i := 1) sc__law_due.nd rfl (Or.inl rfl) (pe_lst pa_nil))
  (pss_cons (ps_set (i := 2) sc__law_due.nd rfl (Or.inl rfl) (pe_split (pv 0) pe_str))
  (pss_cons (ps_for PassesOwn.never rfl (pi_range1 rfl T.n_range (pa_cons (pe_callB call_len_seq (by rfl) T.n_len OT.b_len (pa_cons (pv 2) pa_nil)) pa_nil)) (pg_name (i := 3) sc__law_due.nd rfl (Or.inl rfl)) (pss_cons (ps_set (i := 4) sc__law_due.nd rfl (Or.inl rfl) (C8.pe_c c__law_entry hr (by decide) (by rfl) (pa_cons (pe_ix ix_list (pv 2) (pv 3) (fun _ _ => rfl)) pa_nil)))
  (pss_cons (ps_if (pt_cmpR op_isN (pv 4) pe_non (nomark _)) (pss_one (ps_ret (pe_tup (pa_cons pe_str (pa_cons (pv 3) pa_nil))))) pss_nil)
  (pss_cons (ps_if (PW.pt (pw_and (pt_cmpR op_gt (pv 3) pe_int (nomark _)) (pw_and1 (PW.pt (pw_or (pt_cmpR op_ne (pe_callB call_len_seq (by rfl) T.n_len OT.b_len (pa_cons (pe_ix ix_tup (pv 4) pe_int (fun _ _ => rfl)) pa_nil)) (pe_callB call_len_seq (by rfl) T.n_len OT.b_len (pa_cons (pe_ix ix_tup (pe_ix ix_list (pv 1) pe_int (fun _ _ => rfl)) pe_int (fun _ _ => rfl)) pa_nil)) (nomark _)) (pw_or1 (pt_not (pt_cmpR (op_ltT hr.units0) (pe_ix ix_tup (pe_ix ix_list (pv 1) (pe_op op_sub (pv 3) pe_int) (fun _ _ => rfl)) pe_int (fun _ _ => rfl)) (pe_ix ix_tup (pv 4) pe_int (fun _ _ => rfl)) (nomark _))))))))) (pss_one (ps_ret (pe_tup (pa_cons pe_str (pa_cons (pv 3) pa_nil))))) pss_nil)
  (pss_one (ps_expr (pe_bm PySem.F.plainAttrs_list PySem.F.slot_list_append PySem.F.type_list_append mt_append (pv 1) (pa_cons (pv 4) pa_nil))))))))
  (pss_one (ps_ret (pe_tup (pa_cons pe_str (pa_cons (pv 1) pa_nil))))))))), ?_⟩
    refine ⟨_, rfl, rfl, _, rfl, iteD (fun h => ?_) (fun h => ?_)⟩
    · have h2 : textL z = .inr [] := if_pos (V.str.inj h)
      refine ⟨Nat.zero_le _, fun p np => ⟨(by show 2 ≤ sizeLine; decide), fun t nt => ?_⟩⟩
      have s1 : Same H (upd H p (.lst [])) := same_upd np
      have s2 : Same (upd H p (.lst [])) (upd (upd H p (.lst [])) t (.tup [.str "row", .ref p])) := same_upd nt
      exact q _ _ (s1.trans s2) (.inr ⟨t, p, [], [], h2, rfl, upd_same, s2 _ _ upd_same, .nil, GoodR.nil, by decide⟩)
    have htx : textL z = readL 0 [] (words z) := if_neg fun e => h (by rw [e])
    have hwl := words_len z
    refine ⟨Nat.zero_le _, fun p np => ?_⟩
    have s1 : Same H (upd H p (.lst [])) := same_upd np
    refine ⟨_, rfl, ⟨_, rfl⟩, z, " ", rfl, rfl, sp_z, Nat.le_of_lt (small1000 (by omega)), fun p2 np2 => ?_⟩
    obtain ⟨np2H, hpp⟩ := none_of_upd np2
    have e0 : Txt.split z (" " : Str) = words z := rfl
    rw [e0]
    have s2 : Same (upd H p (.lst [])) (upd (upd H p (.lst [])) p2 (.lst ((words z).map V.str))) := same_upd np2
    have hp20 : (upd (upd H p (.lst [])) p2 (.lst ((words z).map V.str))) p2 = some (.lst ((words z).map V.str)) := upd_same
    have hp0 := s2 _ _ (upd_same : (upd H p (.lst [])) p = _)
    have s3 := s1.trans s2
    generalize upd (upd H p (.lst [])) p2 (.lst ((words z).map V.str)) = H1 at s3 hp20 hp0 ⊢
    refine ⟨_, rfl, p2, _, rfl, .inl (.inl (.inl hp20)), _, rfl, by omega, b62 (by rw [List.length_map]; omega), ?_⟩
    rw [List.length_map, Int.toNat_natCast]
    refine for_range (lo := 0) (n := (words z).length) (fun i σ H2 => ∃ (acc : List Ent) (ws : List V) (y3 y4 : Option V), σ = [some (.str z), some (.ref p), some (.ref p2), y3, y4] ∧ Same H H2 ∧ H2 p = some (.lst ws) ∧ Ents H2 ws acc ∧ readL i acc ((words z).drop i) = textL z ∧ acc.length = i ∧ GoodR acc ∧ H2 p2 = some (.lst ((words z).map V.str))) ?_ ?_ ?_
    · exact ⟨[], [], none, none, rfl, s3, hp0, .nil, htx.symm, rfl, GoodR.nil, hp20⟩
    · rintro i σ H2 hi ⟨acc, ws, y3, y4, rfl, sm, hp, hE, e, hal, hG, hw⟩
      rw [drop_cons hi] at e
      have hwi := hwl.1 _ (List.getElem_mem hi)
      have hix : atI ((words z).map V.str) ((0 : Int) + (i : Int)) = some (.str (words z)[i]) := by
        rw [Int.zero_add]
        exact atI_nat (by rw [List.getElem?_map, List.getElem?_eq_getElem hi]; rfl)
      have out : ∀ (y4 : Option V) (H4 : Hp) (D : Ends), D.rt = Q → Same H H4 → textL z = .inl i → tRet (tTup (tCons (tC (.str "BadText")) (tCons (tVar 3) tNil))) D [some (.str z), some (.ref p), some (.ref p2), some (.int ((0 : Int) + (i : Int))), y4] H4 := fun y4 H4 D hD sB h0 => by
        refine ⟨_, rfl, (by show 2 ≤ sizeLine; decide), fun t2 nt2 => ?_⟩
        rw [hD]
        refine q _ _ (sB.trans (same_upd nt2)) (.inl ⟨i, t2, h0, rfl, ?_⟩)
        rw [upd_same, Int.zero_add]
      refine ⟨_, rfl, _, rfl, p2, _, _, _, rfl, rfl, .inl (.inl hw), hix, _, rfl, by omega, fun v H4 sm4 hv => ?_⟩
      have sB := sm.trans sm4
      cases en : entL (words z)[i] with
      | none =>
        rw [en] at hv
        obtain rfl : v = .non := hv
        rw [readL_none en] at e
        refine ⟨_, rfl, rfl, _, rfl, iteT ?_⟩
        exact out _ _ _ rfl sB e.symm
      | some et =>
        rw [en] at hv
        have hv' : EntAt H4 v et := hv
        obtain ⟨te, pe, rfl, hte, hpe⟩ := hv
        obtain ⟨ok1, ok3, okn⟩ := entL_ok en (by omega)
        have hp4 := sm4 _ _ hp
        have hE4 := hE.mono sm4
        have hlw := hE.len
        have hTe : SqT K H4 te [.ref pe, .int et.2] := .inl (.inl hte)
        have hPe : SqT K H4 pe (et.1.map V.int) := .inl (.inl hpe)
        have hS4 : SqL K H4 p ws := .inl (.inl hp4)
        refine ⟨_, rfl, rfl, _, rfl, iteF ?_⟩
        refine ⟨_, rfl, _, _, rfl, rfl, _, rfl, iteD (fun hk => ?_) (fun hk => iteF ?_)⟩
        · obtain ⟨k, rfl⟩ : ∃ k, i = k + 1 := ⟨i - 1, by omega⟩
          obtain ⟨n, hN⟩ := hG
          have hka : k < acc.length := by omega
          have hfol := fol_get (e := et) hka hal
          obtain ⟨v0, hv0, t0, q0, rfl, ht0, hq0⟩ := hE4.at (i := 0) (by omega)
          obtain ⟨v1, hv1, t1, q1, rfl, ht1, hq1⟩ := hE4.at (i := k) hka
          have hl0 : (acc[0]'(by omega)).1.length = n := hN.at_ _ (List.getElem_mem _)
          have hl1 : acc[k].1.length = n := hN.at_ _ (List.getElem_mem _)
          refine ⟨_, rfl, te, _, 0, _, rfl, rfl, hTe, atI_nat (j := 0) rfl, pe, _, rfl, .inr hPe, ?_⟩
          refine ⟨_, rfl, p, _, 0, _, rfl, rfl, hS4, atI_nat (j := 0) hv0, t0, _, 0, _, rfl, rfl, .inl (.inl ht0), atI_nat (j := 0) rfl, q0, _, rfl, .inr (.inl (.inl hq0)), rfl, _, rfl, ?_⟩
          rw [List.length_map, List.length_map]
          refine iteND (fun hne => iteT ?_) (fun heq => ?_)
          · have hf : folB acc et = false := by
              rw [hfol, decide_eq_false (fun z => hne (by rw [z, hl1, hl0])), Bool.false_and]
            rw [readL_bad en hf] at e
            exact out _ _ _ rfl sB e.symm
          · have hle : et.1.length = acc[k].1.length := by
              have := V.int.inj heq
              omega
            refine ⟨_, rfl, _, rfl, _, _, rfl, rfl, p, _, _, _, rfl, rfl, hS4, ?_, t1, _, 0, _, rfl, rfl, .inl (.inl ht1), atI_nat (j := 0) rfl, _, rfl, te, _, 0, _, rfl, rfl, hTe, atI_nat (j := 0) rfl, q1, pe, _, _, rfl, rfl, .inl (.inl hq1), hPe, _, rfl, ?_⟩
            · rw [show (0 : Int) + ((k + 1 : Nat) : Int) - 1 = (k : Int) by omega]
              exact atI_nat hv1
            · cases hlt : HT.lexLt acc[k].1 et.1 with
              | false =>
                have hf : folB acc et = false := by
                  rw [hfol, hlt, Bool.and_false]
                rw [readL_bad en hf] at e
                refine iteT ?_
                exact out _ _ _ rfl sB e.symm
              | true =>
                have hf : folB acc et = true := by
                  rw [hfol, hlt, decide_eq_true hle]
                  rfl
                rw [readL_good en hf] at e
                refine iteF ?_
                refine ⟨_, rfl, .inl ⟨rfl, _, hS4⟩, _, rfl, p, _, _, rfl, rfl, hp4, small1000 (by omega), ?_⟩
                refine ⟨acc ++ [et], _, _, _, rfl, same_mut sB np, upd_same, (hE4.app (.cons hv' .nil)).updL hp4, e, by rw [List.length_append, hal]; rfl, GoodR.push ⟨n, hN⟩ hf ok1 ok3 okn, ?_⟩
                rw [upd_ne hpp.symm]
                exact sm4 _ _ hw
        · have hi0 : i = 0 := by omega
          subst hi0
          have ha0 : acc = [] := List.length_eq_zero_iff.mp hal
          have hf : folB acc et = true := by
            rw [ha0]
            rfl
          rw [readL_good en hf] at e
          refine ⟨_, rfl, .inl ⟨rfl, _, hS4⟩, _, rfl, p, _, _, rfl, rfl, hp4, small1000 (by omega), ?_⟩
          refine ⟨acc ++ [et], _, _, _, rfl, same_mut sB np, upd_same, (hE4.app (.cons hv' .nil)).updL hp4, e, by rw [List.length_append, hal]; rfl, hG.push hf ok1 ok3 okn, ?_⟩
          rw [upd_ne hpp.symm]
          exact sm4 _ _ hw
    · rintro σ H2 ⟨acc, ws, y3, y4, rfl, sm, hp, hE, e, hal, hG, hw⟩
      rw [List.drop_length] at e
      refine ⟨_, rfl, (by show 2 ≤ sizeLine; decide), fun t nt => ?_⟩
      have s5 : Same H2 (upd H2 t (.tup [.str "row", .ref p])) := same_upd nt
      exact q _ _ (sm.trans s5) (.inr ⟨t, p, ws, acc, e.symm, rfl, upd_same, s5 _ _ hp, hE.mono s5, hG, by omega⟩)
end
end OT

set_option Elab.async false
set_option linter.all false
set_option maxRecDepth 100000
set_option maxHeartbeats 2000000
namespace OT
open PySem PySem.Spec PyProof.Rows L2
section
variable {P : Program} {w : World} {K : PySem.W.Frag} {mg : Str → Option Value} {base : Heap}
/-! ### asked of the error that is held -/
def spIntE : SpE := fun _ _ _ vs H Q _ => ∃ i : Int, vs = [.int i] ∧ Q (.bl true) H
theorem h__law_is_integer {f : Addr} {fd : FuncData} (D : C8.Def K mg "_law_is_integer" s__law_is_integer f fd) (T : Bi mg) : FnE P w K mg base 1 f fd ["_law_actual"] spIntE := by
  refine fnE_of D.fn sc__law_is_integer (fun a c d vs H Q E h => ?_) (fun cdv A outer s H vs Q p c d zc fld hr h => ?_)
  · obtain ⟨i, rfl, _⟩ := h
    rfl
  · obtain ⟨i, rfl, q⟩ := h
    refine ⟨_, (pss_one (ps_ret (pe_and (pe_callB call_isi (by rfl) T.n_isinstance OT.b_isinstance (pa_cons (pv 0) (pa_cons (pe_bltn (v := .ty "int") (by rfl) T.n_int OT.b_int rfl) pa_nil))) (pe_one (pe_not (pe_callB call_isi (by rfl) T.n_isinstance OT.b_isinstance (pa_cons (pv 0) (pa_cons (pe_bltn (v := .ty "bool") (by rfl) T.n_bool OT.b_bool rfl) pa_nil)))))))), ?_⟩
    refine ⟨_, rfl, _, _, _, _, _, rfl, .ty _, .base (.int i), kit_ty kb_ii, _, rfl, ?_⟩
    refine iteT ?_
    exact ⟨_, rfl, _, _, _, _, _, rfl, .ty _, .base (.int i), kit_ty kb_ib, _, rfl, q⟩
/-- the held error bears these fields -/
structure HeldF (K : PySem.W.Frag) (H : Hp) (C dd : Addr) (c : Value) (d : Option Addr) (fs : List (Str × V)) : Prop where
  c : c = .ref C
  d : d = some dd
  t : PySem.W.OtCls K C
  h : H dd = some (.xd fs)
def spErrE (K : PySem.W.Frag) (B : Addr) : SpE := fun a c d vs H Q _ => ∃ (C dd : Addr) (fs : List (Str × V)) (nm : Str), vs = [.ref a, .str nm] ∧ HeldF K H C dd c d fs ∧ PySem.W.findIn K (.ref C) "word" = some none ∧ fs.lookup ("word" : Str) = some (V.str nm) ∧
  PySem.W.kitOne K (.ref C) (.ref B) = some true ∧ PySem.W.kitOne K (.ref C) (.type "ValueError") = some true ∧ Q (.bl true) H
theorem h__law_is_error {f B : Addr} {fd : FuncData} (D : C8.Def K mg "_law_is_error" s__law_is_error f fd) (T : Bi mg) (gB : mg "TableError" = some (.ref B)) (nV : mg "ValueError" = none) : FnE P w K mg base 1 f fd ["_law_e", "_law_word"] (spErrE K B) := by
  refine fnE_of D.fn sc__law_is_error (fun a c d vs H Q E h => ?_) (fun cdv A outer s H vs Q p c d zc fld hr h => ?_)
  · obtain ⟨C, dd, fs, nm, rfl, _⟩ := h
    rfl
  · obtain ⟨C, dd, fs, nm, rfl, hh, nw, lw, kB, kV, q⟩ := h
    have hp : p ∈ (L2H.cxH L2.CX0 P w K mg base ["_law_e", "_law_word"] "_law_is_error" (C8.fnScope s__law_is_error) f cdv A outer s H E0 p).pn := List.mem_cons_self
    refine ⟨_, pss_one (ps_ret (pe_and (pe_callB (call_isX hp zc fld) (by rfl) T.n_isinstance OT.b_isinstance (pa_cons (pv 0) (pa_cons (pe_glob (v := .ref B) (by rfl) gB rfl) pa_nil)))
      (pe_and (pe_callB (call_isX hp zc fld) (by rfl) T.n_isinstance OT.b_isinstance (pa_cons (pv 0) (pa_cons (pe_bltn (v := .ty "ValueError") (by rfl) nV OT.b_ValueError rfl) pa_nil)))
      (pe_and (pe_callB call_isi (by rfl) T.n_isinstance OT.b_isinstance (pa_cons (pe_fX hp zc fld (pv 0)) (pa_cons (pe_bltn (v := .ty "str") (by rfl) T.n_str OT.b_str rfl) pa_nil)))
      (pe_one (pe_cmpR op_eq (pe_fX hp zc fld (pv 0)) (pv 1) (nomark _))))))), ?_⟩
    refine ⟨_, rfl, C, dd, fs, _, _, _, rfl, hh.c, hh.d, hh.t, hh.h, .own B, kB, _, rfl, ?_⟩
    refine iteT ?_
    refine ⟨_, rfl, C, dd, fs, _, _, _, rfl, hh.c, hh.d, hh.t, hh.h, .ty _, kV, _, rfl, ?_⟩
    refine iteT ?_
    refine ⟨_, rfl, C, dd, fs, _, rfl, hh.c, hh.d, hh.t, nw, hh.h, lw, _, _, _, _, _, rfl, .ty _, .base (.str nm), kit_ty kb_ss, _, rfl, ?_⟩
    refine iteT ?_
    refine ⟨_, rfl, C, dd, fs, _, rfl, hh.c, hh.d, hh.t, nw, hh.h, lw, _, rfl, rfl, ?_⟩
    rw [decide_eq_true rfl]
    exact q
/-- what isinstance says of the class at C -/
structure KitE (K : PySem.W.Frag) (B C : Addr) : Prop where
  b : PySem.W.kitOne K (.ref C) (.ref B) = some true
  v : PySem.W.kitOne K (.ref C) (.type "ValueError") = some true
theorem roomH_m {k : Nat} {A : Around} {v : Option Value} (r : Room k A) : L2H.RoomH k (A.mark v) := ⟨r.dp, r.un⟩
/-- the classes told apart -/
structure Kit3 (K : PySem.W.Frag) (C C2 C3 C4 : Addr) : Prop where
  c1 : PySem.W.kitOne K (.ref C) (.ref C) = some true
  c2 : PySem.W.kitOne K (.ref C) (.ref C2) = some false
  c3 : PySem.W.kitOne K (.ref C) (.ref C3) = some false
  c4 : PySem.W.kitOne K (.ref C) (.ref C4) = some false
def spRefE (K : PySem.W.Frag) (C : Addr) : SpE := fun a c d vs H Q _ => ∃ (dd : Addr) (i : Nat), vs = [.ref a, .int (i : Nat)] ∧ HeldF K H C dd c d (errT i) ∧ Q (.bl true) H
theorem h__law_refused {f B C C2 C3 C4 f1 f2 : Addr} {fd fd1 fd2 : FuncData} (D : C8.Def K mg "_law_refused" s__law_refused f fd) (T : Bi mg) (t : OtErr K C "BadText") (k : KitE K B C)
    (gC : mg "BadText" = some (.ref C)) (g2 : mg "BadPlace" = some (.ref C2)) (g3 : mg "BadLine" = some (.ref C3)) (g4 : mg "MixedDimensions" = some (.ref C4)) (kk : Kit3 K C C2 C3 C4)
    (D1 : C8.Def K mg "_law_is_error" s__law_is_error f1 fd1) (b1 : Binds K fd1 ["_law_e", "_law_word"] []) (F1 : FnE P w K mg base 1 f1 fd1 ["_law_e", "_law_word"] (spErrE K B))
    (D2 : C8.Def K mg "_law_is_integer" s__law_is_integer f2 fd2) (b2 : Binds K fd2 ["_law_actual"] []) (F2 : FnE P w K mg base 1 f2 fd2 ["_law_actual"] spIntE) :
    FnE P w K mg base 2 f fd ["_law_e", "_law_index"] (spRefE K C) := by
  refine fnE_of D.fn sc__law_refused (fun a c d vs H Q E h => ?_) (fun cdv A outer s H vs Q p c d zc fld hr h => ?_)
  · obtain ⟨dd, i, rfl, _⟩ := h
    rfl
  · obtain ⟨dd, i, rfl, hh, q⟩ := h
    have hp : p ∈ (L2H.cxH L2.CX0 P w K mg base ["_law_e", "_law_index"] "_law_refused" (C8.fnScope s__law_refused) f cdv A outer s H E0 p).pn := List.mem_cons_self
    refine ⟨_, pss_cons (ps_if (PW.pt (pw_or (pt_val (pe_callB (call_isX hp zc fld) (by rfl) T.n_isinstance OT.b_isinstance (pa_cons (pv 0) (pa_cons (pe_glob (v := .ref C2) (by rfl) g2 rfl) pa_nil))))
        (pw_or (pt_val (pe_callB (call_isX hp zc fld) (by rfl) T.n_isinstance OT.b_isinstance (pa_cons (pv 0) (pa_cons (pe_glob (v := .ref C3) (by rfl) g3 rfl) pa_nil))))
        (pw_or1 (pt_val (pe_callB (call_isX hp zc fld) (by rfl) T.n_isinstance OT.b_isinstance (pa_cons (pv 0) (pa_cons (pe_glob (v := .ref C4) (by rfl) g4 rfl) pa_nil)))))))) (pss_one (ps_ret pe_bl)) pss_nil)
      (pss_cons (ps_if (PW.pt (pw_or (pt_not (pt_val (pe_callB (call_isX hp zc fld) (by rfl) T.n_isinstance OT.b_isinstance (pa_cons (pv 0) (pa_cons (pe_glob (v := .ref C) (by rfl) gC rfl) pa_nil)))))
        (pw_or1 (pt_not (pt_val (pe_callE F1 hr hp zc fld (by rfl) D1.mgf D1.kp b1 (pa_cons (pv 0) (pa_cons pe_str pa_nil)))))))) (pss_one (ps_ret pe_bl)) pss_nil)
      (pss_one (ps_ret (pe_and (pe_callE F2 hr hp zc fld (by rfl) D2.mgf D2.kp b2 (pa_cons (pe_fX hp zc fld (pv 0)) pa_nil))
        (pe_one (pe_cmpR op_eq (pe_fX hp zc fld (pv 0)) (pv 1) (nomark _))))))), ?_⟩
    refine ⟨_, rfl, C, dd, _, _, _, _, rfl, hh.c, hh.d, hh.t, hh.h, .own C2, kk.c2, _, rfl, ?_⟩
    refine iteF ?_
    refine ⟨_, rfl, C, dd, _, _, _, _, rfl, hh.c, hh.d, hh.t, hh.h, .own C3, kk.c3, _, rfl, ?_⟩
    refine iteF ?_
    refine ⟨_, rfl, C, dd, _, _, _, _, rfl, hh.c, hh.d, hh.t, hh.h, .own C4, kk.c4, _, rfl, ?_⟩
    refine iteF ?_
    refine ⟨_, rfl, C, dd, _, _, _, _, rfl, hh.c, hh.d, hh.t, hh.h, .own C, kk.c1, _, rfl, ?_⟩
    refine iteF ?_
    refine ⟨_, rfl, C, dd, _, "BadText", rfl, hh, t.nw, rfl, k.b, k.v, _, rfl, ?_⟩
    refine iteF ?_
    refine ⟨_, rfl, C, dd, _, _, rfl, hh.c, hh.d, hh.t, t.ni, hh.h, rfl, _, rfl, _, rfl, ?_⟩
    refine iteT ?_
    refine ⟨_, rfl, C, dd, _, _, rfl, hh.c, hh.d, hh.t, t.ni, hh.h, rfl, _, rfl, rfl, ?_⟩
    rw [decide_eq_true rfl]
    exact q
def spAsk : Sp := fun vs H Q _ => ∃ z : Str, vs = [.str z] ∧ z.length ≤ 600 ∧ ∀ H', Same H H' → Q (.bl true) H'
theorem c__law_read_asked {f B C fR fE : Addr} {fd fdR fdE : FuncData} (D : C8.Def K mg "_law_read_asked" s__law_read_asked f fd) (b : Binds K fd ["_law_text"] []) (T : Bi mg) (gB : mg "TableError" = some (.ref B)) (tC_ : OtErr K C "BadText") (eC : PySem.W.exmOne K (.ref C) (.ref B) = some true)
    (DR : C8.Def K mg "read_row" s_read_row fR fdR) (bR : Binds K fdR ["text"] []) (GR : FnOk P w K mg base (L2.CX P w) 4 fR fdR ["text"] (spRead K C))
    (DE : C8.Def K mg "_law_refused" s__law_refused fE fdE) (bE : Binds K fdE ["_law_e", "_law_index"] []) (GE : FnE P w K mg base 2 fE fdE ["_law_e", "_law_index"] (spRefE K C))
    (c__law_due : C8.Cal P w K mg base 3 "_law_due" spDue []) (c__law_same : C8.Cal P w K mg base 4 "_law_same" (spSame K) []) : C8.Cal P w K mg base 5 "_law_read_asked" spAsk [] := by
  refine C8.cal0 D b .nil sc__law_read_asked (fun vs H Q E h => ?_) (fun cdv A outer s H vs Q E hr h => ?_)
  · obtain ⟨z, rfl, _⟩ := h
    rfl
  · obtain ⟨z, rfl, hz, q⟩ := h
    refine ⟨_, pss_cons (ps_set (i := 1) sc__law_read_asked.nd rfl (Or.inl rfl) (C8.pe_c c__law_due hr (by decide) (by rfl) (pa_cons (pv 0) pa_nil)))
      (pss_cons (ps_try_as (i := 2) (tb := fun W => tAsg (tCallS (spRead K C) (WE W) (tCons (tVar 0) tNil)) (gName 3)) (ts := fun a cls d => tRet (tAndV (tOp rEq (tOp (rIxT K) (tVar 1) (tC (.int 0))) (tC (.str "BadText"))) (fun σ H Q => tCons (tVar 2) (tCons (tOp (rIxT K) (tVar 1) (tC (.int 1))) tNil) σ H fun vs H1 => spRefE K C a cls d vs H1 Q E0))) (Wout := fun _ _ _ _ => False) rfl rfl sc__law_read_asked.nd rfl rfl ⟨rfl, by decide, Or.inl gB⟩ takes0
        (fun W pn xe tk _ => pss_one (ps_set (i := 3) sc__law_read_asked.nd rfl (Or.inl rfl) (pe_callS GR hr rfl DR.mgf DR.kp bR (fun σ => passAt tk σ) (pa_cons (pv 0) pa_nil))))
        (fun a oe cls d pn hz hf => pss_one (ps_ret (pe_and (by exact pe_cmpR op_eq (pe_ix ix_tup (pv 1) pe_int (fun _ _ => rfl)) pe_str (nomark _))
          (pe_one (by exact pe_callE (p := (a, oe)) GE (roomH_m (hr.mono (by decide : 2 ≤ 4))) List.mem_cons_self hz hf (by rfl) DE.mgf DE.kp bE (pa_cons (pv 2) (pa_cons (pe_ix ix_tup (pv 1) pe_int (fun _ _ => rfl)) pa_nil))))))))
      (pss_cons (ps_if (PW.pt (pw_or (pt_cmpR op_ne (pe_ix ix_tup (pv 1) pe_int (fun _ _ => rfl)) pe_str (nomark _)) (pw_or1 (pt_not (pt_val (C8.pe_c c__law_same hr (by decide) (by rfl) (pa_cons (pv 3) (pa_cons (pe_ix ix_tup (pv 1) pe_int (fun _ _ => rfl)) pa_nil)))))))) (pss_one (ps_ret pe_bl)) pss_nil)
      (pss_cons (ps_expr (pe_bm PySem.F.plainAttrs_list PySem.F.slot_list_append PySem.F.type_list_append mt_append (pv 3) (pa_cons (pe_tup (pa_cons (pe_tup (pa_cons pe_int pa_nil)) (pa_cons pe_int pa_nil))) pa_nil)))
      (pss_one (ps_ret pe_bl))))), ?_⟩
    refine ⟨_, rfl, z, rfl, hz, fun dv H1 s1 hD => ?_⟩
    refine ⟨_, rfl, z, rfl, hz, fun i hi d H2 sm hd => ?_, fun r hrr p ws H2 sm np hp he hrl => ?_⟩
    · rcases hD.mono sm with ⟨i', t, k1, rfl, k3⟩ | ⟨t, p, ws, r, k1, _⟩
      · rw [hi] at k1
        cases k1
        have hT : SqT K H2 t [.str "BadText", .int (i : Nat)] := .inl (.inl k3)
        refine ⟨true, eC, fun _ a na => ?_, fun h => by cases h⟩
        refine ⟨_, rfl, t, _, 0, _, rfl, rfl, hT, atI_nat (j := 0) rfl, rfl, _, rfl, ?_⟩
        rw [decide_eq_true rfl]
        refine iteT ?_
        exact ⟨_, rfl, _, rfl, t, _, 1, _, rfl, rfl, hT, atI_nat (j := 1) rfl, d, i, rfl, ⟨rfl, rfl, tC_.oc, hd⟩, q _ (s1.trans sm)⟩
      · rw [hi] at k1
        cases k1
    · rcases hD.mono sm with ⟨i', t, k1, _⟩ | ⟨t, p2, us, r2, k1, rfl, k3, k4, k5, ⟨n, hN⟩, k7⟩
      · rw [hrr] at k1
        cases k1
      · rw [hrr] at k1
        cases k1
        have hT : SqT K H2 t [.str "row", .ref p2] := .inl (.inl k3)
        have hwr := he.len
        refine ⟨_, rfl, t, _, 0, _, rfl, rfl, hT, atI_nat (j := 0) rfl, rfl, _, rfl, iteNS rfl ?_⟩
        refine ⟨_, rfl, _, rfl, t, _, 1, _, rfl, rfl, hT, atI_nat (j := 1) rfl, p, p2, ws, us, r, n, rfl, hp, he, k4, k5, hN, by omega, _, rfl, ?_⟩
        refine iteF ?_
        refine ⟨_, rfl, .inl ⟨rfl, _, .inl (.inl hp)⟩, (by show 1 ≤ sizeLine; decide), fun t1 nt1 => ⟨(by show 2 ≤ sizeLine; decide), fun t2 nt2 => ?_⟩⟩
        have sm1 : Same H2 (upd H2 t1 (.tup [.int 0])) := same_upd nt1
        have sm2 : Same (upd H2 t1 (.tup [.int 0])) (upd (upd H2 t1 (.tup [.int 0])) t2 (.tup [.ref t1, .int 1])) := same_upd nt2
        have sm3 := sm.trans (sm1.trans sm2)
        refine ⟨p, ws, _, rfl, rfl, (sm1.trans sm2) _ _ hp, small1000 (by omega), ?_⟩
        exact q _ (s1.trans (same_mut sm3 np))
end
end OT

set_option Elab.async false
set_option linter.all false
set_option maxRecDepth 100000
set_option maxHeartbeats 4000000
namespace OT
open PySem PySem.Spec PyProof.Rows L2
open TL (tl)
theorem writL_len {r : List Ent} (h : ∀ e ∈ r, SmallE e) (hl : r.length ≤ 8) : (writL r).length ≤ 248 := by
  unfold writL
  by_cases e : r = []
  · rw [if_pos e]
    exact (by decide +kernel : ("0" : Str).length ≤ 248)
  · rw [if_neg e]
    exact (words_small h hl).1
theorem zero1 : ("0" : Str).length = 1 := by decide +kernel
theorem nl1 : ("\n" : Str).length = 1 := by decide +kernel
section
variable {P : Program} {w : World} {K : PySem.W.Frag} {mg : Str → Option Value} {base : Heap}
def spLaw (K : PySem.W.Frag) : Sp := fun vs H Q _ => ∃ (a : Addr) (ns : List Int), vs = [.ref a] ∧ SqL K H a (ns.map V.int) ∧ ns.length ≤ 63 ∧ ∀ H', Q (.bl true) H'
theorem c_law {f : Addr} {fd : FuncData} (D : C8.Def K mg "law" s_law f fd) (b : Binds K fd ["_law_script"] []) (T : Bi mg)
    (c__law_cell : C8.Cal P w K mg base 1 "_law_cell" (spCell K) []) (c__law_draws : C8.Cal P w K mg base 1 "_law_draws" (spDraws K) []) (c__law_drawn_row : C8.Cal P w K mg base 4 "_law_drawn_row" (spDR K) []) (c__law_written : C8.Cal P w K mg base 1 "_law_written" (spWr K) [])
    (c__law_other_text : C8.Cal P w K mg base 2 "_law_other_text" (spOther K) []) (c_write_row : C8.Cal P w K mg base 2 "write_row" (spWr K) []) (c__law_read_asked : C8.Cal P w K mg base 5 "_law_read_asked" spAsk []) : FnOk P w K mg base L2.CX0 6 f fd ["_law_script"] (spLaw K) := by
  refine C8.fn0 D.fn sc_law (fun vs H Q E h => ?_) (fun cdv A outer s H vs Q E hr h => ?_)
  · obtain ⟨a, ns, rfl, _⟩ := h
    rfl
  · obtain ⟨a, ns, rfl, hS, hlen, q⟩ := h
    refine ⟨_, (pss_cons (ps_set (i := 1) sc_law.nd rfl (Or.inl rfl) (C8.pe_c c__law_drawn_row hr (by decide) (by rfl) (pa_cons (pv 0) (pa_cons (C8.pe_c c__law_draws hr (by decide) (by rfl) (pa_cons (C8.pe_c c__law_cell hr (by decide) (by rfl) (pa_cons (pv 0) (pa_cons pe_int pa_nil))) (pa_cons (pe_lst (pa_cons pe_int (pa_cons pe_int (pa_cons pe_int (pa_cons pe_int pa_nil))))) pa_nil))) pa_nil))))
  (pss_cons (ps_set (i := 2) sc_law.nd rfl (Or.inl rfl) (C8.pe_c c__law_written hr (by decide) (by rfl) (pa_cons (pv 1) pa_nil)))
  (pss_cons (ps_set (i := 3) sc_law.nd rfl (Or.inl rfl) (pe_lst (pa_cons (pv 2) (pa_cons (pe_op op_add_str (pv 2) pe_str) (pa_cons (pe_op op_add_str pe_str (pv 2)) (pa_cons (pe_op op_add_str (pv 2) pe_str) (pa_cons (pe_op op_add_str pe_str (pe_slice sl_str (pv 2) (po_some (pe_m1 PySem.F.slot_str_find PySem.F.type_str_find mt_find (pv 2) pe_str)) po_none)) pa_nil)))))))
  (C8.pss_cut (ps_if (pt_cmpR op_gt (pe_callB call_len_seq (by rfl) T.n_len OT.b_len (pa_cons (pv 1) pa_nil)) pe_int (nomark _)) (pss_one (ps_expr (pe_bm PySem.F.plainAttrs_list PySem.F.slot_list_append PySem.F.type_list_append mt_append (pv 3) (pa_cons (pe_op op_add_str (pe_callTy call_str_int (by rfl) T.n_str OT.b_str (pa_cons (pe_op op_sub (pe_un un_neg (pe_op op_pow pe_int pe_int)) (pe_callB call_abs (by rfl) T.n_abs OT.b_abs (pa_cons (pe_ix ix_tup (pe_ix ix_list (pv 1) pe_int (fun _ _ => rfl)) pe_int (fun _ _ => rfl)) pa_nil))) pa_nil)) (pe_slice sl_str (pv 2) (po_some (pe_m1 PySem.F.slot_str_find PySem.F.type_str_find mt_find (pv 2) pe_str)) po_none)) pa_nil)))) pss_nil)
  (pss_cons (ps_for PassesOwn.never rfl (pi_range1 rfl T.n_range (pa_cons pe_int pa_nil)) (pg_name (i := 4) sc_law.nd rfl (Or.inl rfl)) (pss_cons (ps_set (i := 6) sc_law.nd rfl (Or.inl rfl) (C8.pe_c c__law_draws hr (by decide) (by rfl) (pa_cons (C8.pe_c c__law_cell hr (by decide) (by rfl) (pa_cons (pv 0) (pa_cons (pe_op op_add pe_int (pv 4)) pa_nil))) (pa_cons (pe_lst (pa_cons pe_int (pa_cons pe_int (pa_cons pe_int (pa_cons pe_int (pa_cons pe_int (pa_cons pe_int pa_nil))))))) pa_nil))))
  (pss_one (ps_expr (pe_bm PySem.F.plainAttrs_list PySem.F.slot_list_append PySem.F.type_list_append mt_append (pv 3) (pa_cons (C8.pe_c c__law_other_text hr (by decide) (by rfl) (pa_cons (pv 2) (pa_cons (pv 6) pa_nil))) pa_nil))))))
  (pss_cons (ps_for PassesOwn.never rfl (pi_range1 rfl T.n_range (pa_cons pe_int pa_nil)) (pg_name (i := 5) sc_law.nd rfl (Or.inl rfl)) (pss_cons (ps_set (i := 7) sc_law.nd rfl (Or.inl rfl) (pe_callTy call_list_of (by rfl) T.n_list OT.b_list (pa_cons (pv 1) pa_nil)))
  (pss_cons (ps_set (i := 8) sc_law.nd rfl (Or.inl rfl) (C8.pe_c c_write_row hr (by decide) (by rfl) (pa_cons (pv 7) pa_nil)))
  (pss_cons (ps_if (PW.pt (pw_or (pt_not (pt_val (pe_callB call_isi (by rfl) T.n_isinstance OT.b_isinstance (pa_cons (pv 8) (pa_cons (pe_bltn (v := .ty "str") (by rfl) T.n_str OT.b_str rfl) pa_nil))))) (pw_or (pt_cmpR op_ne (pv 8) (pv 2) (nomark _)) (pw_or1 (pt_cmpR (op_neD hr.units) (pv 7) (pv 1) (nomark _)))))) (pss_one (ps_ret pe_bl)) pss_nil)
  (pss_one (ps_for PassesOwn.never rfl (pi_list (pv 3)) (pg_name (i := 9) sc_law.nd rfl (Or.inl rfl)) (pss_one (ps_if (pt_not (pt_val (C8.pe_c c__law_read_asked hr (by decide) (by rfl) (pa_cons (pv 9) pa_nil)))) (pss_one (ps_ret pe_bl)) pss_nil))))))))
  (pss_one (ps_ret pe_bl)))))))), ?_⟩
    have sz : ∀ {k : Nat}, k ≤ 1000 → k ≤ sizeLine := fun h => Nat.le_of_lt (small1000 h)
    refine ⟨_, rfl, _, rfl, a, ns, 0, rfl, hS, by decide, fun c => ?_⟩
    refine ⟨by decide, fun p np => ?_⟩
    refine ⟨p, zsR, c, rfl, .inl (.inl upd_same), by decide, by decide, fun ds H1 p1 hin sm1 np1 hp1 => ?_⟩
    have sA : Same H H1 := (same_upd np).trans sm1
    refine ⟨a, p1, ns, ds, rfl, sA.seq hS, .inl (.inl hp1), hin, fun p2 ws r H2 sm2 np2 hp2 hE hsm hrl => ?_⟩
    have sB := sA.trans sm2
    refine ⟨_, rfl, p2, ws, r, rfl, hp2, hE, hsm, hrl, fun H3 sm3 => ?_⟩
    have hwl := writL_len hsm hrl
    generalize hwr : writL r = wr at hwl ⊢
    have sC := sB.trans sm3
    have cl := fun lo hi => cutS_length wr lo hi
    have hc := cl (some (Txt.find wr "@")) none
    have hwz : wr.length ≤ sizeLine := sz (by omega)
    refine ⟨_, rfl, _, rfl, _, _, rfl, rfl, ?_, _, rfl, _, _, rfl, rfl, ?_, _, rfl, _, _, rfl, rfl, ?_, _, rfl, _, rfl, ⟨_, rfl⟩, _, _, rfl, rfl, _, rfl, _, rfl, hwz, _, _, rfl, rfl, ?_, (by show 5 ≤ sizeLine; decide), fun p4 np4 => ?_⟩
    · rw [sp1]
      exact sz (by omega)
    · rw [sp1]
      exact sz (by omega)
    · rw [nl1]
      exact sz (by omega)
    · rw [zero1]
      exact sz (by omega)
    have hp24 : H3 p2 = some (.lst ws) := sm3 _ _ hp2
    let ts : List Str := [wr, wr ++ (" " : Str), (" " : Str) ++ wr, wr ++ ("\n" : Str), ("0" : Str) ++ cutS wr (some (Txt.find wr "@")) none]
    have hts : ∀ y ∈ ts, y.length ≤ 600 := fun y hy => by
      simp only [ts, List.mem_cons, List.not_mem_nil, or_false] at hy
      rcases hy with rfl | rfl | rfl | rfl | rfl
      · omega
      · rw [Str.length_append, sp1]
        omega
      · rw [Str.length_append, sp1]
        omega
      · rw [Str.length_append, nl1]
        omega
      · rw [Str.length_append, zero1]
        omega
    have s4 : Same H3 (upd H3 p4 (.lst (ts.map V.str))) := same_upd np4
    have hp4 : (upd H3 p4 (.lst (ts.map V.str))) p4 = some (.lst (ts.map V.str)) := upd_same
    have htl : ts.length = 5 := rfl
    show C8.tCut _ _ _ _ (upd H3 p4 (.lst (ts.map V.str)))
    generalize upd H3 p4 (.lst (ts.map V.str)) = H4 at s4 hp4 ⊢
    have hrr : ∀ {H5 : Hp}, Same H3 H5 → H5 p2 = some (.lst ws) ∧ Ents H5 ws r := fun s => ⟨s _ _ hp24, hE.mono (sm3.trans s)⟩
    refine ⟨fun σ H5 => ∃ ts : List Str, σ = [some (.ref a), some (.ref p2), some (.str wr), some (.ref p4), none, none, none, none, none, none] ∧ Same H3 H5 ∧ H5 p4 = some (.lst (ts.map V.str)) ∧ ts.length ≤ 6 ∧ ∀ y ∈ ts, y.length ≤ 600, ?_, ?_⟩
    · obtain ⟨hp5, hE5⟩ := hrr s4
      have hS5 : SqL K H4 p2 ws := .inl (.inl hp5)
      refine ⟨_, rfl, p2, _, rfl, .inl hS5, _, _, rfl, rfl, _, rfl, iteD (fun h0 => ?_) (fun _ => ?_)⟩
      · have hwl2 := hE5.len
        obtain ⟨v, hv, t, pe, rfl, ht, hpe⟩ := hE5.at (i := 0) (by omega)
        have hm0 := hsm _ (List.getElem_mem (show 0 < r.length by omega))
        have hn0 := hm0.n
        have b13 : (10 : Nat) ^ 13 = 10000000000000 := by decide
        have b29 : ((10 : Int) ^ (29 : Int).toNat) = 100000000000000000000000000000 := by decide
        have b30 : (10 : Nat) ^ 30 = 1000000000000000000000000000000 := by decide
        refine ⟨_, rfl, .inl ⟨rfl, _, .inl (.inl hp4)⟩, 10, 29, rfl, rfl, ⟨by decide, by decide⟩, _, rfl, ?_⟩
        refine ⟨_, rfl, p2, _, 0, _, rfl, rfl, hS5, atI_nat (j := 0) hv, t, _, 1, _, rfl, rfl, .inl (.inl ht), atI_nat (j := 1) rfl, _, rfl, _, _, rfl, rfl, ?_⟩
        generalize hv0 : (r[0]'(by omega)).2 = v0 at hn0 ⊢
        have hnum : (-((10 : Int) ^ (29 : Int).toNat) - (if v0 < 0 then -v0 else v0)).natAbs < 10 ^ 30 := by
          rw [b29, b30]
          by_cases hneg : v0 < 0
          · rw [if_pos hneg]
            omega
          · rw [if_neg hneg]
            omega
        have hsl := strN_len (k := 30) (by decide) hnum
        have hlog : (-((10 : Int) ^ (29 : Int).toNat) - (if v0 < 0 then -v0 else v0)).natAbs.log2 < 1920 := strN_log (Nat.lt_trans hnum (by decide))
        refine ⟨_, rfl, hlog, _, rfl, _, rfl, ⟨_, rfl⟩, _, _, rfl, rfl, _, rfl, _, rfl, hwz, _, _, rfl, rfl, ?_, p4, _, _, rfl, rfl, hp4, ?_, ?_⟩
        · exact sz (Nat.le_trans (Nat.add_le_add hsl (Nat.le_trans hc hwl)) (by decide))
        · exact small1000 (by rw [List.length_map, htl]; decide)
        · refine ⟨ts ++ [strN (-((10 : Int) ^ (29 : Int).toNat) - (if v0 < 0 then -v0 else v0)) ++ cutS wr (some (Txt.find wr "@")) none], rfl, same_mut s4 np4, ?_, by rw [List.length_append, htl]; exact Nat.le_refl _, fun y hy => ?_⟩
          · rw [upd_same, List.map_append]
            rfl
          · rcases List.mem_append.mp hy with hy | hy
            · exact hts y hy
            · rw [List.mem_singleton.mp hy, Str.length_append]
              exact Nat.le_trans (Nat.add_le_add hsl (Nat.le_trans hc hwl)) (by decide)
      · exact ⟨ts, rfl, s4, hp4, by rw [htl]; decide, hts⟩
    clear hts hp4 s4
    rintro σ H5 ⟨ts2, rfl, s5, hp5, hl5, ht5⟩
    refine ⟨2, rfl, by decide, by decide, ?_⟩
    refine for_range (lo := 0) (n := 2) (fun i σ H6 => ∃ (ts : List Str) (y4 y6 : Option V), σ = [some (.ref a), some (.ref p2), some (.str wr), some (.ref p4), y4, none, y6, none, none, none] ∧ Same H3 H6 ∧ H6 p4 = some (.lst (ts.map V.str)) ∧ ts.length ≤ 6 + i ∧ ∀ y ∈ ts, y.length ≤ 600) ⟨ts2, none, none, rfl, s5, hp5, hl5, ht5⟩ ?_ ?_
    · rintro i σ H6 hi ⟨ts3, y4, y6, rfl, s6, hp6, hl6, ht6⟩
      refine ⟨_, rfl, _, rfl, _, _, rfl, rfl, a, ns, _, rfl, (sC.trans s6).seq hS, by omega, fun c2 => ?_⟩
      refine ⟨by decide, fun p7 np7 => ?_⟩
      have s7 : Same H6 (upd H6 p7 (.lst (zsO.map V.int))) := same_upd np7
      refine ⟨p7, zsO, c2, rfl, .inl (.inl upd_same), by decide, by decide, fun ds2 H8 p8 hin8 sm8 np8 hp8 => ?_⟩
      have s8 := s7.trans sm8
      refine ⟨_, rfl, .inl ⟨rfl, _, .inl (.inl (s8 _ _ hp6))⟩, _, rfl, _, rfl, wr, p8, ds2, rfl, by omega, .inl (.inl hp8), hin8, fun y H9 hy sm9 => ?_⟩
      have s9 := s8.trans sm9
      refine ⟨p4, _, _, rfl, rfl, s9 _ _ hp6, ?_, ?_⟩
      · rw [List.length_map]
        exact small1000 (by omega)
      · refine ⟨ts3 ++ [y], _, _, rfl, same_mut (s6.trans s9) np4, ?_, ?_, fun u hu => ?_⟩
        · rw [upd_same, List.map_append]
          rfl
        · rw [List.length_append, List.length_singleton]
          omega
        · rcases List.mem_append.mp hu with hu | hu
          · exact ht6 u hu
          · rw [List.mem_singleton.mp hu]
            exact hy
    rintro σ H6 ⟨ts3, y4, y6, rfl, s6, hp6, hl6, ht6⟩
    have hq := SeqAt.eqv_refl _ (SeqAt.canLay_of_shaped (shaped_row r))
    refine ⟨2, rfl, by decide, by decide, ?_⟩
    refine for_range (lo := 0) (n := 2) (fun i σ H7 => ∃ y5 y7 y8 y9 : Option V, σ = [some (.ref a), some (.ref p2), some (.str wr), some (.ref p4), y4, y5, y6, y7, y8, y9] ∧ Same H6 H7) ⟨none, none, none, none, rfl, Same.refl _⟩ ?_ ?_
    · rintro i σ H7 hi ⟨y5, y7, y8, y9, rfl, s7⟩
      obtain ⟨hp7, hE7⟩ := hrr (s6.trans s7)
      refine ⟨_, rfl, p2, _, rfl, .inl (.inl (.inl hp7)), fun l nl => ?_⟩
      have s8 : Same H7 (upd H7 l (.lst ws)) := same_upd nl
      refine ⟨_, rfl, l, ws, r, rfl, upd_same, hE7.mono s8, hsm, hrl, fun H9 sm9 => ?_⟩
      rw [hwr]
      have s9 := s8.trans sm9
      have hl9 := sm9 _ _ (upd_same : (upd H7 l (.lst ws)) l = _)
      refine ⟨_, rfl, _, _, _, _, _, rfl, .ty _, .base (.str _), kit_ty kb_ss, _, rfl, ?_⟩
      refine iteF ?_
      refine ⟨_, rfl, _, rfl, rfl, _, rfl, iteNS rfl ?_⟩
      refine ⟨_, rfl, _, rfl, dRow r, dRow r, (hE7.mono s9).dp (.inl (.inl hl9)), (hE7.mono s9).dp (.inl (.inl (s9 _ _ hp7))), shaped_row r, shaped_row r, _, rfl, ?_⟩
      rw [hq]
      refine iteF ?_
      have sX := s7.trans s9
      have hpX := sX _ _ hp6
      refine ⟨_, rfl, p4, rfl, ⟨_, .inl (.inl hpX)⟩, ?_⟩
      refine for_list (K := K) (xs := ts3.map V.str) (fun j σ H10 => ∃ y9 : Option V, σ = [some (.ref a), some (.ref p2), some (.str wr), some (.ref p4), y4, some (.int (0 + (i : Int))), y6, some (.ref l), some (.str wr), y9] ∧ Same H6 H10) ⟨_, rfl, sX⟩ ?_ ?_ ?_
      · rintro j σ H10 _ ⟨_, _, s10⟩
        exact .inl (.inl (s10 _ _ hp6))
      · rintro j x σ H10 hx ⟨y9', rfl, s10⟩
        obtain ⟨hj, rfl⟩ := getm hx
        refine ⟨_, rfl, _, rfl, ht6 _ (List.getElem_mem hj), fun H11 sm11 => ⟨_, rfl, ?_⟩⟩
        refine iteF ?_
        exact ⟨_, rfl, s10.trans sm11⟩
      · rintro σ H10 ⟨y9', rfl, s10⟩
        exact ⟨_, _, _, _, rfl, s10⟩
    · rintro σ H7 ⟨y5, y7, y8, y9, rfl, s7⟩
      exact q H7
end
end OT

set_option Elab.async false
set_option linter.all false
set_option maxRecDepth 100000
set_option maxHeartbeats 4000000
namespace OT
open PySem PySem.Spec PyProof.Rows L2
theorem all_mk {l : PySem.W.OpenLaw} {w : World} {K : PySem.W.Frag} {h : Heap} {mg : Str → Option Value} {fa : Addr} {f_is_decimal f_first_bad_piece f_entry_of f_follows f_write_place f_write_row f_read_row f__law_cell f__law_draws f__law_is_integer f__law_is_place f__law_is_row f__law_same f__law_plus f__law_row f__law_moved f__law_places f__law_drawn f__law_box f__law_is_error f__law_drawn_row f__law_written f__law_odd_text f__law_other_text f__law_decimal f__law_entry f__law_due f__law_refused f__law_read_asked f_law f_te f_ie B I C C2 C3 C4 : Addr} (X : K.In h) (G : h.Ns mainGlobals mg) (hfa : mg "law" = some (.ref fa))
    {od_is_decimal an_is_decimal : Option Addr} {sl_is_decimal : Array (Option Value)} {oc_is_decimal kV_is_decimal dc_is_decimal pm_is_decimal cd_is_decimal ct_is_decimal : Value}
    {od_first_bad_piece an_first_bad_piece : Option Addr} {sl_first_bad_piece : Array (Option Value)} {oc_first_bad_piece kV_first_bad_piece dc_first_bad_piece pm_first_bad_piece cd_first_bad_piece ct_first_bad_piece : Value}
    {od_entry_of an_entry_of : Option Addr} {sl_entry_of : Array (Option Value)} {oc_entry_of kV_entry_of dc_entry_of pm_entry_of cd_entry_of ct_entry_of : Value}
    {od_follows an_follows : Option Addr} {sl_follows : Array (Option Value)} {oc_follows kV_follows dc_follows pm_follows cd_follows ct_follows : Value}
    {od_write_place an_write_place : Option Addr} {sl_write_place : Array (Option Value)} {oc_write_place kV_write_place dc_write_place pm_write_place cd_write_place ct_write_place : Value}
    {od_write_row an_write_row : Option Addr} {sl_write_row : Array (Option Value)} {oc_write_row kV_write_row dc_write_row pm_write_row cd_write_row ct_write_row : Value}
    {od_read_row an_read_row : Option Addr} {sl_read_row : Array (Option Value)} {oc_read_row kV_read_row dc_read_row pm_read_row cd_read_row ct_read_row : Value}
    {od__law_cell an__law_cell : Option Addr} {sl__law_cell : Array (Option Value)} {oc__law_cell kV__law_cell dc__law_cell pm__law_cell cd__law_cell ct__law_cell : Value}
    {od__law_draws an__law_draws : Option Addr} {sl__law_draws : Array (Option Value)} {oc__law_draws kV__law_draws dc__law_draws pm__law_draws cd__law_draws ct__law_draws : Value}
    {od__law_is_integer an__law_is_integer : Option Addr} {sl__law_is_integer : Array (Option Value)} {oc__law_is_integer kV__law_is_integer dc__law_is_integer pm__law_is_integer cd__law_is_integer ct__law_is_integer : Value}
    {od__law_is_place an__law_is_place : Option Addr} {sl__law_is_place : Array (Option Value)} {oc__law_is_place kV__law_is_place dc__law_is_place pm__law_is_place cd__law_is_place ct__law_is_place : Value}
    {od__law_is_row an__law_is_row : Option Addr} {sl__law_is_row : Array (Option Value)} {oc__law_is_row kV__law_is_row dc__law_is_row pm__law_is_row cd__law_is_row ct__law_is_row : Value}
    {od__law_same an__law_same : Option Addr} {sl__law_same : Array (Option Value)} {oc__law_same kV__law_same dc__law_same pm__law_same cd__law_same ct__law_same : Value}
    {od__law_plus an__law_plus : Option Addr} {sl__law_plus : Array (Option Value)} {oc__law_plus kV__law_plus dc__law_plus pm__law_plus cd__law_plus ct__law_plus : Value}
    {od__law_row an__law_row : Option Addr} {sl__law_row : Array (Option Value)} {oc__law_row kV__law_row dc__law_row pm__law_row cd__law_row ct__law_row : Value}
    {od__law_moved an__law_moved : Option Addr} {sl__law_moved : Array (Option Value)} {oc__law_moved kV__law_moved dc__law_moved pm__law_moved cd__law_moved ct__law_moved : Value}
    {od__law_places an__law_places : Option Addr} {sl__law_places : Array (Option Value)} {oc__law_places kV__law_places dc__law_places pm__law_places cd__law_places ct__law_places : Value}
    {od__law_drawn an__law_drawn : Option Addr} {sl__law_drawn : Array (Option Value)} {oc__law_drawn kV__law_drawn dc__law_drawn pm__law_drawn cd__law_drawn ct__law_drawn : Value}
    {od__law_box an__law_box : Option Addr} {sl__law_box : Array (Option Value)} {oc__law_box kV__law_box dc__law_box pm__law_box cd__law_box ct__law_box : Value}
    {od__law_is_error an__law_is_error : Option Addr} {sl__law_is_error : Array (Option Value)} {oc__law_is_error kV__law_is_error dc__law_is_error pm__law_is_error cd__law_is_error ct__law_is_error : Value}
    {od__law_drawn_row an__law_drawn_row : Option Addr} {sl__law_drawn_row : Array (Option Value)} {oc__law_drawn_row kV__law_drawn_row dc__law_drawn_row pm__law_drawn_row cd__law_drawn_row ct__law_drawn_row : Value}
    {od__law_written an__law_written : Option Addr} {sl__law_written : Array (Option Value)} {oc__law_written kV__law_written dc__law_written pm__law_written cd__law_written ct__law_written : Value}
    {od__law_odd_text an__law_odd_text : Option Addr} {sl__law_odd_text : Array (Option Value)} {oc__law_odd_text kV__law_odd_text dc__law_odd_text pm__law_odd_text cd__law_odd_text ct__law_odd_text : Value}
    {od__law_other_text an__law_other_text : Option Addr} {sl__law_other_text : Array (Option Value)} {oc__law_other_text kV__law_other_text dc__law_other_text pm__law_other_text cd__law_other_text ct__law_other_text : Value}
    {od__law_decimal an__law_decimal : Option Addr} {sl__law_decimal : Array (Option Value)} {oc__law_decimal kV__law_decimal dc__law_decimal pm__law_decimal cd__law_decimal ct__law_decimal : Value}
    {od__law_entry an__law_entry : Option Addr} {sl__law_entry : Array (Option Value)} {oc__law_entry kV__law_entry dc__law_entry pm__law_entry cd__law_entry ct__law_entry : Value}
    {od__law_due an__law_due : Option Addr} {sl__law_due : Array (Option Value)} {oc__law_due kV__law_due dc__law_due pm__law_due cd__law_due ct__law_due : Value}
    {od__law_refused an__law_refused : Option Addr} {sl__law_refused : Array (Option Value)} {oc__law_refused kV__law_refused dc__law_refused pm__law_refused cd__law_refused ct__law_refused : Value}
    {od__law_read_asked an__law_read_asked : Option Addr} {sl__law_read_asked : Array (Option Value)} {oc__law_read_asked kV__law_read_asked dc__law_read_asked pm__law_read_asked cd__law_read_asked ct__law_read_asked : Value}
    {od_law an_law : Option Addr} {sl_law : Array (Option Value)} {oc_law kV_law dc_law pm_law cd_law ct_law : Value}
    {od_te an_te : Option Addr} {sl_te : Array (Option Value)} {oc_te kV_te dc_te pm_te cd_te ct_te : Value}
    {od_ie an_ie : Option Addr} {sl_ie : Array (Option Value)} {oc_ie kV_ie dc_ie pm_ie cd_ie ct_ie : Value}
    {nm_C q_C : Str} {N_C : Addr} {bs_C bm_C : List Value} {sn_C : List Str} {sub_C : List Value} {ab_C : Bool} {col_C : Option Bool} {dd_C : Option Addr} {m0_C m1_C m3_C m5_C : Option Value} {tk_C : Tok}
    (z_len : PySem.W.nsIn K mainGlobals "len" = some none)
    (z_int : PySem.W.nsIn K mainGlobals "int" = some none)
    (z_str : PySem.W.nsIn K mainGlobals "str" = some none)
    (z_bool : PySem.W.nsIn K mainGlobals "bool" = some none)
    (z_list : PySem.W.nsIn K mainGlobals "list" = some none)
    (z_tuple : PySem.W.nsIn K mainGlobals "tuple" = some none)
    (z_range : PySem.W.nsIn K mainGlobals "range" = some none)
    (z_enumerate : PySem.W.nsIn K mainGlobals "enumerate" = some none)
    (z_isinstance : PySem.W.nsIn K mainGlobals "isinstance" = some none)
    (z_sorted : PySem.W.nsIn K mainGlobals "sorted" = some none)
    (z_abs : PySem.W.nsIn K mainGlobals "abs" = some none)
    (z_ValueError : PySem.W.nsIn K mainGlobals "ValueError" = some none)
    (a_is_decimal : PySem.W.nsIn K mainGlobals "is_decimal" = some (some (.ref f_is_decimal)))
    (l_is_decimal : K.lookup f_is_decimal = some ⟨oc_is_decimal, od_is_decimal, .func (PySem.W.fnOf "is_decimal" "is_decimal" (C8.fnArgs s_is_decimal) (C8.fnBody s_is_decimal) (C8.fnScope s_is_decimal) .none kV_is_decimal dc_is_decimal pm_is_decimal an_is_decimal cd_is_decimal ct_is_decimal), sl_is_decimal⟩)
    (co_is_decimal : PySem.W.codeIn K cd_is_decimal "is_decimal" = true)
    (k_is_decimal : PySem.W.keepIn K (.ref f_is_decimal) = true)
    (a_first_bad_piece : PySem.W.nsIn K mainGlobals "first_bad_piece" = some (some (.ref f_first_bad_piece)))
    (l_first_bad_piece : K.lookup f_first_bad_piece = some ⟨oc_first_bad_piece, od_first_bad_piece, .func (PySem.W.fnOf "first_bad_piece" "first_bad_piece" (C8.fnArgs s_first_bad_piece) (C8.fnBody s_first_bad_piece) (C8.fnScope s_first_bad_piece) .none kV_first_bad_piece dc_first_bad_piece pm_first_bad_piece an_first_bad_piece cd_first_bad_piece ct_first_bad_piece), sl_first_bad_piece⟩)
    (co_first_bad_piece : PySem.W.codeIn K cd_first_bad_piece "first_bad_piece" = true)
    (k_first_bad_piece : PySem.W.keepIn K (.ref f_first_bad_piece) = true)
    (a_entry_of : PySem.W.nsIn K mainGlobals "entry_of" = some (some (.ref f_entry_of)))
    (l_entry_of : K.lookup f_entry_of = some ⟨oc_entry_of, od_entry_of, .func (PySem.W.fnOf "entry_of" "entry_of" (C8.fnArgs s_entry_of) (C8.fnBody s_entry_of) (C8.fnScope s_entry_of) .none kV_entry_of dc_entry_of pm_entry_of an_entry_of cd_entry_of ct_entry_of), sl_entry_of⟩)
    (co_entry_of : PySem.W.codeIn K cd_entry_of "entry_of" = true)
    (k_entry_of : PySem.W.keepIn K (.ref f_entry_of) = true)
    (a_follows : PySem.W.nsIn K mainGlobals "follows" = some (some (.ref f_follows)))
    (l_follows : K.lookup f_follows = some ⟨oc_follows, od_follows, .func (PySem.W.fnOf "follows" "follows" (C8.fnArgs s_follows) (C8.fnBody s_follows) (C8.fnScope s_follows) .none kV_follows dc_follows pm_follows an_follows cd_follows ct_follows), sl_follows⟩)
    (co_follows : PySem.W.codeIn K cd_follows "follows" = true)
    (k_follows : PySem.W.keepIn K (.ref f_follows) = true)
    (a_write_place : PySem.W.nsIn K mainGlobals "write_place" = some (some (.ref f_write_place)))
    (l_write_place : K.lookup f_write_place = some ⟨oc_write_place, od_write_place, .func (PySem.W.fnOf "write_place" "write_place" (C8.fnArgs s_write_place) (C8.fnBody s_write_place) (C8.fnScope s_write_place) .none kV_write_place dc_write_place pm_write_place an_write_place cd_write_place ct_write_place), sl_write_place⟩)
    (co_write_place : PySem.W.codeIn K cd_write_place "write_place" = true)
    (k_write_place : PySem.W.keepIn K (.ref f_write_place) = true)
    (a_write_row : PySem.W.nsIn K mainGlobals "write_row" = some (some (.ref f_write_row)))
    (l_write_row : K.lookup f_write_row = some ⟨oc_write_row, od_write_row, .func (PySem.W.fnOf "write_row" "write_row" (C8.fnArgs s_write_row) (C8.fnBody s_write_row) (C8.fnScope s_write_row) .none kV_write_row dc_write_row pm_write_row an_write_row cd_write_row ct_write_row), sl_write_row⟩)
    (co_write_row : PySem.W.codeIn K cd_write_row "write_row" = true)
    (k_write_row : PySem.W.keepIn K (.ref f_write_row) = true)
    (a_read_row : PySem.W.nsIn K mainGlobals "read_row" = some (some (.ref f_read_row)))
    (l_read_row : K.lookup f_read_row = some ⟨oc_read_row, od_read_row, .func (PySem.W.fnOf "read_row" "read_row" (C8.fnArgs s_read_row) (C8.fnBody s_read_row) (C8.fnScope s_read_row) .none kV_read_row dc_read_row pm_read_row an_read_row cd_read_row ct_read_row), sl_read_row⟩)
    (co_read_row : PySem.W.codeIn K cd_read_row "read_row" = true)
    (k_read_row : PySem.W.keepIn K (.ref f_read_row) = true)
    (a__law_cell : PySem.W.nsIn K mainGlobals "_law_cell" = some (some (.ref f__law_cell)))
    (l__law_cell : K.lookup f__law_cell = some ⟨oc__law_cell, od__law_cell, .func (PySem.W.fnOf "_law_cell" "_law_cell" (C8.fnArgs s__law_cell) (C8.fnBody s__law_cell) (C8.fnScope s__law_cell) .none kV__law_cell dc__law_cell pm__law_cell an__law_cell cd__law_cell ct__law_cell), sl__law_cell⟩)
    (co__law_cell : PySem.W.codeIn K cd__law_cell "_law_cell" = true)
    (k__law_cell : PySem.W.keepIn K (.ref f__law_cell) = true)
    (a__law_draws : PySem.W.nsIn K mainGlobals "_law_draws" = some (some (.ref f__law_draws)))
    (l__law_draws : K.lookup f__law_draws = some ⟨oc__law_draws, od__law_draws, .func (PySem.W.fnOf "_law_draws" "_law_draws" (C8.fnArgs s__law_draws) (C8.fnBody s__law_draws) (C8.fnScope s__law_draws) .none kV__law_draws dc__law_draws pm__law_draws an__law_draws cd__law_draws ct__law_draws), sl__law_draws⟩)
    (co__law_draws : PySem.W.codeIn K cd__law_draws "_law_draws" = true)
    (k__law_draws : PySem.W.keepIn K (.ref f__law_draws) = true)
    (a__law_is_integer : PySem.W.nsIn K mainGlobals "_law_is_integer" = some (some (.ref f__law_is_integer)))
    (l__law_is_integer : K.lookup f__law_is_integer = some ⟨oc__law_is_integer, od__law_is_integer, .func (PySem.W.fnOf "_law_is_integer" "_law_is_integer" (C8.fnArgs s__law_is_integer) (C8.fnBody s__law_is_integer) (C8.fnScope s__law_is_integer) .none kV__law_is_integer dc__law_is_integer pm__law_is_integer an__law_is_integer cd__law_is_integer ct__law_is_integer), sl__law_is_integer⟩)
    (co__law_is_integer : PySem.W.codeIn K cd__law_is_integer "_law_is_integer" = true)
    (k__law_is_integer : PySem.W.keepIn K (.ref f__law_is_integer) = true)
    (a__law_is_place : PySem.W.nsIn K mainGlobals "_law_is_place" = some (some (.ref f__law_is_place)))
    (l__law_is_place : K.lookup f__law_is_place = some ⟨oc__law_is_place, od__law_is_place, .func (PySem.W.fnOf "_law_is_place" "_law_is_place" (C8.fnArgs s__law_is_place) (C8.fnBody s__law_is_place) (C8.fnScope s__law_is_place) .none kV__law_is_place dc__law_is_place pm__law_is_place an__law_is_place cd__law_is_place ct__law_is_place), sl__law_is_place⟩)
    (co__law_is_place : PySem.W.codeIn K cd__law_is_place "_law_is_place" = true)
    (k__law_is_place : PySem.W.keepIn K (.ref f__law_is_place) = true)
    (a__law_is_row : PySem.W.nsIn K mainGlobals "_law_is_row" = some (some (.ref f__law_is_row)))
    (l__law_is_row : K.lookup f__law_is_row = some ⟨oc__law_is_row, od__law_is_row, .func (PySem.W.fnOf "_law_is_row" "_law_is_row" (C8.fnArgs s__law_is_row) (C8.fnBody s__law_is_row) (C8.fnScope s__law_is_row) .none kV__law_is_row dc__law_is_row pm__law_is_row an__law_is_row cd__law_is_row ct__law_is_row), sl__law_is_row⟩)
    (co__law_is_row : PySem.W.codeIn K cd__law_is_row "_law_is_row" = true)
    (k__law_is_row : PySem.W.keepIn K (.ref f__law_is_row) = true)
    (a__law_same : PySem.W.nsIn K mainGlobals "_law_same" = some (some (.ref f__law_same)))
    (l__law_same : K.lookup f__law_same = some ⟨oc__law_same, od__law_same, .func (PySem.W.fnOf "_law_same" "_law_same" (C8.fnArgs s__law_same) (C8.fnBody s__law_same) (C8.fnScope s__law_same) .none kV__law_same dc__law_same pm__law_same an__law_same cd__law_same ct__law_same), sl__law_same⟩)
    (co__law_same : PySem.W.codeIn K cd__law_same "_law_same" = true)
    (k__law_same : PySem.W.keepIn K (.ref f__law_same) = true)
    (a__law_plus : PySem.W.nsIn K mainGlobals "_law_plus" = some (some (.ref f__law_plus)))
    (l__law_plus : K.lookup f__law_plus = some ⟨oc__law_plus, od__law_plus, .func (PySem.W.fnOf "_law_plus" "_law_plus" (C8.fnArgs s__law_plus) (C8.fnBody s__law_plus) (C8.fnScope s__law_plus) .none kV__law_plus dc__law_plus pm__law_plus an__law_plus cd__law_plus ct__law_plus), sl__law_plus⟩)
    (co__law_plus : PySem.W.codeIn K cd__law_plus "_law_plus" = true)
    (k__law_plus : PySem.W.keepIn K (.ref f__law_plus) = true)
    (a__law_row : PySem.W.nsIn K mainGlobals "_law_row" = some (some (.ref f__law_row)))
    (l__law_row : K.lookup f__law_row = some ⟨oc__law_row, od__law_row, .func (PySem.W.fnOf "_law_row" "_law_row" (C8.fnArgs s__law_row) (C8.fnBody s__law_row) (C8.fnScope s__law_row) .none kV__law_row dc__law_row pm__law_row an__law_row cd__law_row ct__law_row), sl__law_row⟩)
    (co__law_row : PySem.W.codeIn K cd__law_row "_law_row" = true)
    (k__law_row : PySem.W.keepIn K (.ref f__law_row) = true)
    (a__law_moved : PySem.W.nsIn K mainGlobals "_law_moved" = some (some (.ref f__law_moved)))
    (l__law_moved : K.lookup f__law_moved = some ⟨oc__law_moved, od__law_moved, .func (PySem.W.fnOf "_law_moved" "_law_moved" (C8.fnArgs s__law_moved) (C8.fnBody s__law_moved) (C8.fnScope s__law_moved) .none kV__law_moved dc__law_moved pm__law_moved an__law_moved cd__law_moved ct__law_moved), sl__law_moved⟩)
    (co__law_moved : PySem.W.codeIn K cd__law_moved "_law_moved" = true)
    (k__law_moved : PySem.W.keepIn K (.ref f__law_moved) = true)
    (a__law_places : PySem.W.nsIn K mainGlobals "_law_places" = some (some (.ref f__law_places)))
    (l__law_places : K.lookup f__law_places = some ⟨oc__law_places, od__law_places, .func (PySem.W.fnOf "_law_places" "_law_places" (C8.fnArgs s__law_places) (C8.fnBody s__law_places) (C8.fnScope s__law_places) .none kV__law_places dc__law_places pm__law_places an__law_places cd__law_places ct__law_places), sl__law_places⟩)
    (co__law_places : PySem.W.codeIn K cd__law_places "_law_places" = true)
    (k__law_places : PySem.W.keepIn K (.ref f__law_places) = true)
    (a__law_drawn : PySem.W.nsIn K mainGlobals "_law_drawn" = some (some (.ref f__law_drawn)))
    (l__law_drawn : K.lookup f__law_drawn = some ⟨oc__law_drawn, od__law_drawn, .func (PySem.W.fnOf "_law_drawn" "_law_drawn" (C8.fnArgs s__law_drawn) (C8.fnBody s__law_drawn) (C8.fnScope s__law_drawn) .none kV__law_drawn dc__law_drawn pm__law_drawn an__law_drawn cd__law_drawn ct__law_drawn), sl__law_drawn⟩)
    (co__law_drawn : PySem.W.codeIn K cd__law_drawn "_law_drawn" = true)
    (k__law_drawn : PySem.W.keepIn K (.ref f__law_drawn) = true)
    (a__law_box : PySem.W.nsIn K mainGlobals "_law_box" = some (some (.ref f__law_box)))
    (l__law_box : K.lookup f__law_box = some ⟨oc__law_box, od__law_box, .func (PySem.W.fnOf "_law_box" "_law_box" (C8.fnArgs s__law_box) (C8.fnBody s__law_box) (C8.fnScope s__law_box) .none kV__law_box dc__law_box pm__law_box an__law_box cd__law_box ct__law_box), sl__law_box⟩)
    (co__law_box : PySem.W.codeIn K cd__law_box "_law_box" = true)
    (k__law_box : PySem.W.keepIn K (.ref f__law_box) = true)
    (a__law_is_error : PySem.W.nsIn K mainGlobals "_law_is_error" = some (some (.ref f__law_is_error)))
    (l__law_is_error : K.lookup f__law_is_error = some ⟨oc__law_is_error, od__law_is_error, .func (PySem.W.fnOf "_law_is_error" "_law_is_error" (C8.fnArgs s__law_is_error) (C8.fnBody s__law_is_error) (C8.fnScope s__law_is_error) .none kV__law_is_error dc__law_is_error pm__law_is_error an__law_is_error cd__law_is_error ct__law_is_error), sl__law_is_error⟩)
    (co__law_is_error : PySem.W.codeIn K cd__law_is_error "_law_is_error" = true)
    (k__law_is_error : PySem.W.keepIn K (.ref f__law_is_error) = true)
    (a__law_drawn_row : PySem.W.nsIn K mainGlobals "_law_drawn_row" = some (some (.ref f__law_drawn_row)))
    (l__law_drawn_row : K.lookup f__law_drawn_row = some ⟨oc__law_drawn_row, od__law_drawn_row, .func (PySem.W.fnOf "_law_drawn_row" "_law_drawn_row" (C8.fnArgs s__law_drawn_row) (C8.fnBody s__law_drawn_row) (C8.fnScope s__law_drawn_row) .none kV__law_drawn_row dc__law_drawn_row pm__law_drawn_row an__law_drawn_row cd__law_drawn_row ct__law_drawn_row), sl__law_drawn_row⟩)
    (co__law_drawn_row : PySem.W.codeIn K cd__law_drawn_row "_law_drawn_row" = true)
    (k__law_drawn_row : PySem.W.keepIn K (.ref f__law_drawn_row) = true)
    (a__law_written : PySem.W.nsIn K mainGlobals "_law_written" = some (some (.ref f__law_written)))
    (l__law_written : K.lookup f__law_written = some ⟨oc__law_written, od__law_written, .func (PySem.W.fnOf "_law_written" "_law_written" (C8.fnArgs s__law_written) (C8.fnBody s__law_written) (C8.fnScope s__law_written) .none kV__law_written dc__law_written pm__law_written an__law_written cd__law_written ct__law_written), sl__law_written⟩)
    (co__law_written : PySem.W.codeIn K cd__law_written "_law_written" = true)
    (k__law_written : PySem.W.keepIn K (.ref f__law_written) = true)
    (a__law_odd_text : PySem.W.nsIn K mainGlobals "_law_odd_text" = some (some (.ref f__law_odd_text)))
    (l__law_odd_text : K.lookup f__law_odd_text = some ⟨oc__law_odd_text, od__law_odd_text, .func (PySem.W.fnOf "_law_odd_text" "_law_odd_text" (C8.fnArgs s__law_odd_text) (C8.fnBody s__law_odd_text) (C8.fnScope s__law_odd_text) .none kV__law_odd_text dc__law_odd_text pm__law_odd_text an__law_odd_text cd__law_odd_text ct__law_odd_text), sl__law_odd_text⟩)
    (co__law_odd_text : PySem.W.codeIn K cd__law_odd_text "_law_odd_text" = true)
    (k__law_odd_text : PySem.W.keepIn K (.ref f__law_odd_text) = true)
    (a__law_other_text : PySem.W.nsIn K mainGlobals "_law_other_text" = some (some (.ref f__law_other_text)))
    (l__law_other_text : K.lookup f__law_other_text = some ⟨oc__law_other_text, od__law_other_text, .func (PySem.W.fnOf "_law_other_text" "_law_other_text" (C8.fnArgs s__law_other_text) (C8.fnBody s__law_other_text) (C8.fnScope s__law_other_text) .none kV__law_other_text dc__law_other_text pm__law_other_text an__law_other_text cd__law_other_text ct__law_other_text), sl__law_other_text⟩)
    (co__law_other_text : PySem.W.codeIn K cd__law_other_text "_law_other_text" = true)
    (k__law_other_text : PySem.W.keepIn K (.ref f__law_other_text) = true)
    (a__law_decimal : PySem.W.nsIn K mainGlobals "_law_decimal" = some (some (.ref f__law_decimal)))
    (l__law_decimal : K.lookup f__law_decimal = some ⟨oc__law_decimal, od__law_decimal, .func (PySem.W.fnOf "_law_decimal" "_law_decimal" (C8.fnArgs s__law_decimal) (C8.fnBody s__law_decimal) (C8.fnScope s__law_decimal) .none kV__law_decimal dc__law_decimal pm__law_decimal an__law_decimal cd__law_decimal ct__law_decimal), sl__law_decimal⟩)
    (co__law_decimal : PySem.W.codeIn K cd__law_decimal "_law_decimal" = true)
    (k__law_decimal : PySem.W.keepIn K (.ref f__law_decimal) = true)
    (a__law_entry : PySem.W.nsIn K mainGlobals "_law_entry" = some (some (.ref f__law_entry)))
    (l__law_entry : K.lookup f__law_entry = some ⟨oc__law_entry, od__law_entry, .func (PySem.W.fnOf "_law_entry" "_law_entry" (C8.fnArgs s__law_entry) (C8.fnBody s__law_entry) (C8.fnScope s__law_entry) .none kV__law_entry dc__law_entry pm__law_entry an__law_entry cd__law_entry ct__law_entry), sl__law_entry⟩)
    (co__law_entry : PySem.W.codeIn K cd__law_entry "_law_entry" = true)
    (k__law_entry : PySem.W.keepIn K (.ref f__law_entry) = true)
    (a__law_due : PySem.W.nsIn K mainGlobals "_law_due" = some (some (.ref f__law_due)))
    (l__law_due : K.lookup f__law_due = some ⟨oc__law_due, od__law_due, .func (PySem.W.fnOf "_law_due" "_law_due" (C8.fnArgs s__law_due) (C8.fnBody s__law_due) (C8.fnScope s__law_due) .none kV__law_due dc__law_due pm__law_due an__law_due cd__law_due ct__law_due), sl__law_due⟩)
    (co__law_due : PySem.W.codeIn K cd__law_due "_law_due" = true)
    (k__law_due : PySem.W.keepIn K (.ref f__law_due) = true)
    (a__law_refused : PySem.W.nsIn K mainGlobals "_law_refused" = some (some (.ref f__law_refused)))
    (l__law_refused : K.lookup f__law_refused = some ⟨oc__law_refused, od__law_refused, .func (PySem.W.fnOf "_law_refused" "_law_refused" (C8.fnArgs s__law_refused) (C8.fnBody s__law_refused) (C8.fnScope s__law_refused) .none kV__law_refused dc__law_refused pm__law_refused an__law_refused cd__law_refused ct__law_refused), sl__law_refused⟩)
    (co__law_refused : PySem.W.codeIn K cd__law_refused "_law_refused" = true)
    (k__law_refused : PySem.W.keepIn K (.ref f__law_refused) = true)
    (a__law_read_asked : PySem.W.nsIn K mainGlobals "_law_read_asked" = some (some (.ref f__law_read_asked)))
    (l__law_read_asked : K.lookup f__law_read_asked = some ⟨oc__law_read_asked, od__law_read_asked, .func (PySem.W.fnOf "_law_read_asked" "_law_read_asked" (C8.fnArgs s__law_read_asked) (C8.fnBody s__law_read_asked) (C8.fnScope s__law_read_asked) .none kV__law_read_asked dc__law_read_asked pm__law_read_asked an__law_read_asked cd__law_read_asked ct__law_read_asked), sl__law_read_asked⟩)
    (co__law_read_asked : PySem.W.codeIn K cd__law_read_asked "_law_read_asked" = true)
    (k__law_read_asked : PySem.W.keepIn K (.ref f__law_read_asked) = true)
    (a_law : PySem.W.nsIn K mainGlobals "law" = some (some (.ref f_law)))
    (l_law : K.lookup f_law = some ⟨oc_law, od_law, .func (PySem.W.fnOf "law" "law" (C8.fnArgs s_law) (C8.fnBody s_law) (C8.fnScope s_law) .none kV_law dc_law pm_law an_law cd_law ct_law), sl_law⟩)
    (co_law : PySem.W.codeIn K cd_law "law" = true)
    (k_law : PySem.W.keepIn K (.ref f_law) = true)
    (a_te : PySem.W.findIn K (.ref B) "__init__" = some (some (.ref f_te)))
    (l_te : K.lookup f_te = some ⟨oc_te, od_te, .func (PySem.W.fnOf "__init__" "TableError.__init__" (C8.fnArgs s_TableError___init__) (C8.fnBody s_TableError___init__) (C8.fnScope s_TableError___init__) .none kV_te dc_te pm_te an_te cd_te ct_te), sl_te⟩)
    (co_te : PySem.W.codeIn K cd_te "TableError.__init__" = true)
    (k_te : PySem.W.keepIn K (.ref f_te) = true)
    (a_ie : PySem.W.findIn K (.ref I) "__init__" = some (some (.ref f_ie)))
    (l_ie : K.lookup f_ie = some ⟨oc_ie, od_ie, .func (PySem.W.fnOf "__init__" "IndexedError.__init__" (C8.fnArgs s_IndexedError___init__) (C8.fnBody s_IndexedError___init__) (C8.fnScope s_IndexedError___init__) .none kV_ie dc_ie pm_ie an_ie cd_ie ct_ie), sl_ie⟩)
    (co_ie : PySem.W.codeIn K cd_ie "IndexedError.__init__" = true)
    (k_ie : PySem.W.keepIn K (.ref f_ie) = true)
    (g_B : PySem.W.nsIn K mainGlobals "TableError" = some (some (.ref B)))
    (g_I : PySem.W.nsIn K mainGlobals "IndexedError" = some (some (.ref I)))
    (g_C : PySem.W.nsIn K mainGlobals "BadText" = some (some (.ref C)))
    (g_C2 : PySem.W.nsIn K mainGlobals "BadPlace" = some (some (.ref C2)))
    (g_C3 : PySem.W.nsIn K mainGlobals "BadLine" = some (some (.ref C3)))
    (g_C4 : PySem.W.nsIn K mainGlobals "MixedDimensions" = some (some (.ref C4)))
    (xl_C : K.lookup C = some (excClassObj nm_C q_C C N_C bs_C bm_C true sn_C sub_C ab_C col_C dd_C m0_C m1_C (some (.str "BadText" tk_C)) m3_C m5_C "ValueError.__new__"))
    (vb_C : PySem.HandSPX.refsVE bm_C = true)
    (sa_C : PySem.W.findIn K (.ref C) "__setattr__" = some (some (.builtin "object.__setattr__")))
    (ex_C : PySem.W.subIn K (.ref C) (.type "BaseException") = some true)
    (ty_C : PySem.W.typeIn K (.ref C) = some (.type "type"))
    (kc_C : PySem.W.keepIn K (.ref C) = true)
    (ga_C : PySem.W.findIn K (.ref C) "__getattribute__" = some (some (.builtin "BaseException.__getattribute__")))
    (gg_C : PySem.W.findIn K (.ref C) "__getattr__" = some none)
    (hd_C : PySem.W.hasDictIn K C = true)
    (ha_C : PySem.W.findIn K (.ref C) "__class__" = some (some (.builtin "object.__class__")))
    (mr_C : PySem.W.mroIn K C (.type "object") = some true)
    (rd_C : PySem.W.readsIn K C (.type "type") = true)
    (fn_C : PySem.W.findCls K (.ref C) (.type "type") "__name__" = some (.get (.builtin "getset_descriptor.__get__") (.builtin "type.__name__") (.ref C) (.type "type")))
    (nw_C : PySem.W.findIn K (.ref C) "word" = some none)
    (ni_C : PySem.W.findIn K (.ref C) "index" = some none)
    (in_C : PySem.W.findIn K (.ref C) "__init__" = some (some (.ref f_ie)))
    (hn : PySem.W.specialIn K (.builtin "object.__class__") "__get__" = some (some (.builtin "getset_descriptor.__get__")))
    (ht : PySem.W.takesIn K (.builtin "object.__class__") = some true)
    (ti_ie : PySem.W.typeIn K (.ref f_ie) = some (.type "function"))
    (rB : PySem.W.readsIn K B (.type "type") = true)
    (sB : PySem.W.specialIn K (.ref B) "__getattribute__" = some (some (.builtin "type.__getattribute__")))
    (fB : PySem.W.findCls K (.ref B) (.type "type") "__init__" = some (.val (.ref f_te)))
    (xB : PySem.W.exmOne K (.ref C) (.ref B) = some true)
    (kB : PySem.W.kitOne K (.ref C) (.ref B) = some true)
    (kV : PySem.W.kitOne K (.ref C) (.type "ValueError") = some true)
    (k1 : PySem.W.kitOne K (.ref C) (.ref C) = some true)
    (k2 : PySem.W.kitOne K (.ref C) (.ref C2) = some false)
    (k3 : PySem.W.kitOne K (.ref C) (.ref C3) = some false)
    (k4 : PySem.W.kitOne K (.ref C) (.ref C4) = some false) :
    ∃ fd : FuncData, (∀ (s : Shared) (v : Value), BindsTo s fd ⟨[v], []⟩ [("_law_script", v)]) ∧ ∀ base : Heap, K.In base → base.Ns mainGlobals mg → FnOk l.prog w K mg base L2.CX0 6 fa fd ["_law_script"] (spLaw K) := by
  have e := hfa.symm.trans (PySem.W.mg_of X G a_law)
  cases e
  have T : Bi mg := ⟨PySem.W.mg_none_of X G z_len, PySem.W.mg_none_of X G z_int, PySem.W.mg_none_of X G z_str, PySem.W.mg_none_of X G z_bool, PySem.W.mg_none_of X G z_list, PySem.W.mg_none_of X G z_tuple, PySem.W.mg_none_of X G z_range, PySem.W.mg_none_of X G z_enumerate, PySem.W.mg_none_of X G z_isinstance, PySem.W.mg_none_of X G z_sorted, PySem.W.mg_none_of X G z_abs⟩
  have D_is_decimal : C8.Def K mg "is_decimal" s_is_decimal f_is_decimal _ := ⟨⟨⟨_, _, _, _, _, _, _, _, _, _, rfl, l_is_decimal, co_is_decimal⟩⟩, PySem.W.mg_of X G a_is_decimal, k_is_decimal⟩
  have b_is_decimal := D_is_decimal.fn.binds (ps := ["text"]) rfl fun _ _ _ _ _ _ us hl => match us, hl with | [_], _ => rfl
  have D_first_bad_piece : C8.Def K mg "first_bad_piece" s_first_bad_piece f_first_bad_piece _ := ⟨⟨⟨_, _, _, _, _, _, _, _, _, _, rfl, l_first_bad_piece, co_first_bad_piece⟩⟩, PySem.W.mg_of X G a_first_bad_piece, k_first_bad_piece⟩
  have b_first_bad_piece := D_first_bad_piece.fn.binds (ps := ["pieces"]) rfl fun _ _ _ _ _ _ us hl => match us, hl with | [_], _ => rfl
  have D_entry_of : C8.Def K mg "entry_of" s_entry_of f_entry_of _ := ⟨⟨⟨_, _, _, _, _, _, _, _, _, _, rfl, l_entry_of, co_entry_of⟩⟩, PySem.W.mg_of X G a_entry_of, k_entry_of⟩
  have b_entry_of := D_entry_of.fn.binds (ps := ["word"]) rfl fun _ _ _ _ _ _ us hl => match us, hl with | [_], _ => rfl
  have D_follows : C8.Def K mg "follows" s_follows f_follows _ := ⟨⟨⟨_, _, _, _, _, _, _, _, _, _, rfl, l_follows, co_follows⟩⟩, PySem.W.mg_of X G a_follows, k_follows⟩
  have b_follows := D_follows.fn.binds (ps := ["entry", "row"]) rfl fun _ _ _ _ _ _ us hl => match us, hl with | [_, _], _ => rfl
  have D_write_place : C8.Def K mg "write_place" s_write_place f_write_place _ := ⟨⟨⟨_, _, _, _, _, _, _, _, _, _, rfl, l_write_place, co_write_place⟩⟩, PySem.W.mg_of X G a_write_place, k_write_place⟩
  have b_write_place := D_write_place.fn.binds (ps := ["place"]) rfl fun _ _ _ _ _ _ us hl => match us, hl with | [_], _ => rfl
  have D_write_row : C8.Def K mg "write_row" s_write_row f_write_row _ := ⟨⟨⟨_, _, _, _, _, _, _, _, _, _, rfl, l_write_row, co_write_row⟩⟩, PySem.W.mg_of X G a_write_row, k_write_row⟩
  have b_write_row := D_write_row.fn.binds (ps := ["row"]) rfl fun _ _ _ _ _ _ us hl => match us, hl with | [_], _ => rfl
  have D_read_row : C8.Def K mg "read_row" s_read_row f_read_row _ := ⟨⟨⟨_, _, _, _, _, _, _, _, _, _, rfl, l_read_row, co_read_row⟩⟩, PySem.W.mg_of X G a_read_row, k_read_row⟩
  have b_read_row := D_read_row.fn.binds (ps := ["text"]) rfl fun _ _ _ _ _ _ us hl => match us, hl with | [_], _ => rfl
  have D__law_cell : C8.Def K mg "_law_cell" s__law_cell f__law_cell _ := ⟨⟨⟨_, _, _, _, _, _, _, _, _, _, rfl, l__law_cell, co__law_cell⟩⟩, PySem.W.mg_of X G a__law_cell, k__law_cell⟩
  have b__law_cell := D__law_cell.fn.binds (ps := ["_law_script", "_law_k"]) rfl fun _ _ _ _ _ _ us hl => match us, hl with | [_, _], _ => rfl
  have D__law_draws : C8.Def K mg "_law_draws" s__law_draws f__law_draws _ := ⟨⟨⟨_, _, _, _, _, _, _, _, _, _, rfl, l__law_draws, co__law_draws⟩⟩, PySem.W.mg_of X G a__law_draws, k__law_draws⟩
  have b__law_draws := D__law_draws.fn.binds (ps := ["_law_cell_here", "_law_sizes"]) rfl fun _ _ _ _ _ _ us hl => match us, hl with | [_, _], _ => rfl
  have D__law_is_integer : C8.Def K mg "_law_is_integer" s__law_is_integer f__law_is_integer _ := ⟨⟨⟨_, _, _, _, _, _, _, _, _, _, rfl, l__law_is_integer, co__law_is_integer⟩⟩, PySem.W.mg_of X G a__law_is_integer, k__law_is_integer⟩
  have b__law_is_integer := D__law_is_integer.fn.binds (ps := ["_law_actual"]) rfl fun _ _ _ _ _ _ us hl => match us, hl with | [_], _ => rfl
  have D__law_is_place : C8.Def K mg "_law_is_place" s__law_is_place f__law_is_place _ := ⟨⟨⟨_, _, _, _, _, _, _, _, _, _, rfl, l__law_is_place, co__law_is_place⟩⟩, PySem.W.mg_of X G a__law_is_place, k__law_is_place⟩
  have b__law_is_place := D__law_is_place.fn.binds (ps := ["_law_actual"]) rfl fun _ _ _ _ _ _ us hl => match us, hl with | [_], _ => rfl
  have D__law_is_row : C8.Def K mg "_law_is_row" s__law_is_row f__law_is_row _ := ⟨⟨⟨_, _, _, _, _, _, _, _, _, _, rfl, l__law_is_row, co__law_is_row⟩⟩, PySem.W.mg_of X G a__law_is_row, k__law_is_row⟩
  have b__law_is_row := D__law_is_row.fn.binds (ps := ["_law_actual"]) rfl fun _ _ _ _ _ _ us hl => match us, hl with | [_], _ => rfl
  have D__law_same : C8.Def K mg "_law_same" s__law_same f__law_same _ := ⟨⟨⟨_, _, _, _, _, _, _, _, _, _, rfl, l__law_same, co__law_same⟩⟩, PySem.W.mg_of X G a__law_same, k__law_same⟩
  have b__law_same := D__law_same.fn.binds (ps := ["_law_actual", "_law_expected"]) rfl fun _ _ _ _ _ _ us hl => match us, hl with | [_, _], _ => rfl
  have D__law_plus : C8.Def K mg "_law_plus" s__law_plus f__law_plus _ := ⟨⟨⟨_, _, _, _, _, _, _, _, _, _, rfl, l__law_plus, co__law_plus⟩⟩, PySem.W.mg_of X G a__law_plus, k__law_plus⟩
  have b__law_plus := D__law_plus.fn.binds (ps := ["_law_place", "_law_other"]) rfl fun _ _ _ _ _ _ us hl => match us, hl with | [_, _], _ => rfl
  have D__law_row : C8.Def K mg "_law_row" s__law_row f__law_row _ := ⟨⟨⟨_, _, _, _, _, _, _, _, _, _, rfl, l__law_row, co__law_row⟩⟩, PySem.W.mg_of X G a__law_row, k__law_row⟩
  have b__law_row := D__law_row.fn.binds (ps := ["_law_pairs"]) rfl fun _ _ _ _ _ _ us hl => match us, hl with | [_], _ => rfl
  have D__law_moved : C8.Def K mg "_law_moved" s__law_moved f__law_moved _ := ⟨⟨⟨_, _, _, _, _, _, _, _, _, _, rfl, l__law_moved, co__law_moved⟩⟩, PySem.W.mg_of X G a__law_moved, k__law_moved⟩
  have b__law_moved := D__law_moved.fn.binds (ps := ["_law_row_here", "_law_by"]) rfl fun _ _ _ _ _ _ us hl => match us, hl with | [_, _], _ => rfl
  have D__law_places : C8.Def K mg "_law_places" s__law_places f__law_places _ := ⟨⟨⟨_, _, _, _, _, _, _, _, _, _, rfl, l__law_places, co__law_places⟩⟩, PySem.W.mg_of X G a__law_places, k__law_places⟩
  have b__law_places := D__law_places.fn.binds (ps := ["_law_box_here"]) rfl fun _ _ _ _ _ _ us hl => match us, hl with | [_], _ => rfl
  have D__law_drawn : C8.Def K mg "_law_drawn" s__law_drawn f__law_drawn _ := ⟨⟨⟨_, _, _, _, _, _, _, _, _, _, rfl, l__law_drawn, co__law_drawn⟩⟩, PySem.W.mg_of X G a__law_drawn, k__law_drawn⟩
  have b__law_drawn := D__law_drawn.fn.binds (ps := ["_law_cell_here", "_law_box_here", "_law_reach", "_law_moves"]) rfl fun _ _ _ _ _ _ us hl => match us, hl with | [_, _, _, _], _ => rfl
  have D__law_box : C8.Def K mg "_law_box" s__law_box f__law_box _ := ⟨⟨⟨_, _, _, _, _, _, _, _, _, _, rfl, l__law_box, co__law_box⟩⟩, PySem.W.mg_of X G a__law_box, k__law_box⟩
  have b__law_box := D__law_box.fn.binds (ps := ["_law_kind", "_law_wide"]) rfl fun _ _ _ _ _ _ us hl => match us, hl with | [_, _], _ => rfl
  have D__law_is_error : C8.Def K mg "_law_is_error" s__law_is_error f__law_is_error _ := ⟨⟨⟨_, _, _, _, _, _, _, _, _, _, rfl, l__law_is_error, co__law_is_error⟩⟩, PySem.W.mg_of X G a__law_is_error, k__law_is_error⟩
  have b__law_is_error := D__law_is_error.fn.binds (ps := ["_law_e", "_law_word"]) rfl fun _ _ _ _ _ _ us hl => match us, hl with | [_, _], _ => rfl
  have D__law_drawn_row : C8.Def K mg "_law_drawn_row" s__law_drawn_row f__law_drawn_row _ := ⟨⟨⟨_, _, _, _, _, _, _, _, _, _, rfl, l__law_drawn_row, co__law_drawn_row⟩⟩, PySem.W.mg_of X G a__law_drawn_row, k__law_drawn_row⟩
  have b__law_drawn_row := D__law_drawn_row.fn.binds (ps := ["_law_script", "_law_draws_here"]) rfl fun _ _ _ _ _ _ us hl => match us, hl with | [_, _], _ => rfl
  have D__law_written : C8.Def K mg "_law_written" s__law_written f__law_written _ := ⟨⟨⟨_, _, _, _, _, _, _, _, _, _, rfl, l__law_written, co__law_written⟩⟩, PySem.W.mg_of X G a__law_written, k__law_written⟩
  have b__law_written := D__law_written.fn.binds (ps := ["_law_row_here"]) rfl fun _ _ _ _ _ _ us hl => match us, hl with | [_], _ => rfl
  have D__law_odd_text : C8.Def K mg "_law_odd_text" s__law_odd_text f__law_odd_text _ := ⟨⟨⟨_, _, _, _, _, _, _, _, _, _, rfl, l__law_odd_text, co__law_odd_text⟩⟩, PySem.W.mg_of X G a__law_odd_text, k__law_odd_text⟩
  have b__law_odd_text := D__law_odd_text.fn.binds (ps := ["_law_which"]) rfl fun _ _ _ _ _ _ us hl => match us, hl with | [_], _ => rfl
  have D__law_other_text : C8.Def K mg "_law_other_text" s__law_other_text f__law_other_text _ := ⟨⟨⟨_, _, _, _, _, _, _, _, _, _, rfl, l__law_other_text, co__law_other_text⟩⟩, PySem.W.mg_of X G a__law_other_text, k__law_other_text⟩
  have b__law_other_text := D__law_other_text.fn.binds (ps := ["_law_text", "_law_draws_here"]) rfl fun _ _ _ _ _ _ us hl => match us, hl with | [_, _], _ => rfl
  have D__law_decimal : C8.Def K mg "_law_decimal" s__law_decimal f__law_decimal _ := ⟨⟨⟨_, _, _, _, _, _, _, _, _, _, rfl, l__law_decimal, co__law_decimal⟩⟩, PySem.W.mg_of X G a__law_decimal, k__law_decimal⟩
  have b__law_decimal := D__law_decimal.fn.binds (ps := ["_law_piece"]) rfl fun _ _ _ _ _ _ us hl => match us, hl with | [_], _ => rfl
  have D__law_entry : C8.Def K mg "_law_entry" s__law_entry f__law_entry _ := ⟨⟨⟨_, _, _, _, _, _, _, _, _, _, rfl, l__law_entry, co__law_entry⟩⟩, PySem.W.mg_of X G a__law_entry, k__law_entry⟩
  have b__law_entry := D__law_entry.fn.binds (ps := ["_law_word"]) rfl fun _ _ _ _ _ _ us hl => match us, hl with | [_], _ => rfl
  have D__law_due : C8.Def K mg "_law_due" s__law_due f__law_due _ := ⟨⟨⟨_, _, _, _, _, _, _, _, _, _, rfl, l__law_due, co__law_due⟩⟩, PySem.W.mg_of X G a__law_due, k__law_due⟩
  have b__law_due := D__law_due.fn.binds (ps := ["_law_text"]) rfl fun _ _ _ _ _ _ us hl => match us, hl with | [_], _ => rfl
  have D__law_refused : C8.Def K mg "_law_refused" s__law_refused f__law_refused _ := ⟨⟨⟨_, _, _, _, _, _, _, _, _, _, rfl, l__law_refused, co__law_refused⟩⟩, PySem.W.mg_of X G a__law_refused, k__law_refused⟩
  have b__law_refused := D__law_refused.fn.binds (ps := ["_law_e", "_law_index"]) rfl fun _ _ _ _ _ _ us hl => match us, hl with | [_, _], _ => rfl
  have D__law_read_asked : C8.Def K mg "_law_read_asked" s__law_read_asked f__law_read_asked _ := ⟨⟨⟨_, _, _, _, _, _, _, _, _, _, rfl, l__law_read_asked, co__law_read_asked⟩⟩, PySem.W.mg_of X G a__law_read_asked, k__law_read_asked⟩
  have b__law_read_asked := D__law_read_asked.fn.binds (ps := ["_law_text"]) rfl fun _ _ _ _ _ _ us hl => match us, hl with | [_], _ => rfl
  have D_law : C8.Def K mg "law" s_law fa _ := ⟨⟨⟨_, _, _, _, _, _, _, _, _, _, rfl, l_law, co_law⟩⟩, hfa, k_law⟩
  have b_law := D_law.fn.binds (ps := ["_law_script"]) rfl fun _ _ _ _ _ _ us hl => match us, hl with | [_], _ => rfl
  have D_te : C8.Fun K "__init__" "TableError.__init__" s_TableError___init__ f_te _ := ⟨⟨_, _, _, _, _, _, _, _, _, _, rfl, l_te, co_te⟩⟩
  have b_te := D_te.binds (ps := ["self"]) rfl fun _ _ _ _ _ _ us hl => match us, hl with | [_], _ => rfl
  have D_ie : C8.Fun K "__init__" "IndexedError.__init__" s_IndexedError___init__ f_ie _ := ⟨⟨_, _, _, _, _, _, _, _, _, _, rfl, l_ie, co_ie⟩⟩
  have b_ie := D_ie.binds (ps := ["self", "index"]) rfl fun _ _ _ _ _ _ us hl => match us, hl with | [_, _], _ => rfl
  have oc_C : PySem.W.OtCls K C := ⟨ga_C, gg_C, ex_C, hd_C, ha_C, hn, ht, mr_C⟩
  have er_C : OtErr K C "BadText" := ⟨⟨⟨_, _, _, _, _, _, _, _, _, _, _, _, _, _, _, xl_C, vb_C⟩, sa_C, ex_C, ty_C, kc_C⟩, oc_C, ⟨⟨_, _, _, _, _, xl_C, rfl⟩, rd_C, ty_C, fn_C⟩, nw_C, ni_C⟩
  have ei_C : ErrI K mg "BadText" C f_ie := ⟨PySem.W.mg_of X G g_C, er_C, in_C, ti_ie⟩
  refine ⟨PySem.W.fnOf "law" "law" (C8.fnArgs s_law) (C8.fnBody s_law) (C8.fnScope s_law) .none kV_law dc_law pm_law an_law cd_law ct_law, fun s v => .of_eq rfl, fun base _ _ => ?_⟩
  have GT : FnOk l.prog w K mg base L2.CX0 1 f_te _ ["self"] (spTE K) := ok_te D_te
  have RB : OtRead K B "__init__" f_te := ⟨rB, sB, fB, k_te⟩
  have GI := ok_ie D_ie GT b_te RB (PySem.W.mg_of X G g_B)
  have c1 := c__law_cell (P := l.prog) (w := w) (base := base) D__law_cell b__law_cell T
  have c2 : C8.Cal l.prog w K mg base 1 "_law_draws" (spDraws K) [] := c__law_draws D__law_draws b__law_draws T
  have c3 := c__law_is_integer (P := l.prog) (w := w) (base := base) D__law_is_integer b__law_is_integer T
  have c4 := c__law_is_place D__law_is_place b__law_is_place T c3
  have c5 := c__law_is_row D__law_is_row b__law_is_row T c4 c3
  have c6 := c__law_same D__law_same b__law_same T c5
  have c7 := c__law_plus (P := l.prog) (w := w) (base := base) D__law_plus b__law_plus T
  have c8 := c__law_row (P := l.prog) (w := w) (base := base) D__law_row b__law_row T
  have c9 := c__law_moved D__law_moved b__law_moved T c7
  have c10 := c__law_places (P := l.prog) (w := w) (base := base) D__law_places b__law_places T
  have c11 := c__law_drawn D__law_drawn b__law_drawn T c10 c2 c8 c9
  have c12 := c__law_box (P := l.prog) (w := w) (base := base) D__law_box b__law_box T
  have c13 := c__law_drawn_row D__law_drawn_row b__law_drawn_row T c1 c2 c12 c11
  have c14 := c__law_written (P := l.prog) (w := w) (base := base) D__law_written b__law_written T
  have c15 := c__law_odd_text (P := l.prog) (w := w) (base := base) D__law_odd_text b__law_odd_text T
  have c16 := c__law_other_text D__law_other_text b__law_other_text T c15
  have c17 := c__law_decimal (P := l.prog) (w := w) (base := base) D__law_decimal b__law_decimal T
  have c18 := c__law_entry D__law_entry b__law_entry T c17
  have c19 := c__law_due D__law_due b__law_due T c18
  have d1 := c_is_decimal (P := l.prog) (w := w) (base := base) D_is_decimal b_is_decimal T
  have d2 := c_first_bad_piece D_first_bad_piece b_first_bad_piece T d1
  have d3 := c_entry_of D_entry_of b_entry_of T d1 d2
  have d4 := c_follows (P := l.prog) (w := w) (base := base) D_follows b_follows T
  have d5 := c_write_place (P := l.prog) (w := w) (base := base) D_write_place b_write_place T
  have d6 := c_write_row D_write_row b_write_row T d5
  have GR := ok_read D_read_row T ei_C GI b_ie d3 d4
  have h1 := h__law_is_integer (P := l.prog) (w := w) (base := base) D__law_is_integer T
  have h2 := h__law_is_error (P := l.prog) (w := w) (base := base) D__law_is_error T (PySem.W.mg_of X G g_B) (PySem.W.mg_none_of X G z_ValueError)
  have h3 := h__law_refused D__law_refused T er_C ⟨kB, kV⟩ (PySem.W.mg_of X G g_C) (PySem.W.mg_of X G g_C2) (PySem.W.mg_of X G g_C3) (PySem.W.mg_of X G g_C4) ⟨k1, k2, k3, k4⟩ D__law_is_error b__law_is_error h2 D__law_is_integer b__law_is_integer h1
  have c20 := c__law_read_asked D__law_read_asked b__law_read_asked T (PySem.W.mg_of X G g_B) er_C xB D_read_row b_read_row GR D__law_refused b__law_refused h3 c19 c6
  exact c_law D_law b_law T c1 c2 c13 c14 c16 d6 c20
theorem walk {l : PySem.W.OpenLaw} {q : Program} {loose : List Str} {XP : (Str → Option Value) → Heap → Prop} {YP : World → Heap → Prop} {d : DefRec} {K : Params → PySem.W.Frag} (hn : l.most = some 63) (hdf : d.params.defaults = [])
    (hY : ∀ (w : World) (h : Heap), YP w h → (K w.params).In h)
    (F : ∀ (w : World) (mg : Str → Option Value) (fa : Addr) (h : Heap), (K w.params).In h → h.Ns mainGlobals mg → mg d.name = some (.ref fa) →
      ∃ fd : FuncData, (∀ (s : Shared) (u : Value), BindsTo s fd ⟨[u], []⟩ [("_law_script", u)]) ∧ ∀ base : Heap, (K w.params).In base → base.Ns mainGlobals mg → FnOk l.prog w (K w.params) mg base L2.CX0 6 fa fd ["_law_script"] (spLaw (K w.params))) :
    PySem.W.WalkO q loose XP YP l.row.toRowW d [] (fun f vs => PySem.call f vs) :=
  L2.walk_ofK (n := 63) (k := 6) (x := "_law_script") (CX := L2.CX0) (sp := spLaw) hn (by decide) hdf ⟨rfl, by decide, by decide⟩ hY F (fun _ _ a ns hl _ hS => ⟨a, ns, rfl, hS, hl, fun _ => rfl⟩) fun _ _ _ _ z => z
end OT
open PySem PySem.W PyProof.Rows
set_option maxRecDepth 100000 in
set_option maxHeartbeats 0 in
theorem PySem.Challenge.cw_owntables_k14_whole_texts_holds : PySem.Challenge.rw_owntables_k14_whole_texts.Holds := by
  w_on; o_law; k_head; (case hw => w_witness2)
  k_fill
  refine OT.walk (l := PySem.Challenge.rw_owntables_k14_whole_texts) rfl rfl (fun w h Y => PySem.W.kIn_of Y) ?F
  case F =>
    intro w mg fa h KX G hmg
    refine' OT.all_mk KX G hmg ?z_len ?z_int ?z_str ?z_bool ?z_list ?z_tuple ?z_range ?z_enumerate ?z_isinstance ?z_sorted ?z_abs ?z_ValueError ?a_is_decimal ?l_is_decimal ?co_is_decimal ?k_is_decimal ?a_first_bad_piece ?l_first_bad_piece ?co_first_bad_piece ?k_first_bad_piece ?a_entry_of ?l_entry_of ?co_entry_of ?k_entry_of ?a_follows ?l_follows ?co_follows ?k_follows ?a_write_place ?l_write_place ?co_write_place ?k_write_place ?a_write_row ?l_write_row ?co_write_row ?k_write_row ?a_read_row ?l_read_row ?co_read_row ?k_read_row ?a__law_cell ?l__law_cell ?co__law_cell ?k__law_cell ?a__law_draws ?l__law_draws ?co__law_draws ?k__law_draws ?a__law_is_integer ?l__law_is_integer ?co__law_is_integer ?k__law_is_integer ?a__law_is_place ?l__law_is_place ?co__law_is_place ?k__law_is_place ?a__law_is_row ?l__law_is_row ?co__law_is_row ?k__law_is_row ?a__law_same ?l__law_same ?co__law_same ?k__law_same ?a__law_plus ?l__law_plus ?co__law_plus ?k__law_plus ?a__law_row ?l__law_row ?co__law_row ?k__law_row ?a__law_moved ?l__law_moved ?co__law_moved ?k__law_moved ?a__law_places ?l__law_places ?co__law_places ?k__law_places ?a__law_drawn ?l__law_drawn ?co__law_drawn ?k__law_drawn ?a__law_box ?l__law_box ?co__law_box ?k__law_box ?a__law_is_error ?l__law_is_error ?co__law_is_error ?k__law_is_error ?a__law_drawn_row ?l__law_drawn_row ?co__law_drawn_row ?k__law_drawn_row ?a__law_written ?l__law_written ?co__law_written ?k__law_written ?a__law_odd_text ?l__law_odd_text ?co__law_odd_text ?k__law_odd_text ?a__law_other_text ?l__law_other_text ?co__law_other_text ?k__law_other_text ?a__law_decimal ?l__law_decimal ?co__law_decimal ?k__law_decimal ?a__law_entry ?l__law_entry ?co__law_entry ?k__law_entry ?a__law_due ?l__law_due ?co__law_due ?k__law_due ?a__law_refused ?l__law_refused ?co__law_refused ?k__law_refused ?a__law_read_asked ?l__law_read_asked ?co__law_read_asked ?k__law_read_asked ?a_law ?l_law ?co_law ?k_law ?a_te ?l_te ?co_te ?k_te ?a_ie ?l_ie ?co_ie ?k_ie ?g_B ?g_I ?g_C ?g_C2 ?g_C3 ?g_C4 ?xl_C ?vb_C ?sa_C ?ex_C ?ty_C ?kc_C ?ga_C ?gg_C ?hd_C ?ha_C ?mr_C ?rd_C ?fn_C ?nw_C ?ni_C ?in_C ?hn ?ht ?ti_ie ?rB ?sB ?fB ?xB ?kB ?kV ?k1 ?k2 ?k3 ?k4
    (case g_B => k_is)
    (case g_I => k_is)
    (case g_C => k_is)
    (case g_C2 => k_is)
    (case g_C3 => k_is)
    (case g_C4 => k_is)
    (case a_is_decimal => k_is)
    (case a_first_bad_piece => k_is)
    (case a_entry_of => k_is)
    (case a_follows => k_is)
    (case a_write_place => k_is)
    (case a_write_row => k_is)
    (case a_read_row => k_is)
    (case a__law_cell => k_is)
    (case a__law_draws => k_is)
    (case a__law_is_integer => k_is)
    (case a__law_is_place => k_is)
    (case a__law_is_row => k_is)
    (case a__law_same => k_is)
    (case a__law_plus => k_is)
    (case a__law_row => k_is)
    (case a__law_moved => k_is)
    (case a__law_places => k_is)
    (case a__law_drawn => k_is)
    (case a__law_box => k_is)
    (case a__law_is_error => k_is)
    (case a__law_drawn_row => k_is)
    (case a__law_written => k_is)
    (case a__law_odd_text => k_is)
    (case a__law_other_text => k_is)
    (case a__law_decimal => k_is)
    (case a__law_entry => k_is)
    (case a__law_due => k_is)
    (case a__law_refused => k_is)
    (case a__law_read_asked => k_is)
    (case a_law => k_is)
    (case a_te => k_is)
    (case a_ie => k_is)
    (case xl_C => k_is)
    (case in_C => k_is)
    (case z_len => k_is)
    (case z_int => k_is)
    (case z_str => k_is)
    (case z_bool => k_is)
    (case z_list => k_is)
    (case z_tuple => k_is)
    (case z_range => k_is)
    (case z_enumerate => k_is)
    (case z_isinstance => k_is)
    (case z_sorted => k_is)
    (case z_abs => k_is)
    (case z_ValueError => k_is)
    (case l_is_decimal => k_is)
    (case co_is_decimal => k_is)
    (case k_is_decimal => k_is)
    (case l_first_bad_piece => k_is)
    (case co_first_bad_piece => k_is)
    (case k_first_bad_piece => k_is)
    (case l_entry_of => k_is)
    (case co_entry_of => k_is)
    (case k_entry_of => k_is)
    (case l_follows => k_is)
    (case co_follows => k_is)
    (case k_follows => k_is)
    (case l_write_place => k_is)
    (case co_write_place => k_is)
    (case k_write_place => k_is)
    (case l_write_row => k_is)
    (case co_write_row => k_is)
    (case k_write_row => k_is)
    (case l_read_row => k_is)
    (case co_read_row => k_is)
    (case k_read_row => k_is)
    (case l__law_cell => k_is)
    (case co__law_cell => k_is)
    (case k__law_cell => k_is)
    (case l__law_draws => k_is)
    (case co__law_draws => k_is)
    (case k__law_draws => k_is)
    (case l__law_is_integer => k_is)
    (case co__law_is_integer => k_is)
    (case k__law_is_integer => k_is)
    (case l__law_is_place => k_is)
    (case co__law_is_place => k_is)
    (case k__law_is_place => k_is)
    (case l__law_is_row => k_is)
    (case co__law_is_row => k_is)
    (case k__law_is_row => k_is)
    (case l__law_same => k_is)
    (case co__law_same => k_is)
    (case k__law_same => k_is)
    (case l__law_plus => k_is)
    (case co__law_plus => k_is)
    (case k__law_plus => k_is)
    (case l__law_row => k_is)
    (case co__law_row => k_is)
    (case k__law_row => k_is)
    (case l__law_moved => k_is)
    (case co__law_moved => k_is)
    (case k__law_moved => k_is)
    (case l__law_places => k_is)
    (case co__law_places => k_is)
    (case k__law_places => k_is)
    (case l__law_drawn => k_is)
    (case co__law_drawn => k_is)
    (case k__law_drawn => k_is)
    (case l__law_box => k_is)
    (case co__law_box => k_is)
    (case k__law_box => k_is)
    (case l__law_is_error => k_is)
    (case co__law_is_error => k_is)
    (case k__law_is_error => k_is)
    (case l__law_drawn_row => k_is)
    (case co__law_drawn_row => k_is)
    (case k__law_drawn_row => k_is)
    (case l__law_written => k_is)
    (case co__law_written => k_is)
    (case k__law_written => k_is)
    (case l__law_odd_text => k_is)
    (case co__law_odd_text => k_is)
    (case k__law_odd_text => k_is)
    (case l__law_other_text => k_is)
    (case co__law_other_text => k_is)
    (case k__law_other_text => k_is)
    (case l__law_decimal => k_is)
    (case co__law_decimal => k_is)
    (case k__law_decimal => k_is)
    (case l__law_entry => k_is)
    (case co__law_entry => k_is)
    (case k__law_entry => k_is)
    (case l__law_due => k_is)
    (case co__law_due => k_is)
    (case k__law_due => k_is)
    (case l__law_refused => k_is)
    (case co__law_refused => k_is)
    (case k__law_refused => k_is)
    (case l__law_read_asked => k_is)
    (case co__law_read_asked => k_is)
    (case k__law_read_asked => k_is)
    (case l_law => k_is)
    (case co_law => k_is)
    (case k_law => k_is)
    (case l_te => k_is)
    (case co_te => k_is)
    (case k_te => k_is)
    (case l_ie => k_is)
    (case co_ie => k_is)
    (case k_ie => k_is)
    (case vb_C => decide +kernel)
    (case sa_C => k_is)
    (case ex_C => k_is)
    (case ty_C => k_is)
    (case kc_C => k_is)
    (case ga_C => k_is)
    (case gg_C => k_is)
    (case hd_C => k_is)
    (case ha_C => k_is)
    (case mr_C => k_is)
    (case rd_C => k_is)
    (case fn_C => k_is)
    (case nw_C => k_is)
    (case ni_C => k_is)
    (case hn => k_is)
    (case ht => k_is)
    (case ti_ie => k_is)
    (case rB => k_is)
    (case sB => k_is)
    (case fB => k_is)
    (case xB => first | rfl | k_is)
    (case kB => first | rfl | k_is)
    (case kV => first | rfl | k_is)
    (case k1 => first | rfl | k_is)
    (case k2 => first | rfl | k_is)
    (case k3 => first | rfl | k_is)
    (case k4 => first | rfl | k_is)

