import PyProof.Rows.All
import Wide.All
import OpenK.AllK
import Wide.FinOn
import KE.KTypeName
import HandS.ForMost
import HandS.ForExc
import HandS.ExcInit
import HandS.ExcIs
import HandS.ExcField
import HandS.IsInst
import HandS.HotCalls
import HandS.Codes
import HandS.StrMore
import HandS.TupAny
import HandS.Walk
import HandS.TupSets
import HandS.DictTup
import HandS.FStr
import KE.KExcIs
import HandS.SortKw
import KE.KSortTupG
import HandS.Conv
import HandS.More
import HandS.Wide
import HandS.Evl
import HandS.CallSlots
import HandS.Zip
import HandS.Defaults
import PyProof.EqAt
import PyProof.EqKinds
import PyProof.TupleCall
import PySem.Challenge.RW_owntables_k16_whole_maps
set_option Elab.async false
set_option linter.all false
set_option maxRecDepth 100000
set_option maxHeartbeats 2000000
/-! Own errors of the package: word, index, made and told. -/
namespace PySem.W
open PySem PySem.Calls PyProof.Rows Builtin Builtin.ObjectAttr Builtin.Getset_descriptor
section
variable {prog : Program} {w : World} {A : Around} {E : Value → Shared → Prop} {s : Shared} {K : Frag} {x D : Addr} {ox : Obj}
/-- what a class says of the attribute «class» of its instances -/
structure OtCls (K : Frag) (D : Addr) : Prop where
  hga : findIn K (.ref D) "__getattribute__" = some (some (.builtin "BaseException.__getattribute__"))
  hgt : findIn K (.ref D) "__getattr__" = some none
  hsub : subIn K (.ref D) (.type "BaseException") = some true
  hdct : hasDictIn K D = true
  ha : findIn K (.ref D) "__class__" = some (some (.builtin "object.__class__"))
  hn : specialIn K (.builtin "object.__class__") "__get__" = some (some (.builtin "getset_descriptor.__get__"))
  htk : takesIn K (.builtin "object.__class__") = some true
  hm : mroIn K D (.type "object") = some true
theorem ot_class {expr : Bool} {Q : Value → Shared → Prop} (T : OtCls K D) (X : K.In s.heap) (I : InstAt s.heap x ox D none)
    (h : Q (.ref D) { s with toks := s.toks + 1 }) : wpAny (model prog w) A (getAttr (.ref x) "__class__" expr) Q E s := by
  obtain ⟨hga, hgt, hsub, hdct, ha, hn, htk, hm⟩ := T
  have found : findObj K D none "__class__" = some (.bind (.builtin "getset_descriptor.__get__") (.builtin "object.__class__")) :=
    findObj_dataN (by obtain ⟨cd, q, _⟩ := any_some hdct; rw [q]; rfl) ha hn htk
  obtain ⟨hp, gens, dr, tk, os⟩ := s
  have ty := I.type (M := model prog w)
  have l1 := looks_findIn (M := model prog w) X hga
  have l2 := looks_findIn (M := model prog w) X hgt
  have l3 := looks_find (M := model prog w) X I found
  have isx : Looks (model prog w) hp (isInstance (.ref x) (.type "BaseException")) true := ty.andThen (looks_subIn X hsub)
  have e0 : (Value.builtin "BaseException.__getattribute__" == Value.builtin "object.__getattribute__") = false := by decide +kernel
  unfold getAttr getAttrBy
  apply wpAny_bind; apply wpAny_mkText; apply wpAny_holding
  apply wpAny_bind; apply ty.at
  apply wpAny_bind; apply l1.at
  show wpAny _ _ (if (onTheHeap (Value.ref D) && _) = true then _ else _) _ _ _
  rw [e0, Bool.and_false, if_neg Bool.false_ne_true]
  unfold getAttrByItsOwn hookBefore
  apply wpAny_bind
  rw [if_pos (show onTheHeap (Value.ref D) = true from rfl)]
  apply l2.at
  apply wpAny_bind; apply wpAny_attempt; apply wpAny_holding
  unfold callGetattribute
  rw [(by cases expr <;> rfl : (expr && onTheHeap (Value.builtin "BaseException.__getattribute__")) = false), if_neg Bool.false_ne_true]
  unfold boundAndCalled
  rw [PySem.F.excAttr_ValueError.ga.bind (.ref x)]
  apply wpAny_bind; apply wpAny_pure
  show wpAny _ _ (call (.builtin "BaseException.__getattribute__") [.ref x, .str "__class__" tk]) _ _ _
  apply wpAny_call
  apply codeAny_call_builtin PySem.F.excAttr_ValueError.ga.plain PySem.F.entry_bexc_ga
  apply @check_slot (model prog w) _ _ ⟨hp, gens, dr, tk + 1, os⟩ "BaseException.__getattribute__" "BaseException" "__getattribute__" (.ref x) [.str "__class__" tk] [] _ (by decide +kernel) (by decide +kernel) isx (PySem.F.args_bexc_ga (.ref x) (.str "__class__" tk))
  unfold Builtin.«object.__getattribute__»
  refine wpAny_bind (wpAny_of_eq (a := ((Value.ref x : Value), [Value.str "__class__" tk])) (by first | rfl | (simp only [slotArgs]; rfl)) ?_)
  apply wpAny_bind; apply wpAny_pure
  apply wpAny_bind; apply ty.at
  apply wpAny_bind; apply l3.at
  show wpAny _ _ (holding [Value.builtin "object.__class__"] (call _ [.builtin "object.__class__", .ref x, .ref D]) >>= ret) _ _ _
  apply wpAny_bind; apply wpAny_holding; apply wpAny_call
  refine class_get (s := ⟨hp, gens, dr, tk + 1, os⟩) (ox := ox) (od := none) X I hm ?_
  apply wpAny_pure
  show wpAny _ _ (handedOut (.ref D)) _ _ _
  rw [handedOut_of (v := .ref D) rfl]
  exact wpAny_pure h
/-- the written part's class at C keeps its name nm -/
structure OtName (K : Frag) (C : Addr) (nm : Str) : Prop where
  keeps : ∃ (c : Value) (dd : Option Addr) (dat : Data) (sl : Array (Option Value)) (tk : Tok), K.lookup C = some ⟨c, dd, dat, sl⟩ ∧ sl[2]? = some (some (.str nm tk))
  reads : readsIn K C (.type "type") = true
  ty : typeIn K (.ref C) = some (.type "type")
  found : findCls K (.ref C) (.type "type") "__name__" = some (.get (.builtin "getset_descriptor.__get__") (.builtin "type.__name__") (.ref C) (.type "type"))
theorem ot_dga (d tp : Value) (C : Addr) : descrGetArgs ⟨[d, .ref C, tp], []⟩ = pure (d, some (.ref C), given tp) := by kernel_rfl
theorem ot_name {expr : Bool} {nm : Str} {Q : Value → Shared → Prop} (T : OtName K D nm) (X : K.In s.heap)
    (h : ∀ tk u, Q (.str nm tk) { s with toks := u }) : wpAny (model prog w) A (getAttr (.ref D) "__name__" expr) Q E s := by
  obtain ⟨⟨c, dd, dat, sl, tk, hk, hsl⟩, hr, ty, hf⟩ := T
  refine cls_bind X hr hf ?_
  obtain ⟨hp, gens, dr, tks, os⟩ := s
  have t0 : Looks (model prog w) hp (typeOf (.ref D)) (.type "type") := looks_typeIn X ty
  have t1 : Looks (model prog w) hp (isSubtype (.type "type") (.type "type")) true := Looks.of_pure (by rw [isSubtype_type]; kernel_rfl)
  refine wpAny_call (codeAny_call_builtin KF.slot_gs.plain KF.entry_gs (KF.slot_gs.check _ _ _ _ _ _ _ _ ktyn_type (KF.args_gs _ _ _) ?_))
  unfold Builtin.«getset_descriptor.__get__» descrGet
  rw [ot_dga]
  apply wpAny_bind
  apply wpAny_pure
  unfold descrGetter descrCheckInstance descrNameAndClass isInstance
  simp only [ktyn_owner]
  repeat lk
  refine ⟨Code.quiet_builtin _ (by decide +kernel), codeAny_builtin ktyn_entry ?_⟩
  unfold Builtin.«type.__name__» keptObject slotAt
  dsimp only
  refine wpAny_bind (wpAny_bind (wpAny_loadPart (X _ _ hk) (wpAny_pure ?_)))
  dsimp only
  rw [hsl]
  exact wpAny_pure (handed_on rfl (h _ _))
end
end PySem.W
namespace L2
open PySem PySem.Spec PyProof.Rows
/-! ### an exception's own __init__ -/
section
variable {X : Cx} {pos p1 p2 : Pos} {e : Expr} {es : List Expr} {te : TE} {ta : TA}
/-- e.__class__.__name__, e an exception that is being made, without a field so far -/
def tOtName (K : PySem.W.Frag) (te : TE) : TE := fun σ H Q => te σ H fun x H1 => ∃ (a C : Addr) (nm : Str), x = .ref a ∧ H1 a = some (exo a C none) ∧ PySem.W.OtCls K C ∧ PySem.W.OtName K C nm ∧ Q (.str nm) H1
theorem pe_otname (he : PE X e te) (hb : attributeBase e "__class__" X.env (eval e X.env) = eval e X.env := by rfl)
    (hb2 : attributeBase (.Attribute e "__class__" p1) "__name__" X.env (eval (.Attribute e "__class__" p1) X.env) = eval (.Attribute e "__class__" p1) X.env := by rfl) :
    PE X (.Attribute (.Attribute e "__class__" p1) "__name__" pos) (tOtName X.K te) := by
  refine ⟨fun pins s σ H Q I h => ?_⟩
  refine attr_of hb2 (attr_of hb (thn (he.run pins s σ H _ I h) fun u s1 hh => ?_))
  obtain ⟨x, H1, I1, rx, a, C, nm, ex, ea, tc, tn, q⟩ := hh
  subst ex
  obtain rfl : u = Value.ref a := rx
  obtain ⟨t1, ho⟩ := exo_at I1.hok ea
  have J : PySem.W.InstAt s1.heap a _ C none := ⟨ho, rfl, rfl, True.intro⟩
  refine PySem.W.ot_class tc I1.kIn J ?_
  refine PySem.W.ot_name tn I1.kIn fun tk u => ?_
  exact ⟨.str nm, H1, I1.tok u, ⟨tk, rfl⟩, q⟩
/-- a class of the text, its attributes read by the type's own way -/
structure OtRead (K : PySem.W.Frag) (C : Addr) (m : Str) (f : Addr) : Prop where
  rd : PySem.W.readsIn K C (.type "type") = true
  ga : PySem.W.specialIn K (.ref C) "__getattribute__" = some (some (.builtin "type.__getattribute__"))
  at_ : PySem.W.findCls K (.ref C) (.type "type") m = some (.val (.ref f))
  kp : PySem.W.keepIn K (.ref f) = true
/-- B.m(e, ..), B a class of the text, m a def of it -/
theorem pe_otcall {CX : CXT} {k : Nat} {f C : Addr} {fd : FuncData} {ps : List Str} {sp : Sp} {E : XK} {o : Expr} {to : TE} {m : Str} {pl : Sem Bool} (ho : PE X o to) (R : OtRead X.K C m f) (F : FnOk X.prog X.w X.K X.mg X.base CX k f fd ps sp) (hr : Room k X.A) (hb : Binds X.K fd ps []) (hx : Passes CX X E) (ha : PA X (e :: es) ta)
    (hc : eval (.Call (.Attribute o m p2) (e :: es) [] pos) X.env = (do
      let ov ← eval o X.env
      standAt p2.atName
      let (f, first) ← holding [ov] (getMethod ov m pl)
      callWith pos f first (backTo pos (starEach (e :: es) X.env)) (backToKw pos (keywordEach [] X.env))) := by rfl)
    (he : starEach (e :: es) X.env = (false, eval e X.env) :: starEach es X.env := by rfl) (hpl : (backTo pos (starEach es X.env)).any (·.1) = false := by rfl) :
    PE X (.Call (.Attribute o m p2) (e :: es) [] pos) (fun σ H Q => to σ H fun x H1 => x = .ref C ∧ ta σ H1 fun vs H2 => sp vs H2 Q E) := by
  refine ⟨fun pins s σ H Q I h => ?_⟩
  refine PySem.W.methodCall_KW (thn (ho.run pins s σ H _ I h) fun u s1 hh => ?_) hc
  obtain ⟨x, H1, I1, rx, ex, q⟩ := hh
  subst ex
  obtain rfl : u = Value.ref C := rx
  refine PySem.W.method_cls I1.kIn R.ga (PySem.W.cls_value I1.kIn R.rd R.at_ rfl ?_)
  have I2 := I1.tok (s1.toks + 1)
  show wpAny _ _ (callWith pos (Value.ref f) [] (backTo pos (starEach (e :: es) X.env)) []) _ _ _
  refine PySem.W.callWith_K (h₀ := X.base) I2.ok.mod.kin R.kp (thn (ha.run pos pins _ σ H1 _ I2 q) fun us s2 hh2 => ?_) he hpl
  obtain ⟨vs, H2, I3, r3, q3⟩ := hh2
  exact ⟨I3.kIn, run_fn F hr hb .nil hx I3 r3 (by rw [List.append_nil]; exact q3)⟩
end
end L2

namespace L2
open PySem PySem.Spec PyProof.Rows
/-- all that is asked of an own class of error, its name nm -/
structure OtErr (K : PySem.W.Frag) (C : Addr) (nm : Str) : Prop where
  ox : OexC K C
  oc : PySem.W.OtCls K C
  on : PySem.W.OtName K C nm
  nw : PySem.W.findIn K (.ref C) "word" = some none
  ni : PySem.W.findIn K (.ref C) "index" = some none
section
variable {P : Program} {w : World} {K : PySem.W.Frag} {mg : Str → Option Value} {base : Heap}
/-- TableError.__init__ -/
def spTE (K : PySem.W.Frag) : Sp := fun vs H Q _ => ∃ (a C : Addr) (nm : Str), vs = [.ref a] ∧ H a = some (exo a C none) ∧ OtErr K C nm ∧
  ∀ d, H d = none → d ≠ a → Q .non (upd (upd H d (exd d [("word", .str nm)])) a (exo a C (some d)))
theorem ok_te {q : Str} {st : Stmt} {f : Addr} {fd : FuncData} {p1 p2 p3 p4 p5 p6 : Pos} (F : Fun K "__init__" q st f fd) (S : FnScope ["self"] ["self"] (defScope st))
    (v : Vis (defScope st) "self") (hb : defBody st = [.Assign [.Attribute (.Name "self" p1) "word" p2] (.Attribute (.Attribute (.Name "self" p3) "__class__" p4) "__name__" p5) p6]) :
    FnOk P w K mg base CX0 1 f fd ["self"] (spTE K) := by
  refine F.ok S (fun vs H Q E h => ?_) (fun cdv A outer s H vs Q E hr h => ?_)
  · obtain ⟨a, C, nm, rfl, _⟩ := h
    rfl
  · obtain ⟨a, C, nm, rfl, ha, T, k⟩ := h
    rw [hb]
    refine ⟨_, pss_one (ps_ost (pv 0 rfl v) (pe_otname (pv 0 rfl v))), ?_⟩
    refine ⟨_, rfl, a, C, nm, rfl, ha, T.oc, T.on, _, rfl, a, C, rfl, T.ox, T.nw, Or.inl ⟨ha, fun d nd ne => ?_⟩⟩
    exact k d nd ne
/-- IndexedError.__init__ -/
def spIE (K : PySem.W.Frag) : Sp := fun vs H Q _ => ∃ (a C : Addr) (nm : Str) (v : V), vs = [.ref a, v] ∧ H a = some (exo a C none) ∧ OtErr K C nm ∧
  ∀ d, H d = none → d ≠ a → Q .non (upd (upd (upd H d (exd d [("word", .str nm)])) a (exo a C (some d))) d (exd d [("index", v), ("word", .str nm)]))
end
end L2

/-! ### defs that are handed the error that an except suite holds -/
namespace L2
open PySem PySem.Spec PyProof.Rows
/-- a promise that knows the held error: where it stands, its class, its dict -/
abbrev SpE := Addr → Value → Option Addr → Sp
structure FnE (P : Program) (w : World) (K : PySem.W.Frag) (mg : Str → Option Value) (base : Heap) (k : Nat) (f : Addr) (fd : FuncData) (ps : List Str) (sp : SpE) : Prop where
  len : ∀ a c d vs H Q E, sp a c d vs H Q E → vs.length = ps.length
  run : ∀ (A : Around) (outer : List Env) (s : Shared) (H : Hp) (args : Args) (us : List Value) (vs : List V) (Q : VK) (p : Addr × Obj) (c : Value) (d : Option Addr), L2H.RoomH k A → L2H.PinOk outer H s p → Zc c d p.2 → (∃ fs, p.2.data = .fields fs) →
    Env0 P w K mg base A outer s H → BindsTo s fd args (ps.zip us) → Vals vs us → sp p.1 c d vs H Q E0 → codeAny (model P w) A (.call (.ref f) args) (CR CX0 outer P w H s Q E0) s
theorem fnE_of {P : Program} {w : World} {K : PySem.W.Frag} {mg : Str → Option Value} {base : Heap} {k : Nat} {x : Str} {st : Stmt} {f : Addr} {fd : FuncData} {N ps : List Str} {sp : SpE} (F : C8.Fun K x x st f fd) (S : FnScope N ps (C8.fnScope st))
    (len : ∀ a c d vs H Q E, sp a c d vs H Q E → vs.length = ps.length)
    (body : ∀ (cdv : Value) (A : Around) (outer : List Env) (s : Shared) (H : Hp) (vs : List V) (Q : VK) (p : Addr × Obj) (c : Value) (d : Option Addr), Zc c d p.2 → (∃ fs, p.2.data = .fields fs) → L2H.RoomH k (A.deeper (envOfC x (C8.fnScope st) s.heap.objs.size f cdv)) → sp p.1 c d vs H Q E0 →
      ∃ t, PSs (L2H.cxH CX0 P w K mg base N x (C8.fnScope st) f cdv A outer s H E0 p) (C8.fnBody st) t ∧ t { nx := fun _ H' => Q .non H', rt := Q } (L2.start N vs) H) :
    FnE P w K mg base (k + 1) f fd ps sp := by
  obtain ⟨oc, od, dV, kV, doc, pm, an, cdv, ct, osl, rfl, lk, hcd⟩ := F.ex
  constructor
  · exact len
  intro A outer s H args us vs Q p c d room pin zc fld env binds rel want
  have size := len _ _ _ _ _ _ _ want
  have old : ∀ b o, base.get? b = some o → s.heap.get? b = some o := fun b o z => (env.bs b o z).1
  have inK : K.In s.heap := env.mod.kin.keeps old
  have kinds : ∀ y ∈ ps.zip us, (C8.fnScope st).names.lookup y.1 = some .local ∨
      ((C8.fnScope st).names.lookup y.1 = some .cell ∧ ((cellsFrom (s.heap.objs.size + 1) (C8.fnScope st).names []).lookup y.1).isSome = true) := by
    intro y hy
    have my := (List.of_mem_zip (a := y.1) (b := y.2) hy).1
    exact (S.par y.1 my).imp id fun z => ⟨z, PySem.W.cellsFrom_some _ _ _ (Or.inl z)⟩
  apply codeAny_call_function room.depth (inK _ _ lk) rfl S.co S.gen rfl (PySem.W.codeRec_of inK hcd)
  apply binds
  apply wpAny_newFunctionEnv_cells S.kind kinds
  intro env1 he s1 called
  subst he
  refine ⟨(env.mod.nolimit.keeps old).keeps called.toInCall.keep, codeAny_func ?_⟩
  obtain ⟨t, ht, read⟩ := body cdv A outer s H vs Q p c d zc fld (room.deeper _) want
  have I0 : Inv (L2H.cxH CX0 P w K mg base N x (C8.fnScope st) f cdv A outer s H E0 p) [] (L2.start N vs) H s1 := L2H.inv_startH S pin env size rel called
  refine wpAny_mono (ht.run [] s1 (L2.start N vs) H _ I0 read) (fun fl s2 q => ?_) fun _ _ q => q
  cases fl with
  | ret u =>
    obtain ⟨v, σ2, H2, J, rv, z⟩ := q
    exact ⟨v, H2, J.os, J.bare, J.base, J.hok, rv, z⟩
  | next =>
    obtain ⟨σ2, H2, J, z⟩ := q
    exact ⟨.non, H2, J.os, J.bare, J.base, J.hok, rfl, z⟩
  | brk =>
    obtain ⟨_, _, _, z⟩ := q
    exact z.elim
  | cont =>
    obtain ⟨_, _, _, z⟩ := q
    exact z.elim
section
variable {X : Cx} {p : Addr × Obj} {c : Value} {d : Option Addr} {k : Nat} {f : Addr} {fd : FuncData} {ps : List Str} {sp : SpE} {x : Str} {q pos : Pos} {e : Expr} {es : List Expr} {t : TA} {te : TE}
/-- f(e, ..) where the error is held -/
theorem pe_callE (F : FnE X.prog X.w X.K X.mg X.base k f fd ps sp) (hr : L2H.RoomH k X.A) (hp : p ∈ X.pn) (zc : Zc c d p.2) (fld : ∃ fs, p.2.data = .fields fs) (hg : Gl X x) (hm : X.mg x = some (.ref f)) (hk : PySem.W.keepIn X.K (.ref f) = true) (hb : Binds X.K fd ps [])
    (ha : PA X (e :: es) t) (hdb : (x == ("__debug__" : Str)) = false := by decide) (he : starEach (e :: es) X.env = (false, eval e X.env) :: starEach es X.env := by rfl) (hpl : (backTo pos (starEach es X.env)).any (·.1) = false := by rfl) :
    PE X (.Call (.Name x q) (e :: es) [] pos) (fun σ H Q => t σ H fun vs H1 => sp p.1 c d vs H1 Q E0) := by
  constructor
  intro pins s σ H Q I want
  apply wpAny_Call_Name_kw
  refine ld_glob I hg hm ?_ hdb
  refine PySem.W.callWith_K (h₀ := X.base) I.ok.mod.kin hk (thn (ha.run pos pins s σ H _ I want) ?_) he hpl
  rintro us s1 ⟨vs, H1, J, rel, z⟩
  refine ⟨J.kIn, ?_⟩
  have size : us.length = ps.length := by
    rw [← rel.length]
    exact F.len _ _ _ _ _ _ _ z
  have bind := hb s1 us J.kIn (by rw [List.append_nil]; exact size)
  rw [List.append_nil] at bind
  obtain ⟨p1, p2, p3, p4, p5⟩ := J.pin p (List.mem_append_left _ hp)
  have pin : L2H.PinOk X.stack H1 s1 p := ⟨p1, p2, fun z => (List.mem_cons.mp (J.stkSub p.1 z)).elim p3 p4, p5⟩
  refine wpAny_call (codeAny_mono (F.run X.A X.stack s1 H1 ⟨us, []⟩ us vs Q p c d hr pin zc fld J.env0 bind rel z) ?_)
  intro r s2 got
  cases r with
  | error er => exact got.elim
  | ok fl =>
    cases fl with
    | ret u => exact J.after got
    | next => exact got.elim
    | brk => exact got.elim
    | cont => exact got.elim
/-- the held error is an instance of its class -/
theorem heldAt {pins : List (Addr × Obj)} {σ : L2.St} {H : Hp} {s : Shared} {C dd : Addr} {fs : List (Str × V)} (I : Inv X pins σ H s) (hp : p ∈ X.pn) (zc : Zc (.ref C) (some dd) p.2) (fld : ∃ fs, p.2.data = .fields fs) (hd : H dd = some (.xd fs)) :
    ∃ od, PySem.W.InstAt s.heap p.1 p.2 C (some od) ∧ ∀ n v, fs.lookup n = some v → ∃ u, RelV v u ∧ PySem.W.lookIn n od = some (some u) := by
  obtain ⟨at1, _⟩ := I.pin p (List.mem_append_left _ hp)
  obtain ⟨vs, hdat⟩ := fld
  obtain ⟨mA, hns, hr⟩ := (show ObjOk X.prog X.w H s.heap dd (.xd fs) from I.hok dd _ hd)
  obtain ⟨od, ho, hl⟩ := lookIn_ns hns
  refine ⟨od, ⟨at1, zc.1, by unfold PySem.W.notCls; rw [hdat] <;> rfl, by rw [zc.2]; exact ho⟩, fun n v l => ?_⟩
  obtain ⟨u, hu, ru⟩ := RelO.some_of (v := v) (o := mA n) (by rw [← l]; exact hr n)
  exact ⟨u, ru, by rw [hl, hu]⟩
/-- isinstance(e, T), e the held error -/
theorem call_isX (hp : p ∈ X.pn) (zc : Zc c d p.2) (fld : ∃ fs, p.2.data = .fields fs) : CallR X (.builtin "isinstance") (fun xs H Q => ∃ (C dd : Addr) (fs : List (Str × V)) (y : V) (u : Value) (b : Bool),
    xs = [.ref p.1, y] ∧ c = .ref C ∧ d = some dd ∧ PySem.W.OtCls X.K C ∧ H dd = some (.xd fs) ∧ ClsV y u ∧ PySem.W.kitOne X.K (.ref C) u = some b ∧ Q (.bl b) H) := by
  rintro pins s σ H xs us Q I rel ⟨C, dd, fs, y, u, b, rfl, rfl, rfl, T, hd, hy, hb, z⟩
  obtain ⟨u1, u2, rfl, r1, r2⟩ := vals2 rel
  cases (show u1 = Value.ref p.1 from r1)
  cases hy.eq r2
  obtain ⟨od, J, _⟩ := heldAt I hp zc fld hd
  have isC : (PySem.W.clsIn X.K C).isSome = true := by
    obtain ⟨cd, q, _⟩ := PySem.W.any_some T.hdct
    rw [q]
    rfl
  exact PySem.W.kia_one (PySem.W.kitx_exc isC T.hga T.hgt T.hsub T.ha T.hn T.htk T.hm) I.kIn J hb (fun z => nomatch z) fun tk => ⟨.bl b, H, I.tok tk, rfl, z⟩
/-- e.n, e the held error, n a field of its own -/
theorem pe_fX {n : Str} (hp : p ∈ X.pn) (zc : Zc c d p.2) (fld : ∃ fs, p.2.data = .fields fs) (he : PE X e te) (hb : attributeBase e n X.env (eval e X.env) = eval e X.env := by rfl) :
    PE X (.Attribute e n pos) (fun σ H Q => te σ H fun y H1 => ∃ (C dd : Addr) (fs : List (Str × V)) (v : V), y = .ref p.1 ∧ c = .ref C ∧ d = some dd ∧ PySem.W.OtCls X.K C ∧ PySem.W.findIn X.K (.ref C) n = some none ∧ H1 dd = some (.xd fs) ∧ fs.lookup n = some v ∧ Q v H1) := by
  constructor
  intro pins s σ H Q I want
  refine attr_of hb (thn (he.run pins s σ H _ I want) ?_)
  rintro u s1 ⟨y, H1, J1, ry, C, dd, fs, v, rfl, rfl, rfl, T, hno, hd, hl, z⟩
  obtain rfl : u = Value.ref p.1 := ry
  obtain ⟨od, J, look⟩ := heldAt J1 hp zc fld hd
  obtain ⟨w1, rw1, lw⟩ := look n v hl
  exact HandSPX.exc_get J1.kIn J T.hga T.hgt T.hsub (PySem.W.findObj_own T.hdct hno rfl lw) (handed_of rw1) ⟨v, H1, J1.tok _, rw1, z⟩
end
end L2

namespace OT
open PySem
theorem b_int : bootBuiltins "int" = some (.type "int") := by decide +kernel
theorem b_str : bootBuiltins "str" = some (.type "str") := by decide +kernel
theorem b_bool : bootBuiltins "bool" = some (.type "bool") := by decide +kernel
theorem b_list : bootBuiltins "list" = some (.type "list") := by decide +kernel
theorem b_tuple : bootBuiltins "tuple" = some (.type "tuple") := by decide +kernel
theorem b_len : bootBuiltins "len" = some (.builtin "len") := by decide +kernel
theorem b_isinstance : bootBuiltins "isinstance" = some (.builtin "isinstance") := by decide +kernel
theorem b_any : bootBuiltins "any" = some (.builtin "any") := by decide +kernel
theorem b_all : bootBuiltins "all" = some (.builtin "all") := by decide +kernel
theorem b_sum : bootBuiltins "sum" = some (.builtin "sum") := by decide +kernel
theorem b_min : bootBuiltins "min" = some (.builtin "min") := by decide +kernel
theorem b_max : bootBuiltins "max" = some (.builtin "max") := by decide +kernel
theorem b_sorted : bootBuiltins "sorted" = some (.builtin "sorted") := by decide +kernel
theorem b_abs : bootBuiltins "abs" = some (.builtin "abs") := by decide +kernel
theorem b_ValueError : bootBuiltins "ValueError" = some (.type "ValueError") := by decide +kernel
end OT

set_option Elab.async false
set_option linter.all false
set_option maxRecDepth 100000
set_option maxHeartbeats 2000000
/-! Rows: sorted keys of a dict whose keys are tuples of ints; valid rows. -/
namespace L2
open PySem PySem.Spec PyProof.Rows
section
/-- what a sort leaves: the same values, ascending by their keys -/
theorem sort_left {κ : KeyKind} {vs : List Value} {a : Array Keyed} (perm : a.Perm (pairsOf vs)) (srt : SortedToK κ a (pairsOf vs).size) :
    (a.toList.map (·.2)).Perm vs ∧ (a.toList.map (·.2)).Pairwise fun x y => ∀ k l, κ.keyOf x = some k → κ.keyOf y = some l → κ.kle k l := by
  have pl : a.toList.Perm (vs.zip vs) := by
    rw [← pairsOf_toList]
    exact Array.perm_iff_toList_perm.mp perm
  have diag : ∀ p ∈ a.toList, p.1 = p.2 := fun p hp => (mem_zip_self (pl.mem_iff.mp hp)).1
  constructor
  · have e : (vs.zip vs).map (·.2) = vs := by
      rw [List.map_snd_zip]
      exact Nat.le_refl _
    have q := pl.map (·.2)
    rw [e] at q
    exact q
  · rw [List.pairwise_map, List.pairwise_iff_getElem]
    intro i j hi hj hij k l hk hl
    have hn : a.size = (pairsOf vs).size := perm.size_eq
    rw [Array.length_toList] at hi hj
    have s := srt i j (Nat.le_of_lt hij) (by omega)
    have at_ : ∀ n (h : n < a.size), ∀ m, κ.keyOf a.toList[n].2 = some m → KK κ a n = m := fun n h m hm => by
      unfold KK
      rw [Array.getElem?_eq_getElem h]
      have d := diag a.toList[n] (List.getElem_mem _)
      rw [← d] at hm
      rw [Array.getElem_toList] at hm
      dsimp only
      rw [hm]
      rfl
    rw [at_ i hi k hk, at_ j hj l hl] at s
    exact s
theorem lexLt_inl : ∀ k l : List Int, PyProof.Rows.lexLt itemOrd (k.map Sum.inl) (l.map Sum.inl) = HT.lexLt k l
  | [], [] => rfl
  | [], _ :: _ => rfl
  | _ :: _, [] => rfl
  | x :: r, y :: t => by
    rw [List.map_cons, List.map_cons, PyProof.Rows.lex_cons, lexLt_inl r t, HT.lexLt_cons]
    show (decide (x < y) || (!decide (y < x) && HT.lexLt r t)) = _
    by_cases h : x = y
    · rw [if_pos h, decide_eq_false (by omega), decide_eq_false (by omega)]
      rfl
    · rw [if_neg h]
      by_cases h2 : x < y
      · rw [decide_eq_true h2]
        rfl
      · rw [decide_eq_false h2, decide_eq_true (show y < x by omega)]
        rfl
theorem tupItems_ints : ∀ (ns : List Int) (us : List Value) (i : Nat), Vals (ns.map V.int) us → tupItems (fun _ => false) i us = some (ns.map Sum.inl)
  | [], _, _, .nil => rfl
  | n :: ns, _ :: us, i, .cons r t => by
    obtain ⟨tk, rfl⟩ := (show ∃ tk, _ = Value.int n tk from r)
    show (if (false : Bool) = true then none else (tupItems (fun _ => false) (i + 1) us).map (Sum.inl n :: ·)) = _
    rw [if_neg Bool.false_ne_true, tupItems_ints ns us (i + 1) t]
    rfl
theorem ints_inj : ∀ {k l : List Int}, k.map V.int = l.map V.int → k = l
  | [], [], _ => rfl
  | [], _ :: _, h => by cases h
  | _ :: _, [], h => by cases h
  | x :: r, y :: t, h => by
    rw [List.map_cons, List.map_cons] at h
    obtain ⟨e, h⟩ := List.cons.inj h
    rw [V.int.inj e, ints_inj h]
theorem vals_refs' : ∀ out : List (Addr × List Int), Vals (out.map fun x => V.ref x.1) (out.map fun x => Value.ref x.1)
  | [] => .nil
  | _ :: r => .cons rfl (vals_refs' r)
variable {X : Cx}
/-- sorted(d), the keys of d tuples of ints -/
theorem cr_sortedDT (hcalm : X.calm = true) : CallR X (.builtin "sorted") (fun xs H Q => ∃ (d : Addr) (kvs : List (List Key × V)) (ks : List (List Int)), xs = [.ref d] ∧ Rd H d (.dT kvs) ∧ kvs.map (·.1) = ks.map (fun k => k.map Sum.inl) ∧ (2 ≤ ks.length → ∀ k ∈ ks, k ≠ []) ∧
    ∀ (out : List (Addr × List Int)) (p : Addr), (out.map (·.2)).Perm ks → (out.map (·.2)).Pairwise (fun a b => HT.lexLt b a = false) → ks.Nodup → (∀ x ∈ out, H x.1 = some (.tup (x.2.map V.int))) → H p = none → Q (.ref p) (upd H p (.lst (out.map fun x => V.ref x.1)))) := by
  rintro pins s σ H xs us Q I rel ⟨d, kvs, ks, rfl, hd, hks, hne, want⟩
  obtain ⟨u, rfl, rx⟩ := rel.one
  cases rx
  obtain ⟨z, hs, xs, pr, o, es, ep, ho, hx, hdt, he, hn⟩ := (show ObjOk X.prog X.w H s.heap d (.dT kvs) from hd.ok I.hok)
  have l1 : es.size = xs.length := size_of_entries he
  have l2 : kvs.length = xs.length := Paired.length pr
  -- the keys' addresses
  have keyed : ∀ (kvs : List (List Key × V)) (xs : List (List Key × Addr × Value)) (ks : List (List Int)), Paired (fun (p : List Key × V) (q : List Key × Addr × Value) => p.1 = q.1 ∧ H q.2.1 = some (.tup (p.1.map kV)) ∧ RelV p.2 q.2.2) kvs xs → kvs.map (·.1) = ks.map (fun k => k.map Sum.inl) →
      xs.map (·.1) = ks.map (fun k => k.map Sum.inl) ∧ ∀ x ∈ (xs.map (·.2.1)).zip ks, H x.1 = some (.tup (x.2.map V.int)) := by
    intro kvs
    induction kvs with
    | nil =>
      intro xs ks pr hks
      cases pr
      cases ks with
      | nil => exact ⟨rfl, fun x hx => by cases hx⟩
      | cons k r => cases hks
    | cons a r ih =>
      intro xs ks pr hks
      cases pr with
      | cons h t =>
        rename_i q xs'
        cases ks with
        | nil => cases hks
        | cons k ks' =>
          obtain ⟨e1', e2⟩ := List.cons.inj hks
          have e1 : a.1 = k.map Sum.inl := e1'
          obtain ⟨i1, i2⟩ := ih _ _ t e2
          obtain ⟨h1, h2, _⟩ := h
          refine ⟨?_, fun x hx => ?_⟩
          · rw [List.map_cons, List.map_cons, i1, ← h1, e1]
          · rw [List.map_cons, List.zip_cons_cons] at hx
            rcases List.mem_cons.mp hx with e | hx
            · rw [e]
              show H q.2.1 = _
              rw [h2, e1, List.map_map]
              rfl
            · exact i2 x hx
  obtain ⟨kx, held⟩ := keyed kvs xs ks pr hks
  have lk : xs.length = ks.length := by
    have := congrArg List.length kx
    rwa [List.length_map, List.length_map] at this
  have nod : ks.Nodup := by
    rw [kx] at hn
    exact nodup_of_map hn
  apply Calls.call_function_entry kind_sorted plain_sorted entry_sorted (args_sorted1 (.ref d))
  unfold Builtin.«sorted»
  apply wpAny_bind (m := checkCount "sorted" 1 1 _)
  apply wpAny_pure
  refine wpAny_bind (PySem.W.kdu_collect (A := X.A.in1) (kdl_raw hs hx hdt) (I.ok.hd hcalm) ho (by omega) fun h' tk got hk hacc => ?_)
  have ea : got.toList = (xs.map (·.2.1)).map Value.ref := by
    have hl : got.toList.length = xs.length := by rw [Array.length_toList, hacc.1]; exact l1
    apply List.ext_getElem
    · rw [hl, List.length_map, List.length_map]
    · intro j hj1 hj2
      have g1 : got[j]? = some got.toList[j] := by
        rw [← Array.getElem?_toList]
        exact List.getElem?_eq_getElem hj1
      obtain ⟨en, hen, hv⟩ := hacc.2 j _ g1
      have qe := entry_at he j
      have hjx : j < xs.length := by omega
      rw [hen, List.getElem?_eq_getElem hjx] at qe
      have e2 := Option.some.inj qe
      rw [hv, e2, List.getElem_map, List.getElem_map]
      rfl
  have J1 : Inv X pins σ H { s with heap := h', toks := tk } := I.kept hk
  have gotk : got.toList.length = ks.length := by rw [ea, List.length_map, List.length_map, lk]
  have fits : got.toList.length ≤ sizeLine := by omega
  apply wpAny_bind
  refine wpAny_newList ?_ fits
  have atL : (h'.push (seqObj "list" got.toList.toArray 0)).get? h'.objs.size = some (seqObj "list" got.toList.toArray 0) := Heap.get?_push_size _ rfl
  show wpAny _ _ _ _ _ { s with heap := h'.push (seqObj "list" got.toList.toArray 0), toks := tk }
  -- each key stands in the heap
  have stands : ∀ (a : Addr) (k : List Int), H a = some (.tup (k.map V.int)) → ∃ its : List Value, Vals (k.map V.int) its ∧ IsTup h' a its.toArray := fun a k e => by
    obtain ⟨_, its, rv, it⟩ := (show ObjOk X.prog X.w H h' a (.tup (k.map V.int)) from J1.hok a _ e)
    exact ⟨its, rv, it⟩
  have keyOf : ∀ (a : Addr) (k : List Int), H a = some (.tup (k.map V.int)) → PyProof.Rows.G.tupKeyC (h'.push (seqObj "list" got.toList.toArray 0)) (fun _ => false) (.ref a) = some (k.map Sum.inl) := fun a k e => by
    obtain ⟨its, rv, ob, h1, h2, n, h3⟩ := stands a k e
    have g : (h'.push (seqObj "list" got.toList.toArray 0)).get? a = some ob := Heap.get?_push_of_some _ h1
    have it : PyProof.Rows.G.isTupObj (h'.push (seqObj "list" got.toList.toArray 0)) (.ref a) = true := by
      simp only [PyProof.Rows.G.isTupObj, g, h2]
      rfl
    unfold PyProof.Rows.G.tupKeyC
    rw [if_pos it]
    unfold tupKey
    dsimp only
    rw [g]
    dsimp only
    rw [h3]
    dsimp only
    exact tupItems_ints k its 0 rv
  have zipped : ∀ v ∈ got.toList, ∃ a k, v = Value.ref a ∧ k ∈ ks ∧ H a = some (.tup (k.map V.int)) := fun v hv => by
    obtain ⟨j, hj, e⟩ := List.getElem_of_mem hv
    have hjk : j < ks.length := by omega
    have hjx : j < (xs.map (·.2.1)).length := by rw [List.length_map]; omega
    have ev : v = Value.ref (xs.map (·.2.1))[j] := by
      rw [← e]
      simp only [ea, List.getElem_map]
    refine ⟨_, ks[j], ev, List.getElem_mem _, held ((xs.map (·.2.1))[j], ks[j]) ?_⟩
    rw [List.mem_iff_getElem]
    refine ⟨j, by rw [List.length_zip]; omega, ?_⟩
    rw [List.getElem_zip]
  have keys : KeysOf (PyProof.Rows.G.tupKindC (h'.push (seqObj "list" got.toList.toArray 0)) fun _ => false) (pairsOf got.toList) := PyProof.Rows.G.tupKeys fun v hv => by
    obtain ⟨a, k, rfl, _, hk⟩ := zipped v hv
    exact ⟨_, keyOf a k hk⟩
  have k6 := PyProof.Rows.G.keeps_sort6 (vs := got.toList) atL
  have tups : 2 ≤ got.toList.length → ∃ fs, 0 < fs.length ∧ TupsOf (h'.push (seqObj "list" got.toList.toArray 0)) (fun _ => false) got.toList fs := fun h2 => by
    have each : ∀ l : List Value, (∀ v ∈ l, ∃ a k, v = Value.ref a ∧ k ∈ ks ∧ H a = some (.tup (k.map V.int))) → ∃ fs, fs.length = l.length ∧ TupsOf (h'.push (seqObj "list" got.toList.toArray 0)) (fun _ => false) l fs := by
      intro l
      induction l with
      | nil => exact fun _ => ⟨[], rfl, .nil⟩
      | cons v r ih =>
        intro hv
        obtain ⟨fs, hl, ht⟩ := ih fun y hy => hv y (List.mem_cons_of_mem _ hy)
        obtain ⟨a, k, rfl, hm, hk⟩ := hv v List.mem_cons_self
        obtain ⟨its, rv, ob, h1, h2', n, h3⟩ := stands a k hk
        cases k with
        | nil => exact absurd rfl (hne (by omega) [] hm)
        | cons i k =>
          cases rv with
          | @cons _ u0 _ ur r0 rt =>
            obtain ⟨tk0, rfl⟩ := (show ∃ tk, u0 = Value.int i tk from r0)
            exact ⟨.int i tk0 :: fs, by rw [List.length_cons, List.length_cons, hl], .cons ⟨a, ob, _, n, rfl, Heap.get?_push_of_some _ h1, h2', h3, rfl, fun _ => ⟨i, tk0, rfl⟩, fun z => by cases z⟩ ht⟩
    obtain ⟨fs, hl, ht⟩ := each got.toList zipped
    exact ⟨fs, by omega, ht⟩
  refine wpAny_bind (wpAny_holding (wpAny_call_entry PyProof.Rows.slot_list_sort ⟨_, atL, rfl⟩ PyProof.Rows.entry_list_sort
    (PyProof.Rows.G.list_sort_treeG (κ := PyProof.Rows.G.tupKindC (h'.push (seqObj "list" got.toList.toArray 0)) fun _ => false) (kd := tuples' true) (s := { s with heap := h'.push (seqObj "list" got.toList.toArray 0), toks := tk }) atL keys
      (PyProof.Rows.G.tupC_ltAt true k6) (fun h2 R hq => ?kind) fits fun st' a1 a2 a3 => ⟨_, rfl, ?ret⟩) (PyProof.Rows.args_list_sort _)))
  case kind =>
    obtain ⟨fs, hl, ht⟩ := tups h2
    exact tup_kind hl (PyProof.Rows.G.TupsOf.keep k6 ht) hq
  case ret =>
    obtain ⟨o1, o2⟩ := sort_left a1 a2
    have out : ∃ out : List (Addr × List Int), (arrOf st').toList.map (·.2) = out.map (fun x => Value.ref x.1) ∧ ∀ x ∈ out, H x.1 = some (.tup (x.2.map V.int)) := by
      have each : ∀ l : List Value, (∀ v ∈ l, v ∈ got.toList) → ∃ out : List (Addr × List Int), l = out.map (fun x => Value.ref x.1) ∧ ∀ x ∈ out, H x.1 = some (.tup (x.2.map V.int)) := by
        intro l
        induction l with
        | nil => exact fun _ => ⟨[], rfl, fun x hx => by cases hx⟩
        | cons v r ih =>
          intro hv
          obtain ⟨out, e, ho'⟩ := ih fun y hy => hv y (List.mem_cons_of_mem _ hy)
          obtain ⟨a, k, rfl, _, hk⟩ := zipped v (hv v List.mem_cons_self)
          refine ⟨(a, k) :: out, by rw [List.map_cons, e], fun x hx => ?_⟩
          rcases List.mem_cons.mp hx with e' | hx
          · rw [e']
            exact hk
          · exact ho' x hx
      exact each _ fun v hv => o1.mem_iff.mp hv
    obtain ⟨out, eo, ho'⟩ := out
    obtain ⟨ep', he'⟩ := PyProof.Rows.sortedHeap_at (vs := got.toList) (out := (arrOf st').map (·.2)) atL
    have oz : out.length ≤ sizeLine := by
      have e1 := congrArg List.length eo
      have e2 := o1.length_eq
      rw [List.length_map] at e1 e2
      rw [List.length_map] at e1
      omega
    have inj : ∀ (a : Addr) (k l : List Int), H a = some (.tup (k.map V.int)) → H a = some (.tup (l.map V.int)) → k = l := fun a k l h1 h2 => by
      rw [h1] at h2
      exact ints_inj (HO.tup.inj (Option.some.inj h2))
    refine wpAny_pure ⟨_, rfl, .ref h'.objs.size, upd H h'.objs.size (.lst (out.map fun x => V.ref x.1)), J1.laid (t' := tk) (fun b u q => ?old) (Nat.le_refl _) ⟨by rw [List.length_map]; exact oz, ((arrOf st').map (·.2)).toList, ep', ?vals, he'⟩, rfl, want out _ ?perm ?pw nod ho' (J1.hok.fresh (Nat.le_refl _))⟩
    case old =>
      rw [PyProof.Rows.sortedHeap_old (Nat.ne_of_lt (Heap.lt_size q)) (Nat.lt_of_lt_of_le (Heap.lt_size q) (by rw [size_push']; exact Nat.le_succ _))]
      exact Heap.get?_push_of_some _ q
    case vals =>
      rw [Array.toList_map, eo]
      exact vals_refs' out
    case perm =>
      have p1 : (out.map (fun x => Value.ref x.1)).Perm got.toList := by rw [← eo]; exact o1
      have rd : ∀ v : Value, ∃ k : List Int, ∀ (a : Addr) (l : List Int), v = .ref a → H a = some (.tup (l.map V.int)) → k = l := fun v => by
        by_cases h : ∃ (a : Addr) (l : List Int), v = .ref a ∧ H a = some (.tup (l.map V.int))
        · obtain ⟨a, l, e, h⟩ := h
          refine ⟨l, fun a' l' e' h' => ?_⟩
          cases e.symm.trans e'
          exact inj _ _ _ h h'
        · exact ⟨[], fun a l e h' => absurd ⟨a, l, e, h'⟩ h⟩
      have p2 := p1.map fun v => (rd v).choose
      rw [List.map_map] at p2
      have e1 : out.map (((fun v => (rd v).choose)) ∘ fun x => Value.ref x.1) = out.map (·.2) := List.map_congr_left fun x hx => (rd (.ref x.1)).choose_spec _ _ rfl (ho' x hx)
      have e2 : got.toList.map (fun v => (rd v).choose) = ks := by
        apply List.ext_getElem
        · rw [List.length_map]; exact gotk
        · intro j h1 h2
          have h3 : j < (xs.map (·.2.1)).length := by rw [List.length_map]; omega
          rw [List.getElem_map]
          have ev : got.toList[j]'(by omega) = Value.ref (xs.map (·.2.1))[j] := by simp only [ea, List.getElem_map]
          refine (rd _).choose_spec _ _ ev (held ((xs.map (·.2.1))[j], ks[j]) ?_)
          rw [List.mem_iff_getElem]
          refine ⟨j, by rw [List.length_zip]; omega, ?_⟩
          rw [List.getElem_zip]
      rw [e1, e2] at p2
      exact p2
    case pw =>
      rw [eo, List.pairwise_map] at o2
      rw [List.pairwise_map]
      refine List.Pairwise.imp_of_mem (fun {x y} hx hy h => ?_) o2
      have hle := h _ _ (keyOf x.1 x.2 (ho' x hx)) (keyOf y.1 y.2 (ho' y hy))
      rw [← lexLt_inl]
      exact hle
end
end L2

set_option Elab.async false
set_option linter.all false
set_option maxRecDepth 100000
set_option maxHeartbeats 2000000
/-! rows: what a list of entries sums to, and the one row of the sums -/
namespace OT
open PySem PySem.Spec PyProof.Rows L2
abbrev Pl := List Int
abbrev Ent := List Int × Int
def numAt : List Ent → Pl → Int
  | [], _ => 0
  | e :: r, q => (if e.1 = q then e.2 else 0) + numAt r q
theorem numAt_app : ∀ (a b : List Ent) (q : Pl), numAt (a ++ b) q = numAt a q + numAt b q
  | [], b, q => by
    show numAt b q = 0 + numAt b q
    omega
  | e :: r, b, q => by
    show (if e.1 = q then e.2 else 0) + numAt (r ++ b) q = (if e.1 = q then e.2 else 0) + numAt r q + numAt b q
    rw [numAt_app r b q]
    omega
theorem numAt_out {es : List Ent} {q : Pl} (h : ∀ e ∈ es, e.1 ≠ q) : numAt es q = 0 := by
  induction es with
  | nil => rfl
  | cons e r ih =>
    show (if e.1 = q then e.2 else 0) + numAt r q = 0
    rw [if_neg (h e List.mem_cons_self), ih fun x hx => h x (List.mem_cons_of_mem _ hx)]
    rfl
theorem lt_irr (k : Pl) : HT.lexLt k k = false := by
  rw [← lexLt_inl]
  exact PyProof.Rows.lex_irrefl _
theorem lt_trans {a b c : Pl} (h1 : HT.lexLt a b = true) (h2 : HT.lexLt b c = true) : HT.lexLt a c = true := by
  rw [← lexLt_inl] at *
  exact PyProof.Rows.lex_trans _ _ _ h1 h2
theorem inl_inj {β : Type} : ∀ {a b : Pl}, a.map (Sum.inl : Int → Int ⊕ β) = b.map Sum.inl → a = b
  | [], [], _ => rfl
  | [], _ :: _, h => by cases h
  | _ :: _, [], h => by cases h
  | x :: r, y :: t, h => by
    rw [List.map_cons, List.map_cons] at h
    obtain ⟨e, h⟩ := List.cons.inj h
    rw [Sum.inl.inj e, inl_inj h]
theorem lt_tot {a b : Pl} (h1 : HT.lexLt a b = false) (h2 : HT.lexLt b a = false) : a = b := by
  rw [← lexLt_inl] at *
  exact inl_inj (PyProof.Rows.lex_total _ _ h1 h2)
theorem lt_ne {a b : Pl} (h : HT.lexLt a b = true) : a ≠ b := by
  rintro rfl
  rw [lt_irr] at h
  cases h
structure Valid (r : List Ent) : Prop where
  asc : r.Pairwise fun a b => HT.lexLt a.1 b.1 = true
  nz : ∀ e ∈ r, e.2 ≠ 0
theorem Valid.tail {e : Ent} {r : List Ent} (h : Valid (e :: r)) : Valid r := ⟨(List.pairwise_cons.mp h.asc).2, fun x hx => h.nz x (List.mem_cons_of_mem _ hx)⟩
theorem Valid.head_out {e : Ent} {r : List Ent} (h : Valid (e :: r)) {q : Pl} (hq : q = e.1 ∨ HT.lexLt q e.1 = true) : numAt r q = 0 := by
  refine numAt_out fun x hx z => ?_
  have h1 := (List.pairwise_cons.mp h.asc).1 x hx
  rcases hq with rfl | hq
  · exact lt_ne h1 z.symm
  · exact lt_ne (lt_trans hq h1) z.symm
theorem Valid.head_at {e : Ent} {r : List Ent} (h : Valid (e :: r)) : numAt (e :: r) e.1 = e.2 := by
  show (if e.1 = e.1 then e.2 else 0) + numAt r e.1 = e.2
  rw [if_pos rfl, h.head_out (.inl rfl)]
  omega
theorem Valid.low {e : Ent} {r : List Ent} (h : Valid (e :: r)) {q : Pl} (hq : HT.lexLt q e.1 = true) : numAt (e :: r) q = 0 := by
  show (if e.1 = q then e.2 else 0) + numAt r q = 0
  rw [if_neg (fun z => lt_ne hq z.symm), h.head_out (.inr hq)]
  rfl
theorem Valid.ext : ∀ {r t : List Ent}, Valid r → Valid t → (∀ q, numAt r q = numAt t q) → r = t
  | [], [], _, _, _ => rfl
  | [], e :: t, _, ht, h => by
    have h1 := h e.1
    rw [ht.head_at] at h1
    exact absurd h1.symm (ht.nz e List.mem_cons_self)
  | e :: r, [], hr, _, h => by
    have h1 := h e.1
    rw [hr.head_at] at h1
    exact absurd h1 (hr.nz e List.mem_cons_self)
  | e :: r, f :: t, hr, ht, h => by
    have k : e.1 = f.1 := by
      refine lt_tot ?_ ?_
      · cases z : HT.lexLt e.1 f.1 with
        | false => rfl
        | true =>
          have h1 := h e.1
          rw [hr.head_at, ht.low z] at h1
          exact absurd h1 (hr.nz e List.mem_cons_self)
      · cases z : HT.lexLt f.1 e.1 with
        | false => rfl
        | true =>
          have h1 := h f.1
          rw [ht.head_at, hr.low z] at h1
          exact absurd h1.symm (ht.nz f List.mem_cons_self)
    have n : e.2 = f.2 := by
      have h1 := h e.1
      rw [hr.head_at, k, ht.head_at] at h1
      exact h1
    have ef : e = f := Prod.ext k n
    subst ef
    refine congrArg _ (Valid.ext hr.tail ht.tail fun q => ?_)
    have h1 := h q
    have h2 : (if e.1 = q then e.2 else 0) + numAt r q = (if e.1 = q then e.2 else 0) + numAt t q := h1
    omega
/-- the row of the sums -/
structure RowIs (r es : List Ent) : Prop where
  v : Valid r
  s : ∀ q, numAt r q = numAt es q
theorem RowIs.one {r t es : List Ent} (h1 : RowIs r es) (h2 : RowIs t es) : r = t := h1.v.ext h2.v fun q => (h1.s q).trans (h2.s q).symm
theorem Valid.at : ∀ {r : List Ent}, Valid r → ∀ e ∈ r, numAt r e.1 = e.2
  | f :: t, h, e, he => by
    rcases List.mem_cons.mp he with rfl | he
    · exact h.head_at
    · show (if f.1 = e.1 then f.2 else 0) + numAt t e.1 = e.2
      rw [if_neg (lt_ne ((List.pairwise_cons.mp h.asc).1 e he)), Valid.at h.tail e he]
      omega
theorem RowIs.mem {r es : List Ent} (h : RowIs r es) {e : Ent} (he : e ∈ r) : ∃ x ∈ es, x.1 = e.1 := by
  have h1 := h.v.at e he
  rw [h.s] at h1
  by_cases z : ∃ x ∈ es, x.1 = e.1
  · exact z
  · rw [numAt_out fun x hx y => z ⟨x, hx, y⟩] at h1
    exact absurd h1.symm (h.v.nz e he)
theorem Valid.len : ∀ {r : List Ent} {l : List Pl}, Valid r → (∀ e ∈ r, e.1 ∈ l) → r.length ≤ l.length
  | [], _, _, _ => Nat.zero_le _
  | e :: t, l, h, k => by
    have h1 := k e List.mem_cons_self
    have ih := Valid.len (l := l.erase e.1) h.tail fun x hx => (List.mem_erase_of_ne (lt_ne ((List.pairwise_cons.mp h.asc).1 x hx)).symm).mpr (k x (List.mem_cons_of_mem _ hx))
    rw [List.length_erase_of_mem h1] at ih
    have h2 := List.length_pos_of_mem h1
    rw [List.length_cons]
    omega
theorem RowIs.len {r es : List Ent} (h : RowIs r es) : r.length ≤ es.length := by
  have := h.v.len (l := es.map (·.1)) fun e he => by
    obtain ⟨x, hx, ex⟩ := h.mem he
    rw [← ex]
    exact List.mem_map_of_mem hx
  rwa [List.length_map] at this
/-- the entries of the keys in turn -/
def mkR (f : Pl → Int) : List Pl → List Ent
  | [] => []
  | k :: r => if f k = 0 then mkR f r else (k, f k) :: mkR f r
theorem mkR_snoc (f : Pl → Int) (k : Pl) : ∀ ks : List Pl, mkR f (ks ++ [k]) = mkR f ks ++ (if f k = 0 then [] else [(k, f k)])
  | [] => by
    show (if f k = 0 then [] else [(k, f k)]) = [] ++ _
    rw [List.nil_append]
  | x :: r => by
    show (if f x = 0 then mkR f (r ++ [k]) else (x, f x) :: mkR f (r ++ [k])) = (if f x = 0 then mkR f r else (x, f x) :: mkR f r) ++ _
    rw [mkR_snoc f k r]
    by_cases h : f x = 0
    · rw [if_pos h, if_pos h]
    · rw [if_neg h, if_neg h]
      rfl
theorem mkR_mem {f : Pl → Int} {e : Ent} : ∀ {ks : List Pl}, e ∈ mkR f ks → e.1 ∈ ks ∧ e.2 = f e.1 ∧ e.2 ≠ 0
  | k :: r, h => by
    have h' : e ∈ (if f k = 0 then mkR f r else (k, f k) :: mkR f r) := h
    by_cases z : f k = 0
    · rw [if_pos z] at h'
      obtain ⟨h1, h2⟩ := mkR_mem h'
      exact ⟨List.mem_cons_of_mem _ h1, h2⟩
    · rw [if_neg z] at h'
      rcases List.mem_cons.mp h' with rfl | h'
      · exact ⟨List.mem_cons_self, rfl, z⟩
      · obtain ⟨h1, h2⟩ := mkR_mem h'
        exact ⟨List.mem_cons_of_mem _ h1, h2⟩
theorem mkR_valid {f : Pl → Int} : ∀ {ks : List Pl}, ks.Pairwise (fun a b => HT.lexLt a b = true) → Valid (mkR f ks)
  | [], _ => ⟨.nil, fun e h => by cases h⟩
  | k :: r, h => by
    obtain ⟨h1, h2⟩ := List.pairwise_cons.mp h
    have ih := mkR_valid (f := f) h2
    show Valid (if f k = 0 then mkR f r else (k, f k) :: mkR f r)
    by_cases z : f k = 0
    · rw [if_pos z]
      exact ih
    · rw [if_neg z]
      refine ⟨List.pairwise_cons.mpr ⟨fun e he => h1 _ (mkR_mem he).1, ih.asc⟩, fun e he => ?_⟩
      rcases List.mem_cons.mp he with rfl | he
      · exact z
      · exact ih.nz e he
theorem mkR_sum {f : Pl → Int} : ∀ {ks : List Pl}, ks.Nodup → ∀ q, numAt (mkR f ks) q = if q ∈ ks then f q else 0
  | [], _, q => rfl
  | k :: r, h, q => by
    obtain ⟨h1, h2⟩ := List.nodup_cons.mp h
    have ih := mkR_sum (f := f) h2 q
    show numAt (if f k = 0 then mkR f r else (k, f k) :: mkR f r) q = _
    have key : numAt (if f k = 0 then mkR f r else (k, f k) :: mkR f r) q = (if k = q then f k else 0) + numAt (mkR f r) q := by
      by_cases z : f k = 0
      · rw [if_pos z, z, ite_self]
        omega
      · rw [if_neg z]
        rfl
    rw [key, ih]
    by_cases e : k = q
    · subst e
      rw [if_pos rfl, if_neg h1, if_pos List.mem_cons_self]
      omega
    · rw [if_neg e]
      by_cases m : q ∈ r
      · rw [if_pos m, if_pos (List.mem_cons_of_mem _ m)]
        omega
      · rw [if_neg m, if_neg]
        · rfl
        · intro hq
          rcases List.mem_cons.mp hq with rfl | hq
          · exact e rfl
          · exact m hq
/-- a dict of sums: its keys are ks, at k it holds f k -/
structure Sums (kvs : List (List Key × V)) (ks : List Pl) (f : Pl → Int) : Prop where
  keys : kvs.map (·.1) = ks.map fun k => k.map Sum.inl
  val : ∀ k : Pl, valV kvs (k.map Sum.inl) = if k ∈ ks then some (V.int (f k)) else none
  out : ∀ k, k ∉ ks → f k = 0
theorem Sums.nil : Sums [] [] (fun _ => 0) := ⟨rfl, fun k => rfl, fun _ _ => rfl⟩
theorem Sums.len {kvs : List (List Key × V)} {ks : List Pl} {f : Pl → Int} (h : Sums kvs ks f) : kvs.length = ks.length := by
  have := congrArg List.length h.keys
  rwa [List.length_map, List.length_map] at this
theorem putK_keys {κ : Type} [DecidableEq κ] {kvs : List (κ × V)} {k : κ} {v : V} (h : (valV kvs k).isSome = true) : (putK kvs k v).map (·.1) = kvs.map (·.1) := by
  unfold putK
  rw [valV_any, if_pos h, List.map_map]
  refine List.map_congr_left fun x _ => ?_
  show (if x.1 = k then (x.1, v) else x).1 = x.1
  by_cases e : x.1 = k
  · rw [if_pos e]
  · rw [if_neg e]
theorem Sums.put {kvs : List (List Key × V)} {ks : List Pl} {f : Pl → Int} (h : Sums kvs ks f) (k : Pl) (n : Int) :
    Sums (putK kvs (k.map Sum.inl) (.int (f k + n))) (if k ∈ ks then ks else ks ++ [k]) (fun q => f q + if k = q then n else 0) := by
  have hv := h.val k
  refine ⟨?_, fun q => ?_, fun q hq => ?_⟩
  · by_cases m : k ∈ ks
    · rw [if_pos m] at hv ⊢
      rw [putK_keys (by rw [hv]; rfl), h.keys]
    · rw [if_neg m] at hv ⊢
      rw [putK_new _ hv, List.map_append, List.map_append, h.keys]
      rfl
  · rw [valV_put, h.val]
    by_cases e : q = k
    · subst e
      rw [if_pos rfl, if_pos rfl, if_pos]
      by_cases m : q ∈ ks
      · rw [if_pos m]
        exact m
      · rw [if_neg m]
        exact List.mem_append_right _ List.mem_cons_self
    · have ne1 : ¬ (q.map (Sum.inl : Int → Key) = k.map Sum.inl) := fun z => e (inl_inj z)
      have ne2 : ¬ (k = q) := fun z => e z.symm
      rw [if_neg ne1, if_neg ne2]
      have mm : (q ∈ if k ∈ ks then ks else ks ++ [k]) ↔ q ∈ ks := by
        by_cases m : k ∈ ks
        · rw [if_pos m]
        · rw [if_neg m, List.mem_append, List.mem_singleton]
          exact ⟨fun z => z.elim id fun z => absurd z e, .inl⟩
      by_cases m : q ∈ ks
      · rw [if_pos m, if_pos (mm.mpr m), Int.add_zero]
      · rw [if_neg m, if_neg (fun z => m (mm.mp z))]
  · have hq2 : q ∉ ks ∧ k ≠ q := by
      by_cases m : k ∈ ks
      · rw [if_pos m] at hq
        exact ⟨hq, fun z => hq (z ▸ m)⟩
      · rw [if_neg m] at hq
        exact ⟨fun z => hq (List.mem_append_left _ z), fun z => hq (List.mem_append_right _ (z ▸ List.mem_cons_self))⟩
    show f q + (if k = q then n else 0) = 0
    rw [if_neg hq2.2, h.out q hq2.1]
    rfl
theorem Sums.next {kvs : List (List Key × V)} {ks : List Pl} {es : List Ent} {i : Nat} {e : Ent} (hi : es[i]? = some e) (h : Sums kvs ks (numAt (es.take i))) :
    Sums (putK kvs (e.1.map Sum.inl) (.int (numAt (es.take i) e.1 + e.2))) (if e.1 ∈ ks then ks else ks ++ [e.1]) (numAt (es.take (i + 1))) := by
  have he : es.take (i + 1) = es.take i ++ [e] := by
    obtain ⟨h1, h2⟩ := List.getElem?_eq_some_iff.mp hi
    rw [List.take_add_one, hi]
    rfl
  have hf : numAt (es.take (i + 1)) = fun q => numAt (es.take i) q + if e.1 = q then e.2 else 0 := by
    funext q
    rw [he, numAt_app]
    show _ + ((if e.1 = q then e.2 else 0) + 0) = _
    omega
  rw [hf]
  exact h.put e.1 e.2
theorem Sums.get {kvs : List (List Key × V)} {ks : List Pl} {f : Pl → Int} (h : Sums kvs ks f) {k : Pl} (m : k ∈ ks) : valV kvs (k.map Sum.inl) = some (.int (f k)) := by
  rw [h.val, if_pos m]
theorem Sums.getD {kvs : List (List Key × V)} {ks : List Pl} {f : Pl → Int} (h : Sums kvs ks f) (k : Pl) : (valV kvs (k.map Sum.inl)).getD (.int 0) = .int (f k) := by
  rw [h.val]
  by_cases m : k ∈ ks
  · rw [if_pos m]
    rfl
  · rw [if_neg m, h.out k m]
    rfl
/-- sorted keys' entries are the row -/
theorem row_sorted {es : List Ent} {ks out : List Pl} (perm : out.Perm ks) (pw : out.Pairwise fun a b => HT.lexLt b a = false) (nod : ks.Nodup) (all : ∀ q, q ∉ ks → numAt es q = 0) : RowIs (mkR (numAt es) out) es := by
  have no : out.Nodup := perm.nodup_iff.mpr nod
  have asc : out.Pairwise fun a b => HT.lexLt a b = true := by
    have both := List.pairwise_and_iff.mpr ⟨pw, no⟩
    refine both.imp fun {a b} h => ?_
    cases z : HT.lexLt a b with
    | true => rfl
    | false => exact absurd (lt_tot z h.1) h.2
  refine ⟨mkR_valid asc, fun q => ?_⟩
  rw [mkR_sum no]
  by_cases m : q ∈ out
  · rw [if_pos m]
  · rw [if_neg m, all q fun z => m (perm.mem_iff.mpr z)]
/-! ### rows in the heap -/
def EntAt (H : Hp) (v : V) (e : Ent) : Prop := ∃ t p, v = .ref t ∧ H t = some (.tup [.ref p, .int e.2]) ∧ H p = some (.tup (e.1.map V.int))
inductive Ents (H : Hp) : List V → List Ent → Prop
  | nil : Ents H [] []
  | cons {v : V} {e : Ent} {vs : List V} {es : List Ent} : EntAt H v e → Ents H vs es → Ents H (v :: vs) (e :: es)
theorem Ents.len {H : Hp} {vs : List V} {es : List Ent} (h : Ents H vs es) : vs.length = es.length := by
  induction h with
  | nil => rfl
  | cons _ _ ih => rw [List.length_cons, List.length_cons, ih]
theorem EntAt.mono {H H' : Hp} {v : V} {e : Ent} (s : ∀ b o, H b = some o → H' b = some o) (h : EntAt H v e) : EntAt H' v e := by
  obtain ⟨t, p, rfl, h1, h2⟩ := h
  exact ⟨t, p, rfl, s _ _ h1, s _ _ h2⟩
theorem Ents.mono {H H' : Hp} {vs : List V} {es : List Ent} (s : ∀ b o, H b = some o → H' b = some o) (h : Ents H vs es) : Ents H' vs es := by
  induction h with
  | nil => exact .nil
  | cons h1 _ ih => exact .cons (h1.mono s) ih
theorem Ents.app {H : Hp} {vs ws : List V} {es fs : List Ent} (h : Ents H vs es) (g : Ents H ws fs) : Ents H (vs ++ ws) (es ++ fs) := by
  induction h with
  | nil => exact g
  | cons h1 _ ih => exact .cons h1 ih
theorem Ents.get {H : Hp} {vs : List V} {es : List Ent} (h : Ents H vs es) : ∀ {i : Nat} {v : V}, vs[i]? = some v → ∃ e, es[i]? = some e ∧ EntAt H v e := by
  induction h with
  | nil => intro i v h; simp at h
  | cons h1 _ ih =>
    intro i v hv
    cases i with
    | zero =>
      cases hv
      exact ⟨_, rfl, h1⟩
    | succ i => exact ih (i := i) hv
theorem Ents.at {H : Hp} {vs : List V} {es : List Ent} (h : Ents H vs es) {i : Nat} (hi : i < es.length) : ∃ v, vs[i]? = some v ∧ EntAt H v es[i] := by
  have h2 : i < vs.length := by rw [h.len]; exact hi
  obtain ⟨e, h3, h4⟩ := h.get (List.getElem?_eq_getElem h2)
  rw [List.getElem?_eq_getElem hi] at h3
  cases h3
  exact ⟨_, List.getElem?_eq_getElem h2, h4⟩
theorem Ents.set {H : Hp} {vs : List V} {es : List Ent} {v : V} {e : Ent} (h : Ents H vs es) (h1 : EntAt H v e) : ∀ i, Ents H (vs.set i v) (es.set i e) := by
  induction h with
  | nil => intro i; exact .nil
  | cons a b ih =>
    intro i
    cases i with
    | zero => exact .cons h1 b
    | succ i => exact .cons a (ih i)
/-- as data -/
def dPl (k : Pl) : PyData := .tuple (k.map .int)
def dEnt (e : Ent) : PyData := .tuple [dPl e.1, .int e.2]
def dRow (es : List Ent) : PyData := .list (es.map dEnt)
theorem dp_ints {K : PySem.W.Frag} {H : Hp} : ∀ k : Pl, DpAll K H (k.map V.int) (k.map PyData.int)
  | [] => .nil
  | n :: r => .cons (.int n) (dp_ints r)
theorem EntAt.dp {K : PySem.W.Frag} {H : Hp} {v : V} {e : Ent} (h : EntAt H v e) : Dp K H v (dEnt e) := by
  obtain ⟨t, p, rfl, h1, h2⟩ := h
  exact .tup (.inl (.inl h1)) (.cons (.tup (.inl (.inl h2)) (dp_ints _)) (.cons (.int _) .nil))
theorem Ents.dpAll {K : PySem.W.Frag} {H : Hp} {vs : List V} {es : List Ent} (h : Ents H vs es) : DpAll K H vs (es.map dEnt) := by
  induction h with
  | nil => exact .nil
  | cons h1 _ ih => exact .cons h1.dp ih
theorem Ents.dp {K : PySem.W.Frag} {H : Hp} {a : Addr} {vs : List V} {es : List Ent} (ha : SqL K H a vs) (h : Ents H vs es) : Dp K H (.ref a) (dRow es) := .lst ha h.dpAll
theorem lay_ints : ∀ k : Pl, PyData.canLayAll0 (k.map PyData.int) = true
  | [] => rfl
  | n :: r => by
    show (PyData.canLay0 (.int n) && PyData.canLayAll0 (r.map PyData.int)) = true
    rw [lay_ints r]
    rfl
theorem lay_row : ∀ es : List Ent, PyData.canLayAll0 (es.map dEnt) = true
  | [] => rfl
  | e :: r => by
    show (PyData.canLay0 (dEnt e) && PyData.canLayAll0 (r.map dEnt)) = true
    rw [lay_row r]
    show ((PyData.canLayAll0 (e.1.map PyData.int) && (PyData.canLay0 (.int e.2) && true)) && true) = true
    rw [lay_ints]
    rfl
end OT

set_option Elab.async false
set_option linter.all false
set_option maxRecDepth 100000
set_option maxHeartbeats 4000000
/-! raise C(), an own class whose __init__ takes no argument but the error itself -/
namespace L2
open PySem PySem.Spec PyProof.Rows PySem.W PySem.Calls PySem.HandSPX
section
variable {X : Cx} {p pos : Pos} {pins : List (Addr × Obj)} {σ : St} {H : Hp} {st : Shared}
/-- the heap with the bare error and its empty arguments behind the old objects -/
def bareHeap (C : Addr) (h : Heap) : Heap := (h.push (kdv_tup [])).push (excO C h.objs.size)
theorem bare_grows {C : Addr} {h : Heap} (b : Addr) (o : Obj) (e : h.get? b = some o) : (bareHeap C h).get? b = some o := Heap.get?_push_of_some _ (Heap.get?_push_of_some _ e)
theorem bare_there {C : Addr} {h : Heap} : (bareHeap C h).get? (h.objs.size + 1) = some (excO C h.objs.size) := by
  show ((h.push (kdv_tup [])).push (excO C h.objs.size)).get? (h.objs.size + 1) = _
  heap_get
theorem bare_inv {C : Addr} (I : Inv X pins σ H st) : H (st.heap.objs.size + 1) = none ∧ Inv X pins σ (upd H (st.heap.objs.size + 1) (exo (st.heap.objs.size + 1) C none)) ⟨bareHeap C st.heap, st.gens, st.drawn, st.toks, st.os⟩ :=
  ⟨I.hok.fresh (Nat.le_succ _), I.laid (t' := st.toks) (a := st.heap.objs.size + 1) (h' := bareHeap C st.heap) (o := exo (st.heap.objs.size + 1) C none) bare_grows (Nat.le_succ _) (exo_ok bare_there)⟩
theorem pmk_oex0 {CX : CXT} {x : Str} {C fI : Addr} {k : Nat} {fd : FuncData} {ps : List Str} {sp : Sp} (T : OexC X.K C) (iC : findIn X.K (.ref C) "__init__" = some (some (.ref fI))) (tI : typeIn X.K (.ref fI) = some (.type "function"))
    (G : FnOk X.prog X.w X.K X.mg X.base CX k fI fd ps sp) (hr : Room (k + 1) X.A) (bi : Binds X.K fd ps []) (no : Passes CX X fun _ _ _ => False) (hg : Gl X x) (hm : X.mg x = some (.ref C)) (nd : (x == ("__debug__" : Str)) = false := by decide) :
    PMk X (.Call (.Name x p) [] [] pos) (tMkO C sp [] tNil) := by
  intro pins σ0 σ H Q I want
  rcases σ0 with ⟨h, gs, dw, ts, os⟩
  obtain ⟨_, _, _, _, bm, _, _, _, _, _, _, _, _, _, _, stands, vb⟩ := T.cls
  obtain ⟨_, ask⟩ := want
  obtain ⟨free, J⟩ := bare_inv (C := C) I
  have promise := ask (h.objs.size + 1) free
  have one : ([Value.ref (h.objs.size + 1)] : List Value).length = ps.length := (G.len _ _ _ _ promise).symm ▸ rfl
  have body := G.run (X.A.under (.builtin "type.__call__" ⟨[.ref C], []⟩)) X.stack _ _ ⟨[.ref (h.objs.size + 1)], []⟩ [.ref (h.objs.size + 1)] _ _ (fun _ _ _ => False) (hr.make C [] []) (J.env0.make C [] []) (bi _ [.ref (h.objs.size + 1)] J.kIn one) (show Vals [V.ref (h.objs.size + 1)] [Value.ref (h.objs.size + 1)] from .cons rfl .nil) promise
  refine wpAny_Call_Name_kw (ld_glob I hg hm (callWith_K0 I.kIn T.kC ?_) nd)
  refine wpAny_call (call_own (rest := []) F.excBase_ValueError (fun Y => refsVE_contains Y bm vb) (I.kIn _ _ stands) (looks_findIn I.kIn iC) (fun me => bind_fn I.kIn me tI) (Nat.zero_le _) (codeAny_mono body ?_))
  rintro (er | fl) s2 end_
  · exact no pins σ _ _ er s2 J end_
  · cases fl with
    | ret u =>
      rcases s2 with ⟨h2, gs2, dw2, ts2, os2⟩
      obtain ⟨_, H2, same, bare, un, ok2, rel, rfl, d, fs, at_a, at_d, new, q⟩ := end_
      exact ⟨rel, mk_end (raises_own T.exC T.tyC) I (Nat.le_succ _) bare_grows un ok2 same bare at_a at_d new q⟩
    | next => cases end_
    | brk => cases end_
    | cont => cases end_
end
end L2

set_option Elab.async false
set_option linter.all false
set_option maxRecDepth 100000
set_option maxHeartbeats 2000000
/-! sums over entries with weights: they depend on the sums at the places alone -/
namespace OT
open PySem PySem.Spec PyProof.Rows L2
def sumW (w : Pl → Int) : List Ent → Int
  | [] => 0
  | e :: r => e.2 * w e.1 + sumW w r
theorem sumW_app (w : Pl → Int) : ∀ a b : List Ent, sumW w (a ++ b) = sumW w a + sumW w b
  | [], b => by show sumW w b = 0 + sumW w b; omega
  | e :: r, b => by
    show e.2 * w e.1 + sumW w (r ++ b) = e.2 * w e.1 + sumW w r + sumW w b
    rw [sumW_app w r b]
    omega
/-- 1 at the place -/
def at1 (q : Pl) : Pl → Int := fun k => if k = q then 1 else 0
theorem numAt_sumW (q : Pl) : ∀ es : List Ent, numAt es q = sumW (at1 q) es
  | [] => rfl
  | e :: r => by
    show (if e.1 = q then e.2 else 0) + numAt r q = e.2 * (if e.1 = q then 1 else 0) + sumW (at1 q) r
    rw [numAt_sumW q r]
    by_cases h : e.1 = q
    · rw [if_pos h, if_pos h, Int.mul_one]
    · rw [if_neg h, if_neg h, Int.mul_zero]
def negs (es : List Ent) : List Ent := es.map fun e => (e.1, -e.2)
theorem numAt_negs (q : Pl) : ∀ es : List Ent, numAt (negs es) q = - numAt es q
  | [] => rfl
  | e :: r => by
    have ih := numAt_negs q r
    show (if e.1 = q then -e.2 else 0) + numAt (negs r) q = -((if e.1 = q then e.2 else 0) + numAt r q)
    rw [ih]
    by_cases h : e.1 = q
    · rw [if_pos h, if_pos h]; omega
    · rw [if_neg h, if_neg h]; omega
theorem sumW_negs (w : Pl → Int) : ∀ es : List Ent, sumW w (negs es) = - sumW w es
  | [] => rfl
  | e :: r => by
    have ih := sumW_negs w r
    show -e.2 * w e.1 + sumW w (negs r) = -(e.2 * w e.1 + sumW w r)
    rw [ih, Int.neg_mul]
    omega
def off (k : Pl) (es : List Ent) : List Ent := es.filter fun e => decide (e.1 ≠ k)
theorem sumW_off (w : Pl → Int) (k : Pl) : ∀ es : List Ent, sumW w es = numAt es k * w k + sumW w (off k es)
  | [] => by show (0 : Int) = 0 * w k + 0; rw [Int.zero_mul]; rfl
  | e :: r => by
    have ih := sumW_off w k r
    show e.2 * w e.1 + sumW w r = ((if e.1 = k then e.2 else 0) + numAt r k) * w k + sumW w (off k (e :: r))
    unfold off at ih ⊢
    rw [List.filter_cons]
    by_cases h : e.1 = k
    · rw [if_pos h, if_neg (by simp [h]), ih, Int.add_mul, h]
      omega
    · rw [if_neg h, if_pos (decide_eq_true h), ih]
      show e.2 * w e.1 + _ = (0 + numAt r k) * w k + (e.2 * w e.1 + _)
      rw [Int.zero_add]
      omega
theorem numAt_off (k q : Pl) (es : List Ent) : numAt (off k es) q = if q = k then 0 else numAt es q := by
  by_cases h : q = k
  · subst h
    rw [if_pos rfl]
    refine numAt_out fun e he => ?_
    exact of_decide_eq_true (List.mem_filter.mp he).2
  · rw [if_neg h]
    have h1 := sumW_off (at1 q) k es
    rw [← numAt_sumW, ← numAt_sumW] at h1
    have : at1 q k = 0 := if_neg fun z => h z.symm
    rw [this, Int.mul_zero] at h1
    omega
theorem off_len {k : Pl} : ∀ {es : List Ent}, (∃ e ∈ es, e.1 = k) → (off k es).length < es.length := by
  intro es ⟨e, he, hk⟩
  unfold off
  refine List.length_filter_lt_length_iff_exists.mpr ⟨e, he, ?_⟩
  simp [hk]
theorem sumW_zero (w : Pl → Int) : ∀ (n : Nat) (es : List Ent), es.length ≤ n → (∀ q, numAt es q = 0) → sumW w es = 0
  | _, [], _, _ => rfl
  | 0, e :: r, h, _ => by simp at h
  | n + 1, e :: r, h, z => by
    rw [sumW_off w e.1, z e.1, Int.zero_mul, Int.zero_add]
    refine sumW_zero w n _ ?_ fun q => ?_
    · have := off_len (k := e.1) (es := e :: r) ⟨e, List.mem_cons_self, rfl⟩
      omega
    · rw [numAt_off]
      by_cases hq : q = e.1
      · rw [if_pos hq]
      · rw [if_neg hq]
        exact z q
/-- the key: sums with weights depend on the sums at the places alone -/
theorem sumW_eq (w : Pl → Int) {a b : List Ent} (h : ∀ q, numAt a q = numAt b q) : sumW w a = sumW w b := by
  have z := sumW_zero w _ (a ++ negs b) (Nat.le_refl _) fun q => by
    rw [numAt_app, numAt_negs, h q]
    omega
  rw [sumW_app, sumW_negs] at z
  omega
theorem RowIs.sum {r es : List Ent} (h : RowIs r es) (w : Pl → Int) : sumW w r = sumW w es := sumW_eq w h.s
/-- places moved by a function -/
def mapF (f : Pl → Pl) (es : List Ent) : List Ent := es.map fun e => (f e.1, e.2)
theorem sumW_mapF (w : Pl → Int) (f : Pl → Pl) : ∀ es : List Ent, sumW w (mapF f es) = sumW (fun k => w (f k)) es
  | [] => rfl
  | e :: r => by
    have ih := sumW_mapF w f r
    show e.2 * w (f e.1) + sumW w (mapF f r) = e.2 * w (f e.1) + sumW (fun k => w (f k)) r
    rw [ih]
theorem sumW_congr {w v : Pl → Int} : ∀ {es : List Ent}, (∀ e ∈ es, w e.1 = v e.1) → sumW w es = sumW v es
  | [], _ => rfl
  | e :: r, h => by
    show e.2 * w e.1 + sumW w r = e.2 * v e.1 + sumW v r
    rw [h e List.mem_cons_self, sumW_congr fun x hx => h x (List.mem_cons_of_mem _ hx)]
theorem numAt_mapF_eq (f : Pl → Pl) {a b : List Ent} (h : ∀ q, numAt a q = numAt b q) (q : Pl) : numAt (mapF f a) q = numAt (mapF f b) q := by
  rw [numAt_sumW, numAt_sumW, sumW_mapF, sumW_mapF]
  exact sumW_eq _ h
/-- the row of what is moved from a row -/
theorem RowIs.mapped {r es g : List Ent} {f : Pl → Pl} (h : RowIs r es) (hg : RowIs g (mapF f r)) : RowIs g (mapF f es) := ⟨hg.v, fun q => (hg.s q).trans (numAt_mapF_eq f h.s q)⟩
theorem RowIs.congr {r a b : List Ent} (h : RowIs r a) (e : ∀ q, numAt a q = numAt b q) : RowIs r b := ⟨h.v, fun q => (h.s q).trans (e q)⟩
theorem RowIs.app {r s a b c : List Ent} (h : RowIs r a) (k : RowIs s b) (g : RowIs c (r ++ s)) : RowIs c (a ++ b) := ⟨g.v, fun q => by
  rw [g.s, numAt_app, numAt_app, h.s, k.s]⟩
/-- products by pairs, with any sum of places -/
def prodL (op : Pl → Pl → Pl) (es fs : List Ent) : List Ent := es.flatMap fun e => fs.map fun g => (op e.1 g.1, e.2 * g.2)
theorem sumW_row (w : Pl → Int) (op : Pl → Pl → Pl) (e : Ent) : ∀ fs : List Ent, sumW w (fs.map fun g => (op e.1 g.1, e.2 * g.2)) = e.2 * sumW (fun l => w (op e.1 l)) fs
  | [] => by show (0 : Int) = e.2 * 0; rw [Int.mul_zero]
  | g :: r => by
    have ih := sumW_row w op e r
    show e.2 * g.2 * w (op e.1 g.1) + sumW w (r.map _) = e.2 * (g.2 * w (op e.1 g.1) + sumW _ r)
    rw [ih, Int.mul_add, Int.mul_assoc]
theorem sumW_prodL (w : Pl → Int) (op : Pl → Pl → Pl) : ∀ es fs : List Ent, sumW w (prodL op es fs) = sumW (fun k => sumW (fun l => w (op k l)) fs) es
  | [], fs => rfl
  | e :: r, fs => by
    have ih := sumW_prodL w op r fs
    show sumW w ((fs.map fun g => (op e.1 g.1, e.2 * g.2)) ++ prodL op r fs) = e.2 * sumW (fun l => w (op e.1 l)) fs + _
    rw [sumW_app, sumW_row, ih]
theorem numAt_prodL_eq (op : Pl → Pl → Pl) {a b c d : List Ent} (h : ∀ q, numAt a q = numAt b q) (k : ∀ q, numAt c q = numAt d q) (q : Pl) : numAt (prodL op a c) q = numAt (prodL op b d) q := by
  rw [numAt_sumW, numAt_sumW, sumW_prodL, sumW_prodL, sumW_eq _ h]
  refine sumW_congr fun e _ => sumW_eq _ k
end OT

set_option Elab.async false
set_option linter.all false
set_option maxRecDepth 100000
set_option maxHeartbeats 2000000
/-! data in the heap: kept where the heap grows; what is shaped -/
namespace OT
open PySem PySem.Spec PyProof.Rows L2
theorem same_tD {K : PySem.W.Frag} {H H' : Hp} {a : Addr} {xs : List V} (e : Same H H') (h : SqT K H a xs) : SqT K H' a xs := by
  rcases h with (h | ⟨o, h⟩) | h
  · exact .inl (.inl (e _ _ h))
  · exact .inl (.inr ⟨o, e _ _ h⟩)
  · exact .inr h
mutual
theorem Dp.mono {K : PySem.W.Frag} {H H' : Hp} (s : Same H H') : ∀ {v : V} {d : PyData}, Dp K H v d → Dp K H' v d
  | _, _, .non => .non
  | _, _, .bl b => .bl b
  | _, _, .int i => .int i
  | _, _, .str x => .str x
  | _, _, .lst h1 h2 => .lst (s.seq h1) (DpAll.mono s h2)
  | _, _, .tup h1 h2 => .tup (same_tD s h1) (DpAll.mono s h2)
theorem DpAll.mono {K : PySem.W.Frag} {H H' : Hp} (s : Same H H') : ∀ {vs : List V} {ds : List PyData}, DpAll K H vs ds → DpAll K H' vs ds
  | _, _, .nil => .nil
  | _, _, .cons h1 h2 => .cons (Dp.mono s h1) (DpAll.mono s h2)
end
theorem DpAll.len {K : PySem.W.Frag} {H : Hp} {vs : List V} {ds : List PyData} (h : DpAll K H vs ds) : vs.length = ds.length := by
  induction vs generalizing ds with
  | nil =>
    cases h
    rfl
  | cons v r ih =>
    cases h with
    | cons _ h2 => rw [List.length_cons, List.length_cons, ih h2]
theorem DpAll.snoc {K : PySem.W.Frag} {H : Hp} {v : V} {d : PyData} : ∀ {vs : List V} {ds : List PyData}, DpAll K H vs ds → Dp K H v d → DpAll K H (vs ++ [v]) (ds ++ [d])
  | [], _, h, k => by
    cases h
    exact .cons k .nil
  | _ :: r, _, h, k => by
    cases h with
    | cons h1 h2 => exact .cons h1 (DpAll.snoc h2 k)
/-- data that is shaped, of a depth -/
structure DOk (n : Nat) (d : PyData) : Prop where
  lay : d.canLay0 = true
  dep : d.depth ≤ n
theorem DOk.le {n m : Nat} {d : PyData} (h : DOk n d) (k : n ≤ m) : DOk m d := ⟨h.lay, Nat.le_trans h.dep k⟩
theorem layAll {ds : List PyData} {n : Nat} : (∀ d ∈ ds, DOk n d) → PyData.canLayAll0 ds = true ∧ PyData.depthAll ds ≤ n := by
  induction ds with
  | nil =>
    intro _
    exact ⟨by simp only [PyData.canLayAll0], by simp only [PyData.depthAll]; omega⟩
  | cons d r ih =>
    intro h
    obtain ⟨h1, h2⟩ := ih fun x hx => h x (List.mem_cons_of_mem _ hx)
    have hd := h d List.mem_cons_self
    refine ⟨?_, ?_⟩
    · simp only [PyData.canLayAll0, hd.lay, h1, Bool.and_self]
    · have := hd.dep
      simp only [PyData.depthAll]
      omega
theorem DOk.list {n : Nat} {ds : List PyData} (h : ∀ d ∈ ds, DOk n d) : DOk (n + 1) (.list ds) := by
  obtain ⟨h1, h2⟩ := layAll h
  exact ⟨h1, by simp only [PyData.depth]; omega⟩
theorem DOk.tuple {n : Nat} {ds : List PyData} (h : ∀ d ∈ ds, DOk n d) : DOk (n + 1) (.tuple ds) := by
  obtain ⟨h1, h2⟩ := layAll h
  exact ⟨h1, by simp only [PyData.depth]; omega⟩
theorem DOk.int (i : Int) : DOk 1 (.int i) := ⟨rfl, by simp only [PyData.depth]; omega⟩
theorem DOk.shaped {n : Nat} {d : PyData} (h : DOk n d) (hn : n ≤ 64) : SeqAt.shaped d = true := by
  unfold SeqAt.shaped
  rw [h.lay, Bool.true_and]
  exact decide_eq_true (Nat.le_trans h.dep hn)
theorem eqvD {d : PyData} (h : SeqAt.shaped d = true) : PyData.eqv d d = true := SeqAt.eqv_refl _ (SeqAt.canLay_of_shaped h)
theorem DOk.pl (k : Pl) : DOk 2 (.tuple (k.map PyData.int)) := DOk.tuple fun d hd => by
  obtain ⟨x, _, rfl⟩ := List.mem_map.mp hd
  exact DOk.int x
theorem DOk.ent (e : Ent) : DOk 3 (dEnt e) := DOk.tuple (n := 2) fun d hd => by
  rcases List.mem_cons.mp hd with rfl | hd
  · exact DOk.pl e.1
  · rcases List.mem_cons.mp hd with rfl | hd
    · exact (DOk.int _).le (by decide)
    · cases hd
theorem DOk.row (es : List Ent) : DOk 4 (dRow es) := DOk.list fun d hd => by
  obtain ⟨x, _, rfl⟩ := List.mem_map.mp hd
  exact DOk.ent x
/-- places as data -/
def dMat (M : List Pl) : PyData := .list (M.map fun l => .tuple (l.map PyData.int))
theorem DOk.mat (M : List Pl) : DOk 3 (dMat M) := DOk.list fun d hd => by
  obtain ⟨x, _, rfl⟩ := List.mem_map.mp hd
  exact DOk.pl x
theorem DOk.ints (ns : List Int) : DOk 2 (.list (ns.map PyData.int)) := DOk.list fun d hd => by
  obtain ⟨x, _, rfl⟩ := List.mem_map.mp hd
  exact DOk.int x
end OT

set_option Elab.async false
set_option linter.all false
set_option maxRecDepth 100000
set_option maxHeartbeats 2000000
namespace OT
open PySem PySem.Spec PyProof.Rows L2
def topS (i : Nat) : Stmt := PySem.Challenge.pw_owntables_k16_whole_maps.main.body.getD i (.Pass ⟨0, 0, 0, 0⟩)
abbrev s_TableError___init__ : Stmt := inClass (topS 1) 0
theorem sc_TableError___init__ : FnScope ["self"] ["self"] (C8.fnScope s_TableError___init__) := C8.fnScope_by (by decide +kernel)
abbrev s_IndexedError___init__ : Stmt := inClass (topS 2) 0
theorem sc_IndexedError___init__ : FnScope ["self", "index"] ["self", "index"] (C8.fnScope s_IndexedError___init__) := C8.fnScope_by (by decide +kernel)
abbrev s_OneDirectionOnly___init__ : Stmt := inClass (topS 4) 0
theorem sc_OneDirectionOnly___init__ : FnScope ["self", "dimension"] ["self", "dimension"] (C8.fnScope s_OneDirectionOnly___init__) := C8.fnScope_by (by decide +kernel)
abbrev s_places_length : Stmt := topS 8
theorem sc_places_length : FnScope ["row"] ["row"] (C8.fnScope s_places_length) := C8.fnScope_by (by decide +kernel)
abbrev s_same_lengths : Stmt := topS 9
theorem sc_same_lengths : FnScope ["lengths", "known", "length"] ["lengths"] (C8.fnScope s_same_lengths) := C8.fnScope_by (by decide +kernel)
abbrev s_same_dimension : Stmt := topS 10
theorem sc_same_dimension : FnScope ["rows", "places", "row", "place"] ["rows", "places"] (C8.fnScope s_same_dimension) := C8.fnScope_by (by decide +kernel)
abbrev s_one_direction : Stmt := topS 11
theorem sc_one_direction : FnScope ["rows", "row"] ["rows"] (C8.fnScope s_one_direction) := C8.fnScope_by (by decide +kernel)
abbrev s_row_of : Stmt := topS 13
theorem sc_row_of : FnScope ["numbers", "place"] ["numbers"] (C8.fnScope s_row_of) := C8.fnScope_by (by decide +kernel)
abbrev s_gather : Stmt := topS 14
theorem sc_gather : FnScope ["entries", "numbers", "place", "number"] ["entries"] (C8.fnScope s_gather) := C8.fnScope_by (by decide +kernel)
abbrev s_image : Stmt := topS 16
theorem sc_image : FnScope ["place", "matrix", "line", "times", "x"] ["place", "matrix"] (C8.fnScope s_image) := C8.fnScope_by (by decide +kernel)
abbrev s_map_places : Stmt := topS 17
theorem sc_map_places : FnScope ["row", "matrix", "place", "number"] ["row", "matrix"] (C8.fnScope s_map_places) := C8.fnScope_by (by decide +kernel)
abbrev s_pack : Stmt := topS 18
theorem sc_pack : FnScope ["row", "step", "weights"] ["row", "step"] (C8.fnScope s_pack) := C8.fnScope_by (by decide +kernel)
abbrev s_split_digit : Stmt := topS 19
theorem sc_split_digit : FnScope ["value", "step", "half", "digit"] ["value", "step"] (C8.fnScope s_split_digit) := C8.fnScope_by (by decide +kernel)
abbrev s_unpacked_place : Stmt := topS 20
theorem sc_unpacked_place : FnScope ["value", "step", "dimension", "coordinates", "count", "digit"] ["value", "step", "dimension"] (C8.fnScope s_unpacked_place) := C8.fnScope_by (by decide +kernel)
abbrev s_unpack : Stmt := topS 21
theorem sc_unpack : FnScope ["row", "step", "dimension", "place", "number"] ["row", "step", "dimension"] (C8.fnScope s_unpack) := C8.fnScope_by (by decide +kernel)
abbrev s__law_cell : Stmt := topS 23
theorem sc__law_cell : FnScope ["_law_script", "_law_k"] ["_law_script", "_law_k"] (C8.fnScope s__law_cell) := C8.fnScope_by (by decide +kernel)
abbrev s__law_draws : Stmt := topS 24
theorem sc__law_draws : FnScope ["_law_cell_here", "_law_sizes", "_law_draws_here", "_law_rest", "_law_k", "_law_mixed_here"] ["_law_cell_here", "_law_sizes"] (C8.fnScope s__law_draws) := C8.fnScope_by (by decide +kernel)
abbrev s__law_is_integer : Stmt := topS 25
theorem sc__law_is_integer : FnScope ["_law_actual"] ["_law_actual"] (C8.fnScope s__law_is_integer) := C8.fnScope_by (by decide +kernel)
abbrev s__law_is_place : Stmt := topS 26
theorem sc__law_is_place : FnScope ["_law_actual", "_law_x"] ["_law_actual"] (C8.fnScope s__law_is_place) := C8.fnScope_by (by decide +kernel)
abbrev s__law_is_row : Stmt := topS 27
theorem sc__law_is_row : FnScope ["_law_actual", "_law_k", "_law_entry"] ["_law_actual"] (C8.fnScope s__law_is_row) := C8.fnScope_by (by decide +kernel)
abbrev s__law_same : Stmt := topS 28
theorem sc__law_same : FnScope ["_law_actual", "_law_expected"] ["_law_actual", "_law_expected"] (C8.fnScope s__law_same) := C8.fnScope_by (by decide +kernel)
abbrev s__law_plus : Stmt := topS 29
theorem sc__law_plus : FnScope ["_law_place", "_law_other", "_law_k"] ["_law_place", "_law_other"] (C8.fnScope s__law_plus) := C8.fnScope_by (by decide +kernel)
abbrev s__law_back : Stmt := topS 30
theorem sc__law_back : FnScope ["_law_place", "_law_x"] ["_law_place"] (C8.fnScope s__law_back) := C8.fnScope_by (by decide +kernel)
abbrev s__law_row : Stmt := topS 31
theorem sc__law_row : FnScope ["_law_pairs", "_law_sums", "_law_place", "_law_number"] ["_law_pairs"] (C8.fnScope s__law_row) := C8.fnScope_by (by decide +kernel)
abbrev s__law_add : Stmt := topS 32
theorem sc__law_add : FnScope ["_law_first", "_law_second"] ["_law_first", "_law_second"] (C8.fnScope s__law_add) := C8.fnScope_by (by decide +kernel)
abbrev s__law_times : Stmt := topS 33
theorem sc__law_times : FnScope ["_law_first", "_law_second", "_law_pairs", "_law_place", "_law_number", "_law_other", "_law_factor"] ["_law_first", "_law_second"] (C8.fnScope s__law_times) := C8.fnScope_by (by decide +kernel)
abbrev s__law_mirror : Stmt := topS 34
theorem sc__law_mirror : FnScope ["_law_row_here", "_law_entry"] ["_law_row_here"] (C8.fnScope s__law_mirror) := C8.fnScope_by (by decide +kernel)
abbrev s__law_moved : Stmt := topS 35
theorem sc__law_moved : FnScope ["_law_row_here", "_law_by", "_law_entry"] ["_law_row_here", "_law_by"] (C8.fnScope s__law_moved) := C8.fnScope_by (by decide +kernel)
abbrev s__law_cross : Stmt := topS 36
theorem sc__law_cross : FnScope ["_law_first", "_law_second"] ["_law_first", "_law_second"] (C8.fnScope s__law_cross) := C8.fnScope_by (by decide +kernel)
abbrev s__law_own : Stmt := topS 37
theorem sc__law_own : FnScope ["_law_row_here"] ["_law_row_here"] (C8.fnScope s__law_own) := C8.fnScope_by (by decide +kernel)
abbrev s__law_places : Stmt := topS 38
theorem sc__law_places : FnScope ["_law_box_here", "_law_places_here", "_law_width", "_law_longer", "_law_place", "_law_k"] ["_law_box_here"] (C8.fnScope s__law_places) := C8.fnScope_by (by decide +kernel)
abbrev s__law_drawn : Stmt := topS 39
theorem sc__law_drawn : FnScope ["_law_cell_here", "_law_box_here", "_law_reach", "_law_moves", "_law_places_here", "_law_draws_here", "_law_by", "_law_k"] ["_law_cell_here", "_law_box_here", "_law_reach", "_law_moves"] (C8.fnScope s__law_drawn) := C8.fnScope_by (by decide +kernel)
abbrev s__law_box : Stmt := topS 40
theorem sc__law_box : FnScope ["_law_kind", "_law_wide"] ["_law_kind", "_law_wide"] (C8.fnScope s__law_box) := C8.fnScope_by (by decide +kernel)
abbrev s__law_is_error : Stmt := topS 41
theorem sc__law_is_error : FnScope ["_law_e", "_law_word"] ["_law_e", "_law_word"] (C8.fnScope s__law_is_error) := C8.fnScope_by (by decide +kernel)
abbrev s__law_matrix : Stmt := topS 42
theorem sc__law_matrix : FnScope ["_law_cell_here", "_law_lines", "_law_size", "_law_draws_here", "_law_numbers", "_law_k"] ["_law_cell_here", "_law_lines", "_law_size"] (C8.fnScope s__law_matrix) := C8.fnScope_by (by decide +kernel)
abbrev s__law_mapped : Stmt := topS 43
theorem sc__law_mapped : FnScope ["_law_row_here", "_law_matrix_here", "_law_pairs", "_law_place", "_law_number", "_law_moved_here", "_law_line", "_law_k"] ["_law_row_here", "_law_matrix_here"] (C8.fnScope s__law_mapped) := C8.fnScope_by (by decide +kernel)
abbrev s__law_mixed : Stmt := topS 44
theorem sc__law_mixed : FnScope ["_law_row_here", "_law_matrix_here", "_law_size", "_law_line"] ["_law_row_here", "_law_matrix_here"] (C8.fnScope s__law_mixed) := C8.fnScope_by (by decide +kernel)
abbrev s__law_is_mixed : Stmt := topS 45
theorem sc__law_is_mixed : FnScope ["_law_e"] ["_law_e"] (C8.fnScope s__law_is_mixed) := C8.fnScope_by (by decide +kernel)
abbrev s__law_is_wide : Stmt := topS 46
theorem sc__law_is_wide : FnScope ["_law_e", "_law_size"] ["_law_e", "_law_size"] (C8.fnScope s__law_is_wide) := C8.fnScope_by (by decide +kernel)
abbrev s__law_kept : Stmt := topS 47
theorem sc__law_kept : FnScope ["_law_actual", "_law_expected", "_law_handed", "_law_rows"] ["_law_actual", "_law_expected", "_law_handed", "_law_rows"] (C8.fnScope s__law_kept) := C8.fnScope_by (by decide +kernel)
abbrev s__law_map_asked : Stmt := topS 48
theorem sc__law_map_asked : FnScope ["_law_row_here", "_law_matrix_here", "_law_handed", "_law_mixed_here", "_law_e", "_law_actual"] ["_law_row_here", "_law_matrix_here"] (C8.fnScope s__law_map_asked) := C8.fnScope_by (by decide +kernel)
abbrev s__law_facts_asked : Stmt := topS 49
theorem sc__law_facts_asked : FnScope ["_law_first", "_law_second", "_law_matrix_here", "_law_one", "_law_two"] ["_law_first", "_law_second", "_law_matrix_here"] (C8.fnScope s__law_facts_asked) := C8.fnScope_by (by decide +kernel)
abbrev s__law_low : Stmt := topS 50
theorem sc__law_low : FnScope ["_law_at", "_law_step", "_law_half", "_law_low_here"] ["_law_at", "_law_step"] (C8.fnScope s__law_low) := C8.fnScope_by (by decide +kernel)
abbrev s__law_unpacked : Stmt := topS 51
theorem sc__law_unpacked : FnScope ["_law_row_here", "_law_step", "_law_count", "_law_pairs", "_law_place", "_law_number", "_law_rest", "_law_coordinates", "_law_k", "_law_low_here"] ["_law_row_here", "_law_step", "_law_count"] (C8.fnScope s__law_unpacked) := C8.fnScope_by (by decide +kernel)
abbrev s__law_fits : Stmt := topS 52
theorem sc__law_fits : FnScope ["_law_row_here", "_law_step", "_law_half", "_law_place", "_law_number", "_law_x"] ["_law_row_here", "_law_step"] (C8.fnScope s__law_fits) := C8.fnScope_by (by decide +kernel)
abbrev s__law_unpack_asked : Stmt := topS 53
theorem sc__law_unpack_asked : FnScope ["_law_row_here", "_law_step", "_law_count", "_law_handed", "_law_size", "_law_e", "_law_actual"] ["_law_row_here", "_law_step", "_law_count"] (C8.fnScope s__law_unpack_asked) := C8.fnScope_by (by decide +kernel)
abbrev s__law_pack_asked : Stmt := topS 54
theorem sc__law_pack_asked : FnScope ["_law_row_here", "_law_step", "_law_size", "_law_handed", "_law_packed"] ["_law_row_here", "_law_step"] (C8.fnScope s__law_pack_asked) := C8.fnScope_by (by decide +kernel)
abbrev s_law : Stmt := topS 55
theorem sc_law : FnScope ["_law_script", "_law_draws_here", "_law_size", "_law_step", "_law_first", "_law_second", "_law_line", "_law_matrix_here", "_law_other", "_law_turn", "_law_expected", "_law_row_here", "_law_k"] ["_law_script"] (C8.fnScope s_law) := C8.fnScope_by (by decide +kernel)
theorem iteD {c A B : Prop} [Decidable c] (h1 : c → A) (h2 : ¬ c → B) : if decide c = true then A else B := by
  by_cases h : c
  · rw [decide_eq_true h]
    exact iteT (h1 h)
  · rw [decide_eq_false h]
    exact iteF (h2 h)
theorem iteND {c A B : Prop} [Decidable c] (h1 : ¬ c → A) (h2 : c → B) : if (!decide c) = true then A else B := by
  by_cases h : c
  · rw [decide_eq_true h]
    exact iteF (h2 h)
  · rw [decide_eq_false h]
    exact iteT (h1 h)
theorem iteB {c : Bool} {A B : Prop} (h1 : c = true → A) (h2 : c = false → B) : if c = true then A else B := by
  cases c with
  | true => exact iteT (h1 rfl)
  | false => exact iteF (h2 rfl)
theorem atI_int {ns : List Int} {k : Int} (h0 : 0 ≤ k) (h1 : k < (ns.length : Int)) : ∃ c, atI (ns.map V.int) k = some (.int c) ∧ ns[k.toNat]? = some c := by
  obtain ⟨j, rfl⟩ := Int.eq_ofNat_of_zero_le h0
  have hj : j < ns.length := by omega
  refine ⟨ns[j], atI_nat ?_, ?_⟩
  · rw [List.getElem?_map, List.getElem?_eq_getElem hj]
    rfl
  · rw [Int.toNat_natCast, List.getElem?_eq_getElem hj]
theorem same_upd {H : Hp} {p : Addr} {o : HO} (h : H p = none) : Same H (upd H p o) := fun b x e => by
  rw [upd_ne (ne_of_none e h)]
  exact e
theorem same_mut {H H' : Hp} {p : Addr} {o : HO} (e : Same H H') (h : H p = none) : Same H (upd H' p o) := fun b x z => by
  rw [upd_ne (ne_of_none z h)]
  exact e b x z
theorem same_t {K : PySem.W.Frag} {H H' : Hp} {a : Addr} {xs : List V} (e : Same H H') (h : SqT K H a xs) : SqT K H' a xs := by
  rcases h with (h | ⟨o, h⟩) | h
  · exact .inl (.inl (e _ _ h))
  · exact .inl (.inr ⟨o, e _ _ h⟩)
  · exact .inr h
/-- the module's names that stay the built-in ones -/
structure Bi (mg : Str → Option Value) : Prop where
  n_len : mg "len" = none
  n_int : mg "int" = none
  n_str : mg "str" = none
  n_bool : mg "bool" = none
  n_list : mg "list" = none
  n_tuple : mg "tuple" = none
  n_range : mg "range" = none
  n_isinstance : mg "isinstance" = none
  n_sorted : mg "sorted" = none
  n_any : mg "any" = none
  n_sum : mg "sum" = none
  n_zip : mg "zip" = none
section
variable {P : Program} {w : World} {K : PySem.W.Frag} {mg : Str → Option Value} {base : Heap}
/-! ### a cell of the script -/
def spCell (K : PySem.W.Frag) : Sp := fun vs H Q _ => ∃ (a : Addr) (ns : List Int) (k : Int), vs = [.ref a, .int k] ∧ SqL K H a (ns.map V.int) ∧ 0 ≤ k ∧ ∀ c : Int, Q (.int c) H
theorem c__law_cell {f : Addr} {fd : FuncData} (D : C8.Def K mg "_law_cell" s__law_cell f fd) (b : Binds K fd ["_law_script", "_law_k"] []) (T : Bi mg) : C8.Cal P w K mg base 1 "_law_cell" (spCell K) [] := by
  refine C8.cal0 D b .nil sc__law_cell (fun vs H Q E h => ?_) (fun cdv A outer s H vs Q E hr h => ?_)
  · obtain ⟨a, ns, k, rfl, _⟩ := h
    rfl
  · obtain ⟨a, ns, k, rfl, hS, hk, q⟩ := h
    refine ⟨_, (pss_cons (ps_if (pt_cmpR op_lt (pv 1) (pe_callB call_len_seq (by rfl) T.n_len OT.b_len (pa_cons (pv 0) pa_nil)) (nomark _)) (pss_one (ps_ret (pe_ix ix_list (pv 0) (pv 1) (fun _ _ => rfl)))) pss_nil)
  (pss_cons (ps_if (pt_cmpR op_eq (pe_callB call_len_seq (by rfl) T.n_len OT.b_len (pa_cons (pv 0) pa_nil)) pe_int (nomark _)) (pss_one (ps_ret (pe_op op_add (pe_op op_mul pe_int (pv 1)) pe_int))) pss_nil)
  (pss_one (ps_ret (pe_op op_mod (pe_callTy call_int1 (by rfl) T.n_int OT.b_int (pa_cons (pe_op op_add (pe_op op_add (pe_op op_mul (pe_ix ix_list (pv 0) (pe_op op_mod (pe_callTy call_int1 (by rfl) T.n_int OT.b_int (pa_cons (pv 1) pa_nil)) (pe_callB call_len_seq (by rfl) T.n_len OT.b_len (pa_cons (pv 0) pa_nil))) (fun _ _ => rfl)) pe_int) (pe_op op_mul pe_int (pv 1))) pe_int) pa_nil)) pe_int))))), ?_⟩
    refine ⟨_, rfl, _, rfl, a, _, rfl, .inl hS, _, _, rfl, rfl, _, rfl, ?_⟩
    refine iteD (fun h1 => ?_) (fun h1 => ?_)
    · rw [List.length_map] at h1
      obtain ⟨c, hc, _⟩ := atI_int hk h1
      exact ⟨_, rfl, _, rfl, a, _, _, _, rfl, rfl, hS, hc, q c⟩
    · refine ⟨_, rfl, a, _, rfl, .inl hS, rfl, _, rfl, ?_⟩
      refine iteD (fun h2 => ?_) (fun h2 => ?_)
      · exact ⟨_, rfl, _, _, rfl, rfl, .inl ⟨by decide, by decide⟩, _, _, rfl, rfl, q _⟩
      · have hp : 0 < ns.length := by
          have h3 : ¬ (V.int ((ns.map V.int).length : Int) = V.int 0) := h2
          rw [List.length_map] at h3
          cases ns with
          | nil => exact absurd rfl h3
          | cons x r => exact Nat.succ_pos _
        have hm : 0 ≤ k % (ns.length : Int) := Int.emod_nonneg _ (by omega)
        have hm2 : k % (ns.length : Int) < ns.length := Int.emod_lt_of_pos _ (by omega)
        obtain ⟨c, hc, _⟩ := atI_int hm hm2
        refine ⟨_, rfl, _, rfl, .inl ⟨k, rfl, _, rfl, a, _, rfl, .inl hS, k, _, rfl, rfl, ?_, a, _, _, _, rfl, rfl, hS, ?_, c, _, rfl, rfl, .inr ⟨by decide, by decide⟩, _, rfl, _, _, rfl, rfl, .inl ⟨by decide, by decide⟩, _, _, rfl, rfl, _, _, rfl, rfl, .inl ⟨_, rfl, _, _, rfl, rfl, by show (0 : Int) < 2147483647; decide, q _⟩⟩⟩
        · rw [List.length_map]
          show (0 : Int) < (ns.length : Int)
          omega
        · rw [List.length_map]
          exact hc
/-! ### draws -/
theorem cmul_m1 (x y : Int) : CMul (x % 2147483647) y := by
  refine .inl ?_
  have h1 := Int.emod_nonneg x (show (2147483647 : Int) ≠ 0 by decide)
  have h2 := Int.emod_lt_of_pos x (show (0 : Int) < 2147483647 by decide)
  have h3 : (2 : Int) ^ 64 = 18446744073709551616 := by decide
  omega
theorem cmul_m2 (x y : Int) : CMul (x % 2147483629) y := by
  refine .inl ?_
  have h1 := Int.emod_nonneg x (show (2147483629 : Int) ≠ 0 by decide)
  have h2 := Int.emod_lt_of_pos x (show (0 : Int) < 2147483629 by decide)
  have h3 : (2 : Int) ^ 64 = 18446744073709551616 := by decide
  omega

theorem small64 {z : Int} (h1 : 0 < z) (h2 : z < 1000000000000000) : z.natAbs < 2 ^ 64 := by
  have : (2 : Nat) ^ 64 = 18446744073709551616 := by decide
  omega
def InR (ds zs : List Int) : Prop := ds.length = zs.length ∧ ∀ (i : Nat) (d z : Int), ds[i]? = some d → zs[i]? = some z → 0 ≤ d ∧ d < z
def spDraws (K : PySem.W.Frag) : Sp := fun vs H Q _ => ∃ (a : Addr) (zs : List Int) (c : Int), vs = [.int c, .ref a] ∧ SqL K H a (zs.map V.int) ∧ zs.length ≤ 1000 ∧ (∀ z ∈ zs, 0 < z ∧ z < 1000000000000000) ∧
  ∀ (ds : List Int) H' p, InR ds zs → Same H H' → H p = none → H' p = some (.lst (ds.map V.int)) → Q (.ref p) H'
theorem c__law_draws {f : Addr} {fd : FuncData} (D : C8.Def K mg "_law_draws" s__law_draws f fd) (b : Binds K fd ["_law_cell_here", "_law_sizes"] []) (T : Bi mg) : C8.Cal P w K mg base 1 "_law_draws" (spDraws K) [] := by
  refine C8.cal0 D b .nil sc__law_draws (fun vs H Q E h => ?_) (fun cdv A outer s H vs Q E hr h => ?_)
  · obtain ⟨a, zs, c, rfl, _⟩ := h
    rfl
  · obtain ⟨a, zs, c, rfl, hS, hl, hz, q⟩ := h
    refine ⟨_, (pss_cons (ps_set (i := 2) sc__law_draws.nd rfl (Or.inl rfl) (pe_lst pa_nil))
  (pss_cons (ps_set (i := 3) sc__law_draws.nd rfl (Or.inl rfl) (pe_op op_sub (pv 0) (pe_op op_pow pe_int pe_int)))
  (pss_cons (ps_for PassesOwn.never rfl (pi_range1 rfl T.n_range (pa_cons (pe_callB call_len_seq (by rfl) T.n_len OT.b_len (pa_cons (pv 1) pa_nil)) pa_nil)) (pg_name (i := 4) sc__law_draws.nd rfl (Or.inl rfl)) (pss_one (ps_if (pt_cmpR op_ge (pv 0) (pe_op op_pow pe_int pe_int) (nomark _)) (pss_cons (ps_expr (pe_bm PySem.F.plainAttrs_list PySem.F.slot_list_append PySem.F.type_list_append mt_append (pv 2) (pa_cons (pe_op op_mod (pe_callTy call_int1 (by rfl) T.n_int OT.b_int (pa_cons (pv 3) pa_nil)) (pe_ix ix_list (pv 1) (pv 4) (fun _ _ => rfl))) pa_nil)))
  (pss_one (ps_set (i := 3) sc__law_draws.nd rfl (Or.inl rfl) (pe_op op_fdivW (pv 3) (pe_ix ix_list (pv 1) (pv 4) (fun _ _ => rfl)))))) (pss_cons (ps_set (i := 5) sc__law_draws.nd rfl (Or.inl rfl) (pe_op op_mod (pe_callTy call_int1 (by rfl) T.n_int OT.b_int (pa_cons (pe_op op_add (pe_op op_add (pv 0) (pe_op op_mul pe_int (pv 4))) pe_int) pa_nil)) pe_int))
  (pss_cons (ps_set (i := 5) sc__law_draws.nd rfl (Or.inl rfl) (pe_op op_mod (pe_callTy call_int1 (by rfl) T.n_int OT.b_int (pa_cons (pe_op op_mul (pv 5) (pe_op op_add (pv 5) pe_int)) pa_nil)) pe_int))
  (pss_cons (ps_set (i := 5) sc__law_draws.nd rfl (Or.inl rfl) (pe_op op_mod (pe_callTy call_int1 (by rfl) T.n_int OT.b_int (pa_cons (pe_op op_add (pe_op op_mul (pv 5) (pe_op op_add (pv 5) pe_int)) (pe_op op_mul pe_int (pv 4))) pa_nil)) pe_int))
  (pss_one (ps_expr (pe_bm PySem.F.plainAttrs_list PySem.F.slot_list_append PySem.F.type_list_append mt_append (pv 2) (pa_cons (pe_op op_mod (pe_callTy call_int1 (by rfl) T.n_int OT.b_int (pa_cons (pe_op op_fdiv (pv 5) pe_int) pa_nil)) (pe_ix ix_list (pv 1) (pv 4) (fun _ _ => rfl))) pa_nil))))))))))
  (pss_one (ps_ret (pv 2)))))), ?_⟩
    refine ⟨Nat.zero_le _, fun p np => ?_⟩
    have s1 : Same H (upd H p (.lst [])) := same_upd np
    refine ⟨_, rfl, 10, 18, rfl, rfl, ?cp, _, _, rfl, rfl, ?_⟩
    case cp => exact ⟨by decide, by decide⟩
    refine ⟨_, rfl, a, _, rfl, .inl (s1.seq hS), _, rfl, ?_, ?_, ?_⟩
    · rw [List.length_map]
      omega
    · rw [List.length_map]
      have : (2 : Int) ^ 62 = 4611686018427387904 := by decide
      omega
    rw [List.length_map, Int.toNat_natCast]
    refine for_range (fun i σ H2 => ∃ (ds : List Int) (r : Int) (y4 y5 : Option V), σ = [some (.int c), some (.ref a), some (.ref p), some (.int r), y4, y5] ∧ Same H H2 ∧ H2 p = some (.lst (ds.map V.int)) ∧ InR ds (zs.take i)) ?_ ?_ ?_
    · exact ⟨[], _, none, none, rfl, s1, upd_same, rfl, fun i d z h => by simp at h⟩
    · rintro i σ H2 hi ⟨ds, r, y4, y5, rfl, sm, hp, hr2⟩
      have hzi : zs[i]? = some zs[i] := List.getElem?_eq_getElem hi
      obtain ⟨z1, z2⟩ := hz zs[i] (List.getElem_mem hi)
      have hix : atI (zs.map V.int) ((0 : Int) + (i : Int)) = some (.int zs[i]) := by
        rw [Int.zero_add]
        exact atI_nat (by rw [List.getElem?_map, hzi]; rfl)
      have hS2 := sm.seq hS
      have hlen : ds.length = i := by
        rw [hr2.1, List.length_take]
        omega
      have hlt : (ds.map V.int).length < sizeLine := by
        rw [List.length_map]
        exact small1000 (by omega)
      have more : ∀ x : Int, InR (ds ++ [x % zs[i]]) (zs.take (i + 1)) := fun x => by
        refine ⟨?_, fun j d z h1 h2 => ?_⟩
        · rw [List.length_append, List.length_take, hlen]
          simp
          omega
        · by_cases hj : j < i
          · rw [List.getElem?_append_left (by omega)] at h1
            rw [List.getElem?_take_of_lt (by omega)] at h2
            exact hr2.2 j d z h1 (by rw [List.getElem?_take_of_lt hj]; exact h2)
          · by_cases ej : j = i
            · subst ej
              rw [List.getElem?_append_right (by omega), hlen, Nat.sub_self] at h1
              rw [List.getElem?_take_of_lt (by omega), hzi] at h2
              have e1 : x % zs[j] = d := Option.some.inj h1
              have e2 : zs[j] = z := Option.some.inj h2
              rw [← e1, ← e2]
              exact ⟨Int.emod_nonneg _ (by omega), Int.emod_lt_of_pos _ z1⟩
            · rw [List.getElem?_eq_none (by rw [List.length_take]; omega)] at h2
              cases h2
      have fin : ∀ (x r' : Int) (y4 y5 : Option V), ∃ (ds2 : List Int) (r2 : Int) (z4 z5 : Option V), [some (.int c), some (.ref a), some (.ref p), some (.int r'), y4, y5] = [some (.int c), some (.ref a), some (.ref p), some (.int r2), z4, z5] ∧
          Same H (upd H2 p (.lst (ds.map V.int ++ [V.int (x % zs[i])]))) ∧ (upd H2 p (.lst (ds.map V.int ++ [V.int (x % zs[i])]))) p = some (.lst (ds2.map V.int)) ∧ InR ds2 (zs.take (i + 1)) := fun x r' y4 y5 => by
        refine ⟨ds ++ [x % zs[i]], r', y4, y5, rfl, same_mut sm np, ?_, more x⟩
        rw [upd_same, List.map_append]
        rfl
      refine ⟨_, rfl, 10, 18, rfl, rfl, ⟨by decide, by decide⟩, _, _, rfl, rfl, _, rfl, ?_⟩
      refine iteD (fun _ => ?_) (fun _ => ?_)
      · refine ⟨_, rfl, .inl ⟨rfl, _, .inl (.inl hp)⟩, _, rfl, .inl ⟨r, rfl, _, rfl, _, rfl, a, _, _, _, rfl, rfl, hS2, hix, _, _, rfl, rfl, z1, p, _, _, rfl, rfl, hp, hlt, ?_⟩⟩
        have sm3 : Same H (upd H2 p (.lst (ds.map V.int ++ [V.int (r % zs[i])]))) := same_mut sm np
        refine ⟨_, rfl, _, rfl, _, rfl, a, _, _, _, rfl, rfl, sm3.seq hS, hix, _, _, rfl, rfl, wide_div z1 (b := 64) (small64 z1 z2) (by decide) (by decide), ?_⟩
        exact fin _ _ _ _
      · refine ⟨_, rfl, _, rfl, _, _, rfl, rfl, .inl ⟨by decide, by decide⟩, _, _, rfl, rfl, _, _, rfl, rfl, .inl ⟨_, rfl, _, _, rfl, rfl, by show (0 : Int) < 2147483647; decide, ?_⟩⟩
        refine ⟨_, rfl, _, rfl, _, _, rfl, rfl, _, _, rfl, rfl, cmul_m1 _ _, .inl ⟨_, rfl, _, _, rfl, rfl, by show (0 : Int) < 2147483629; decide, ?_⟩⟩
        refine ⟨_, rfl, _, rfl, _, _, rfl, rfl, _, _, rfl, rfl, cmul_m2 _ _, _, rfl, _, _, rfl, rfl, .inl ⟨by decide, by decide⟩, _, _, rfl, rfl, .inl ⟨_, rfl, _, _, rfl, rfl, by show (0 : Int) < 2147483647; decide, ?_⟩⟩
        refine ⟨_, rfl, .inl ⟨rfl, _, .inl (.inl hp)⟩, _, rfl, _, _, rfl, rfl, ⟨by decide, by decide⟩, .inl ⟨_, rfl, _, rfl, _, rfl, a, _, _, _, rfl, rfl, hS2, hix, _, _, rfl, rfl, z1, p, _, _, rfl, rfl, hp, hlt, ?_⟩⟩
        exact fin _ _ _ _
    · rintro σ H2 ⟨ds, r, y4, y5, rfl, sm, hp, hr2⟩
      rw [List.take_length] at hr2
      exact ⟨_, rfl, q ds H2 p hr2 sm np hp⟩
end
end OT

set_option Elab.async false
set_option linter.all false
set_option maxRecDepth 100000
set_option maxHeartbeats 2000000
namespace OT
open PySem PySem.Spec PyProof.Rows L2
theorem take_map_succ {α β : Type} {l : List α} {i : Nat} (f : α → β) (h : i < l.length) : (l.take (i + 1)).map f = (l.take i).map f ++ [f l[i]] := by
  rw [List.take_add_one, List.getElem?_eq_getElem h, List.map_append]
  rfl
theorem getm {α β : Type} {l : List α} {i : Nat} {f : α → β} {x : β} (h : (l.map f)[i]? = some x) : ∃ hi : i < l.length, x = f l[i] := by
  rw [List.getElem?_map] at h
  cases e : l[i]? with
  | none =>
    rw [e] at h
    cases h
  | some z =>
    rw [e] at h
    obtain ⟨hi, hz⟩ := List.getElem?_eq_some_iff.mp e
    exact ⟨hi, by rw [hz]; exact (Option.some.inj h).symm⟩
theorem tYes_of {A B : Hp → Prop} {σ : L2.St} {H : Hp} (h : A H) : tYes σ H (fun b H3 => if b = true then A H3 else B H3) := by
  show (if true = true then A H else B H)
  rw [if_pos rfl]
  exact h
theorem drop_cons {α : Type} {l : List α} {i : Nat} (h : i < l.length) : l.drop i = l[i] :: l.drop (i + 1) := List.drop_eq_getElem_cons h
theorem kb_ii : kitB "int" "int" = some true := by decide +kernel
theorem kb_ib : kitB "int" "bool" = some false := by decide +kernel
theorem kb_tt : kitB "tuple" "tuple" = some true := by decide +kernel
theorem kb_ss : kitB "str" "str" = some true := by decide +kernel
theorem kb_ll : kitB "list" "list" = some true := by decide +kernel
theorem depth_ints : ∀ ns : List Int, PyData.depthAll (ns.map PyData.int) = 0
  | [] => by simp only [List.map_nil, PyData.depthAll]
  | n :: r => by simp only [List.map_cons, PyData.depthAll, PyData.depth, depth_ints r, Nat.max_self]
theorem depth_row : ∀ es : List Ent, PyData.depthAll (es.map dEnt) ≤ 3
  | [] => by simp only [List.map_nil, PyData.depthAll]; decide
  | e :: r => by
    have ih := depth_row r
    simp only [List.map_cons, PyData.depthAll, dEnt, dPl, PyData.depth, depth_ints] at ih ⊢
    omega
theorem shaped_row (es : List Ent) : SeqAt.shaped (dRow es) = true := by
  unfold SeqAt.shaped
  have h1 : (dRow es).canLay0 = true := lay_row es
  rw [h1, Bool.true_and]
  refine decide_eq_true ?_
  have := depth_row es
  simp only [dRow, PyData.depth]
  omega
section
variable {P : Program} {w : World} {K : PySem.W.Frag} {mg : Str → Option Value} {base : Heap}
def spIsInt : Sp := fun vs H Q _ => ∃ i : Int, vs = [.int i] ∧ Q (.bl true) H
theorem c__law_is_integer {f : Addr} {fd : FuncData} (D : C8.Def K mg "_law_is_integer" s__law_is_integer f fd) (b : Binds K fd ["_law_actual"] []) (T : Bi mg) : C8.Cal P w K mg base 1 "_law_is_integer" spIsInt [] := by
  refine C8.cal0 D b .nil sc__law_is_integer (fun vs H Q E h => ?_) (fun cdv A outer s H vs Q E hr h => ?_)
  · obtain ⟨i, rfl, _⟩ := h
    rfl
  · obtain ⟨i, rfl, q⟩ := h
    refine ⟨_, (pss_one (ps_ret (pe_and (pe_callB call_isi (by rfl) T.n_isinstance OT.b_isinstance (pa_cons (pv 0) (pa_cons (pe_bltn (v := .ty "int") (by rfl) T.n_int OT.b_int rfl) pa_nil))) (pe_one (pe_not (pe_callB call_isi (by rfl) T.n_isinstance OT.b_isinstance (pa_cons (pv 0) (pa_cons (pe_bltn (v := .ty "bool") (by rfl) T.n_bool OT.b_bool rfl) pa_nil)))))))), ?_⟩
    refine ⟨_, rfl, _, _, _, _, _, rfl, .ty _, .base (.int i), kit_ty kb_ii, _, rfl, ?_⟩
    refine iteT ?_
    exact ⟨_, rfl, _, _, _, _, _, rfl, .ty _, .base (.int i), kit_ty kb_ib, _, rfl, q⟩
def spIsPlace (K : PySem.W.Frag) : Sp := fun vs H Q _ => ∃ (a : Addr) (ns : List Int), vs = [.ref a] ∧ H a = some (.tup (ns.map V.int)) ∧ 1 ≤ ns.length ∧ ns.length ≤ 3 ∧ Q (.bl true) H
theorem c__law_is_place {f : Addr} {fd : FuncData} (D : C8.Def K mg "_law_is_place" s__law_is_place f fd) (b : Binds K fd ["_law_actual"] []) (T : Bi mg) (c__law_is_integer : C8.Cal P w K mg base 1 "_law_is_integer" spIsInt []) : C8.Cal P w K mg base 2 "_law_is_place" (spIsPlace K) [] := by
  refine C8.cal0 D b .nil sc__law_is_place (fun vs H Q E h => ?_) (fun cdv A outer s H vs Q E hr h => ?_)
  · obtain ⟨a, ns, rfl, _⟩ := h
    rfl
  · obtain ⟨a, ns, rfl, hS, h1, h3, q⟩ := h
    have hT : SqT K H a (ns.map V.int) := .inl (.inl hS)
    refine ⟨_, (pss_cons (ps_if (PW.pt (pw_or (pt_not (pt_val (pe_callB call_isi (by rfl) T.n_isinstance OT.b_isinstance (pa_cons (pv 0) (pa_cons (pe_bltn (v := .ty "tuple") (by rfl) T.n_tuple OT.b_tuple rfl) pa_nil))))) (pw_or (pt_cmpR op_lt (pe_callB call_len_seq (by rfl) T.n_len OT.b_len (pa_cons (pv 0) pa_nil)) pe_int (nomark _)) (pw_or1 (pt_cmpR op_gt (pe_callB call_len_seq (by rfl) T.n_len OT.b_len (pa_cons (pv 0) pa_nil)) pe_int (nomark _)))))) (pss_one (ps_ret pe_bl)) pss_nil)
  (pss_cons (ps_for PassesOwn.never rfl (pi_tup (pv 0)) (pg_name (i := 1) sc__law_is_place.nd rfl (Or.inl rfl)) (pss_one (ps_if (pt_not (pt_val (C8.pe_c c__law_is_integer hr (by decide) (by rfl) (pa_cons (pv 1) pa_nil)))) (pss_one (ps_ret pe_bl)) pss_nil)))
  (pss_one (ps_ret pe_bl)))), ?_⟩
    refine ⟨_, rfl, _, _, _, _, _, rfl, .ty _, .base (.tup hS), kit_ty kb_tt, _, rfl, ?_⟩
    refine iteF ?_
    refine ⟨_, rfl, a, _, rfl, .inr hT, _, _, rfl, rfl, _, rfl, iteD (fun z => ?_) (fun _ => ?_)⟩
    · rw [List.length_map] at z
      omega
    refine ⟨_, rfl, a, _, rfl, .inr hT, _, _, rfl, rfl, _, rfl, iteD (fun z => ?_) (fun _ => ?_)⟩
    · rw [List.length_map] at z
      omega
    refine ⟨_, rfl, a, rfl, ⟨_, hT⟩, ?_⟩
    refine for_tup (K := K) (xs := ns.map V.int) (fun i σ H2 => ∃ y, σ = [some (.ref a), y] ∧ H2 = H) ⟨none, rfl, rfl⟩ (fun i σ H2 _ ⟨_, _, e⟩ => by rw [e]; exact hT) ?_ ?_
    · rintro i x σ H2 hx ⟨y, rfl, rfl⟩
      obtain ⟨hi, rfl⟩ := getm hx
      exact ⟨_, rfl, _, rfl, _, rfl, iteF ⟨_, rfl, rfl⟩⟩
    · rintro σ H2 ⟨y, rfl, rfl⟩
      exact q
end
end OT

set_option Elab.async false
set_option linter.all false
set_option maxRecDepth 100000
set_option maxHeartbeats 2000000
namespace OT
open PySem PySem.Spec PyProof.Rows L2
theorem kV_ints (k : Pl) : (k.map (Sum.inl : Int → Key)).map kV = k.map V.int := by
  rw [List.map_map]
  rfl
theorem dgetT {H : Hp} {d b : Addr} {kvs : List (List Key × V)} {k : Pl} {o : Option V} (e : H d = some (.dT kvs)) (eb : H b = some (.tup (k.map V.int))) (h : valV kvs (k.map Sum.inl) = o) : DGet H d (.ref b) o := by
  rw [← h]
  exact DGet.t e (by rw [kV_ints]; exact eb)
theorem ne_lst {H : Hp} {a D : Addr} {xs l : List V} (h : H a = some (.tup xs)) (hD : H D = some (.lst l)) : a ≠ D := fun e => by
  rw [e, hD] at h
  cases h
theorem EntAt.updL {H : Hp} {D : Addr} {l l' : List V} {v : V} {e : Ent} (hD : H D = some (.lst l)) (h : EntAt H v e) : EntAt (upd H D (.lst l')) v e := by
  obtain ⟨t, p, rfl, h1, h2⟩ := h
  exact ⟨t, p, rfl, by rw [upd_ne (ne_lst h1 hD)]; exact h1, by rw [upd_ne (ne_lst h2 hD)]; exact h2⟩
theorem Ents.updL {H : Hp} {D : Addr} {l l' : List V} {vs : List V} {es : List Ent} (hD : H D = some (.lst l)) (h : Ents H vs es) : Ents (upd H D (.lst l')) vs es := by
  induction h with
  | nil => exact .nil
  | cons h1 _ ih => exact .cons (h1.updL hD) ih
theorem mkR_len (f : Pl → Int) : ∀ ks : List Pl, (mkR f ks).length ≤ ks.length
  | [] => Nat.le_refl _
  | k :: r => by
    have ih := mkR_len f r
    show (if f k = 0 then mkR f r else (k, f k) :: mkR f r).length ≤ r.length + 1
    by_cases h : f k = 0
    · rw [if_pos h]
      omega
    · rw [if_neg h, List.length_cons]
      omega
theorem none_of_upd {H : Hp} {p D : Addr} {o : HO} (h : upd H p o D = none) : H D = none ∧ p ≠ D := by
  have ne : p ≠ D := ne_of_none upd_same h
  exact ⟨by rw [upd_ne ne.symm] at h; exact h, ne⟩
section
variable {P : Program} {w : World} {K : PySem.W.Frag} {mg : Str → Option Value} {base : Heap}
def wantRow (H : Hp) (es : List Ent) (Q : VK) : Prop := ∀ (r : List Ent) (p : Addr) (ws : List V) (H' : Hp), RowIs r es → Same H H' → H p = none → H' p = some (.lst ws) → Ents H' ws r → Q (.ref p) H'
def spRowOf (K : PySem.W.Frag) : Sp := fun vs H Q _ => ∃ (d : Addr) (kvs : List (List Key × V)) (ks : List Pl) (es : List Ent), vs = [.ref d] ∧ H d = some (.dT kvs) ∧ Sums kvs ks (numAt es) ∧ (∀ k ∈ ks, k ≠ []) ∧ ks.length < sizeLine ∧ wantRow H es Q
end
end OT

set_option Elab.async false
set_option linter.all false
set_option maxRecDepth 100000
set_option maxHeartbeats 2000000
namespace OT
open PySem PySem.Spec PyProof.Rows L2
section
variable {P : Program} {w : World} {K : PySem.W.Frag} {mg : Str → Option Value} {base : Heap}
theorem put_keys_ne {ks : List Pl} {e : Pl} (h : ∀ k ∈ ks, k ≠ []) (he : e ≠ []) : ∀ k ∈ (if e ∈ ks then ks else ks ++ [e]), k ≠ [] := by
  by_cases m : e ∈ ks
  · rw [if_pos m]
    exact h
  · rw [if_neg m]
    intro k hk
    rcases List.mem_append.mp hk with hk | hk
    · exact h k hk
    · rw [List.mem_singleton.mp hk]
      exact he
theorem put_keys_len {ks : List Pl} {e : Pl} {i : Nat} (h : ks.length ≤ i) : (if e ∈ ks then ks else ks ++ [e]).length ≤ i + 1 := by
  by_cases m : e ∈ ks
  · rw [if_pos m]
    omega
  · rw [if_neg m, List.length_append, List.length_singleton]
    omega
theorem Ents.updD {H : Hp} {D : Addr} {l l' : List (List Key × V)} {vs : List V} {es : List Ent} (hD : H D = some (.dT l)) (h : Ents H vs es) : Ents (upd H D (.dT l')) vs es := by
  have ne : ∀ {a : Addr} {xs : List V}, H a = some (.tup xs) → a ≠ D := fun {a xs} h e => by
    rw [e, hD] at h
    cases h
  induction h with
  | nil => exact .nil
  | cons h1 _ ih =>
    obtain ⟨t, p, rfl, h1, h2⟩ := h1
    exact .cons ⟨t, p, rfl, by rw [upd_ne (ne h1)]; exact h1, by rw [upd_ne (ne h2)]; exact h2⟩ ih
theorem seq_upd {H : Hp} {D a : Addr} {o : HO} {xs : List V} (h : SqL K H a xs) (ne : a ≠ D) : SqL K (upd H D o) a xs := by
  rcases h with (h | ⟨o', h⟩) | h
  · exact .inl (.inl (by rw [upd_ne ne]; exact h))
  · exact .inl (.inr ⟨o', by rw [upd_ne ne]; exact h⟩)
  · exact .inr h
/-- what a list of entries asks -/
structure InEnts (K : PySem.W.Frag) (H : Hp) (a : Addr) (vs : List V) (es : List Ent) : Prop where
  l : SqL K H a vs
  e : Ents H vs es
  z : es.length < sizeLine
theorem InEnts.mono {H H' : Hp} {a : Addr} {vs : List V} {es : List Ent} (s : Same H H') (h : InEnts K H a vs es) : InEnts K H' a vs es := ⟨s.seq h.l, h.e.mono s, h.z⟩
def spGather (K : PySem.W.Frag) : Sp := fun vs H Q _ => ∃ (a : Addr) (xs : List V) (es : List Ent), vs = [.ref a] ∧ InEnts K H a xs es ∧ (∀ e ∈ es, e.1 ≠ []) ∧ wantRow H es Q
theorem c__law_row {f : Addr} {fd : FuncData} (D : C8.Def K mg "_law_row" s__law_row f fd) (b : Binds K fd ["_law_pairs"] []) (T : Bi mg) : C8.Cal P w K mg base 1 "_law_row" (spGather K) [] := by
  refine C8.cal0 D b .nil sc__law_row (fun vs H Q E h => ?_) (fun cdv A outer s H vs Q E hr h => ?_)
  · obtain ⟨a, xs, es, rfl, _⟩ := h
    rfl
  · obtain ⟨a, xs, es, rfl, hE, hne, q⟩ := h
    refine ⟨_, (pss_cons (ps_set (i := 1) sc__law_row.nd rfl (Or.inr rfl) pe_dnewT)
  (pss_cons (ps_for PassesOwn.never rfl (pi_list (pv 0)) (pg_tup rfl (pgs_cons (pg_name (i := 2) sc__law_row.nd rfl (Or.inl rfl)) (pgs_cons (pg_name (i := 3) sc__law_row.nd rfl (Or.inl rfl)) pgs_nil))) (pss_one (ps_dput (hu_of hr) (pv 1) (pv 2) (pe_op op_add (pe_dget2 (hu_of hr) (pv 1) (pv 2) pe_int ⟨rfl, rfl, rfl, rfl⟩) (pv 3)) rfl)))
  (pss_one (ps_ret (pe_lc (own := [("_law_place", 2)]) (g := (gName 2)) rfl sc__law_row.nd (pi_list (pe_callB (cr_sortedDT rfl) (by rfl) T.n_sorted OT.b_sorted (pa_cons (pv 1) pa_nil))) (blkOk_by (N := ["_law_pairs", "_law_sums", "_law_place", "_law_number"]) (sc := C8.fnScope s__law_row) (by decide +kernel)) (fun _ _ _ _ _ => (pg_name (i := 2) sc__law_row.nd rfl (Or.inl rfl))) (fun _ _ _ _ _ => (pts_one (pt_cmpR op_ne (pe_dget (hu_of hr) (pv 1) (pv 2) (fun _ _ => rfl)) pe_int (nomark _)))) (fun _ _ _ _ _ => (pe_tup (pa_cons (pv 2) (pa_cons (pe_dget (hu_of hr) (pv 1) (pv 2) (fun _ _ => rfl)) pa_nil))))))))), ?_⟩
    refine fun d nd => ?_
    have s1 : Same H (upd H d (.dT [])) := same_upd nd
    refine ⟨_, rfl, a, rfl, ⟨xs, s1.seq hE.l⟩, ?_⟩
    refine for_list (K := K) (xs := xs) (fun i σ H2 => ∃ (kvs : List (List Key × V)) (ks : List Pl) (y2 y3 : Option V), σ = [some (.ref a), some (.ref d), y2, y3] ∧ Same H H2 ∧ H2 d = some (.dT kvs) ∧ Sums kvs ks (numAt (es.take i)) ∧ (∀ k ∈ ks, k ≠ []) ∧ ks.length ≤ i) ?_ ?_ ?_ ?_
    · exact ⟨[], [], none, none, rfl, s1, upd_same, Sums.nil, fun k hk => (by cases hk), Nat.le_refl _⟩
    · rintro i σ H2 _ ⟨_, _, _, _, _, sm, _⟩
      exact sm.seq hE.l
    · rintro i x σ H2 hx ⟨kvs, ks, y2, y3, rfl, sm, hd, hs, hk, hl⟩
      obtain ⟨e, he, hv⟩ := (hE.e.mono sm).get hx
      obtain ⟨t, p, rfl, ht, hp⟩ := hv
      have hi := (List.getElem?_eq_some_iff.mp he).1
      have hm : e ∈ es := List.mem_of_getElem? he
      have hz := hE.z
      refine ⟨t, _, rfl, .inl (.inl ht), rfl, _, _, rfl, _, _, rfl, rfl, ?_⟩
      refine ⟨_, rfl, d, rfl, .inr ⟨kvs, .inl hd⟩, _, rfl, _, dgetT hd hp rfl, _, rfl, numAt (es.take i) e.1, e.2, hs.getD _, rfl, _, rfl, _, rfl, d, _, rfl, DPut.t hd (k := e.1.map Sum.inl) (by rw [kV_ints]; exact hp) ?_, ?_⟩
      · rw [hs.len]
        omega
      · exact ⟨_, _, _, _, rfl, same_mut sm nd, upd_same, hs.next he, put_keys_ne hk (hne e hm), put_keys_len hl⟩
    · rintro σ H2 ⟨kvs, ks, y2, y3, rfl, sm, hd, hs, hk, hl⟩
      have hz := hE.z
      have hlen := hE.e.len
      rw [hlen, List.take_length] at hs
      have hkz : ks.length < sizeLine := by omega
      refine ⟨_, rfl, d, kvs, ks, rfl, .inl hd, hs.keys, fun _ => hk, fun out p perm pw nod held np => ?_⟩
      refine ⟨p, rfl, ⟨_, .inl (.inl upd_same)⟩, fun D nD => ?_⟩
      have hpD : p ≠ D := ne_of_none upd_same nD
      obtain ⟨hDn, _⟩ := none_of_upd nD
      have hkd : ∀ x ∈ out, x.2 ∈ ks := fun x hx => perm.mem_iff.mp (List.mem_map_of_mem hx)
      refine lc_list (K := K) (a := p) (xs := out.map fun x => V.ref x.1) (fun i H3 => Same H2 H3 ∧ H3 p = some (.lst (out.map fun x => V.ref x.1)) ∧ ∃ ws, H3 D = some (.lst ws) ∧ Ents H3 ws (mkR (numAt es) ((out.take i).map (·.2)))) ?_ ?_ ?_ ?_
      · refine ⟨(same_upd np).trans (same_upd nD), ?_, [], upd_same, .nil⟩
        rw [upd_ne hpD, upd_same]
      · rintro i H3 _ ⟨_, hp, _⟩
        exact .inl (.inl hp)
      · rintro i x H3 hx ⟨sm3, hp, ws, hD, hE3⟩
        obtain ⟨hi, rfl⟩ := getm hx
        have hm := List.getElem_mem hi
        have hk3 := sm3 _ _ (held _ hm)
        have hv := hs.get (hkd _ hm)
        have hd2 := sm3 _ _ hd
        refine ⟨rfl, _, rfl, _, rfl, d, _, rfl, dgetT hd2 hk3 hv, ?_⟩
        refine ⟨rfl, _, rfl, ?_⟩
        have htk : (out.take (i + 1)).map (·.2) = (out.take i).map (·.2) ++ [out[i].2] := take_map_succ (·.2) hi
        rw [htk, mkR_snoc]
        refine iteND (fun hn => ?_) (fun h0 => ?_)
        · have hn0 : numAt es out[i].2 ≠ 0 := fun z => hn (by rw [z])
          rw [if_neg hn0]
          refine ⟨_, rfl, _, rfl, _, rfl, d, _, rfl, dgetT hd2 hk3 hv, (by show 2 ≤ sizeLine; decide), fun t nt => ?_⟩
          have ntD : D ≠ t := ne_of_none hD nt
          have smt : Same H3 (upd H3 t (.tup [.ref out[i].1, .int (numAt es out[i].2)])) := same_upd nt
          have hD3 := smt _ _ hD
          refine ⟨ws, hD3, ?_, same_mut (sm3.trans smt) hDn, ?_, ws ++ [.ref t], upd_same, ?_⟩
          · have h1 := hE3.len
            have h2 := mkR_len (numAt es) ((out.take i).map (·.2))
            have h3 := perm.length_eq
            rw [List.length_map] at h2 h3
            rw [List.length_take] at h2
            omega
          · rw [upd_ne hpD]
            exact smt _ _ hp
          · refine ((hE3.mono smt).updL hD3).app (.cons (EntAt.updL hD3 ⟨t, _, rfl, upd_same, ?_⟩) .nil)
            exact smt _ _ hk3
        · have h0' : numAt es out[i].2 = 0 := V.int.inj h0
          rw [if_pos h0', List.append_nil]
          exact ⟨sm3, hp, ws, hD, hE3⟩
      · rintro H3 ⟨sm3, hp, ws, hD, hE3⟩
        rw [List.length_map, List.take_length] at hE3
        refine q _ D ws H3 (row_sorted perm pw nod hs.out) (sm.trans sm3) ?_ hD hE3
        cases z : H D with
        | none => rfl
        | some o =>
          rw [sm _ _ z] at hDn
          cases hDn
end
end OT

set_option Elab.async false
set_option linter.all false
set_option maxRecDepth 100000
set_option maxHeartbeats 2000000
namespace OT
open PySem PySem.Spec PyProof.Rows L2
section
variable {P : Program} {w : World} {K : PySem.W.Frag} {mg : Str → Option Value} {base : Heap}
/-- a row of places of n coordinates -/
structure RowN (n : Nat) (r : List Ent) : Prop where
  v : Valid r
  n1 : 1 ≤ n
  n3 : n ≤ 3
  at_ : ∀ e ∈ r, e.1.length = n
theorem asc_get {r : List Ent} (h : Valid r) {i j : Nat} (hi : i < r.length) (hj : j < r.length) (hij : i < j) : HT.lexLt r[i].1 r[j].1 = true := List.pairwise_iff_getElem.mp h.asc i j hi hj hij
def spIsRow (K : PySem.W.Frag) : Sp := fun vs H Q _ => ∃ (a : Addr) (ws : List V) (r : List Ent) (n : Nat), vs = [.ref a] ∧ H a = some (.lst ws) ∧ Ents H ws r ∧ RowN n r ∧ r.length ≤ 100000 ∧ Q (.bl true) H
theorem c__law_is_row {f : Addr} {fd : FuncData} (D : C8.Def K mg "_law_is_row" s__law_is_row f fd) (b : Binds K fd ["_law_actual"] []) (T : Bi mg) (c__law_is_place : C8.Cal P w K mg base 2 "_law_is_place" (spIsPlace K) []) (c__law_is_integer : C8.Cal P w K mg base 1 "_law_is_integer" spIsInt []) :
    C8.Cal P w K mg base 3 "_law_is_row" (spIsRow K) [] := by
  refine C8.cal0 D b .nil sc__law_is_row (fun vs H Q E h => ?_) (fun cdv A outer s H vs Q E hr h => ?_)
  · obtain ⟨a, ws, r, n, rfl, _⟩ := h
    rfl
  · obtain ⟨a, ws, r, n, rfl, ha, hE, hN, hz, q⟩ := h
    have hS : SqL K H a ws := .inl (.inl ha)
    refine ⟨_, (pss_cons (ps_if (pt_not (pt_val (pe_callB call_isi (by rfl) T.n_isinstance OT.b_isinstance (pa_cons (pv 0) (pa_cons (pe_bltn (v := .ty "list") (by rfl) T.n_list OT.b_list rfl) pa_nil))))) (pss_one (ps_ret pe_bl)) pss_nil)
  (pss_cons (ps_for PassesOwn.never rfl (pi_range1 rfl T.n_range (pa_cons (pe_callB call_len_seq (by rfl) T.n_len OT.b_len (pa_cons (pv 0) pa_nil)) pa_nil)) (pg_name (i := 1) sc__law_is_row.nd rfl (Or.inl rfl)) (pss_cons (ps_set (i := 2) sc__law_is_row.nd rfl (Or.inl rfl) (pe_ix ix_list (pv 0) (pv 1) (fun _ _ => rfl)))
  (pss_cons (ps_if (PW.pt (pw_or (pt_not (pt_val (pe_callB call_isi (by rfl) T.n_isinstance OT.b_isinstance (pa_cons (pv 2) (pa_cons (pe_bltn (v := .ty "tuple") (by rfl) T.n_tuple OT.b_tuple rfl) pa_nil))))) (pw_or1 (pt_cmpR op_ne (pe_callB call_len_seq (by rfl) T.n_len OT.b_len (pa_cons (pv 2) pa_nil)) pe_int (nomark _))))) (pss_one (ps_ret pe_bl)) pss_nil)
  (pss_cons (ps_if (PW.pt (pw_or (pt_not (pt_val (C8.pe_c c__law_is_place hr (by decide) (by rfl) (pa_cons (pe_ix ix_tup (pv 2) pe_int (fun _ _ => rfl)) pa_nil)))) (pw_or (pt_not (pt_val (C8.pe_c c__law_is_integer hr (by decide) (by rfl) (pa_cons (pe_ix ix_tup (pv 2) pe_int (fun _ _ => rfl)) pa_nil)))) (pw_or1 (pt_cmpR op_eq (pe_ix ix_tup (pv 2) pe_int (fun _ _ => rfl)) pe_int (nomark _)))))) (pss_one (ps_ret pe_bl)) pss_nil)
  (pss_cons (ps_if (pt_cmpR op_ne (pe_callB call_len_seq (by rfl) T.n_len OT.b_len (pa_cons (pe_ix ix_tup (pv 2) pe_int (fun _ _ => rfl)) pa_nil)) (pe_callB call_len_seq (by rfl) T.n_len OT.b_len (pa_cons (pe_ix ix_tup (pe_ix ix_list (pv 0) pe_int (fun _ _ => rfl)) pe_int (fun _ _ => rfl)) pa_nil)) (nomark _)) (pss_one (ps_ret pe_bl)) pss_nil)
  (pss_one (ps_if (PW.pt (pw_and (pt_cmpR op_gt (pv 1) pe_int (nomark _)) (pw_and1 (pt_not (pt_cmpR (op_ltT hr.units0) (pe_ix ix_tup (pe_ix ix_list (pv 0) (pe_op op_sub (pv 1) pe_int) (fun _ _ => rfl)) pe_int (fun _ _ => rfl)) (pe_ix ix_tup (pv 2) pe_int (fun _ _ => rfl)) (nomark _)))))) (pss_one (ps_ret pe_bl)) pss_nil)))))))
  (pss_one (ps_ret pe_bl)))), ?_⟩
    refine ⟨_, rfl, _, _, _, _, _, rfl, .ty _, .base (.lst ha), kit_ty kb_ll, _, rfl, ?_⟩
    refine iteF ?_
    refine ⟨_, rfl, a, _, rfl, .inl hS, _, rfl, ?_, ?_, ?_⟩
    · omega
    · have h2 := hE.len
      have : (2 : Int) ^ 62 = 4611686018427387904 := by decide
      omega
    rw [Int.toNat_natCast, hE.len]
    refine for_range (fun i σ H2 => ∃ y1 y2, σ = [some (.ref a), y1, y2] ∧ H2 = H) ⟨none, none, rfl, rfl⟩ ?_ ?_
    · rintro i σ H2 hi ⟨y1, y2, rfl, rfl⟩
      obtain ⟨v, hv, t, p, rfl, ht, hp⟩ := hE.at hi
      obtain ⟨v0, hv0, t0, p0, rfl, ht0, hp0⟩ := hE.at (i := 0) (by omega)
      have hm := List.getElem_mem hi
      have hm0 := List.getElem_mem (show 0 < r.length by omega)
      have hT : SqT K H2 t [.ref p, .int r[i].2] := .inl (.inl ht)
      have hT0 : SqT K H2 t0 [.ref p0, .int (r[0]'(by omega)).2] := .inl (.inl ht0)
      have hP : SqT K H2 p (r[i].1.map V.int) := .inl (.inl hp)
      have hP0 : SqT K H2 p0 ((r[0]'(by omega)).1.map V.int) := .inl (.inl hp0)
      refine ⟨_, rfl, _, rfl, a, _, _, .ref t, rfl, rfl, hS, by rw [Int.zero_add]; exact atI_nat hv, ?_⟩
      refine ⟨_, rfl, _, _, _, _, _, rfl, .ty _, .base (.tup ht), kit_ty kb_tt, _, rfl, ?_⟩
      refine iteF ?_
      refine ⟨_, rfl, t, _, rfl, .inr hT, rfl, _, rfl, ?_⟩
      refine iteF ?_
      refine ⟨_, rfl, t, _, 0, _, rfl, rfl, hT, atI_nat (j := 0) rfl, p, _, rfl, hp, by rw [hN.at_ _ hm]; exact hN.n1, by rw [hN.at_ _ hm]; exact hN.n3, _, rfl, ?_⟩
      refine iteF ?_
      refine ⟨_, rfl, t, _, 1, _, rfl, rfl, hT, atI_nat (j := 1) rfl, _, rfl, _, rfl, ?_⟩
      refine iteF ?_
      refine ⟨_, rfl, t, _, 1, _, rfl, rfl, hT, atI_nat (j := 1) rfl, rfl, _, rfl, iteD (fun z => absurd (V.int.inj z) (hN.v.nz _ hm)) (fun _ => ?_)⟩
      refine ⟨_, rfl, t, _, 0, _, rfl, rfl, hT, atI_nat (j := 0) rfl, p, _, rfl, .inr hP, _, rfl, a, _, 0, _, rfl, rfl, hS, atI_nat (j := 0) hv0, t0, _, 0, _, rfl, rfl, hT0, atI_nat (j := 0) rfl, p0, _, rfl, .inr hP0, rfl, _, rfl, iteND (fun z => ?_) (fun _ => ?_)⟩
      · rw [List.length_map, List.length_map, hN.at_ _ hm, hN.at_ _ hm0] at z
        exact absurd rfl z
      refine ⟨_, rfl, _, _, rfl, rfl, _, rfl, iteD (fun hk => ?_) (fun _ => ?_)⟩
      · have hi1 : i - 1 < r.length := by omega
        obtain ⟨v1, hv1, t1, p1, rfl, ht1, hp1⟩ := hE.at (i := i - 1) hi1
        have hT1 : SqT K H2 t1 [.ref p1, .int (r[i - 1]'hi1).2] := .inl (.inl ht1)
        refine ⟨_, rfl, _, rfl, _, _, rfl, rfl, a, _, _, _, rfl, rfl, hS, ?_, t1, _, 0, _, rfl, rfl, hT1, atI_nat (j := 0) rfl, _, rfl, t, _, 0, _, rfl, rfl, hT, atI_nat (j := 0) rfl, p1, p, _, _, rfl, rfl, .inl (.inl hp1), hP, _, rfl, ?_⟩
        · rw [show (0 : Int) + (i : Int) - 1 = ((i - 1 : Nat) : Int) by omega]
          exact atI_nat hv1
        · rw [asc_get hN.v hi1 hi (by omega)]
          refine iteF ?_
          exact ⟨_, _, rfl, rfl⟩
      · exact ⟨_, _, rfl, rfl⟩
    · rintro σ H2 ⟨y1, y2, rfl, rfl⟩
      exact q
def spSame (K : PySem.W.Frag) : Sp := fun vs H Q _ => ∃ (a c : Addr) (ws us : List V) (r : List Ent) (n : Nat), vs = [.ref a, .ref c] ∧ H a = some (.lst ws) ∧ Ents H ws r ∧ H c = some (.lst us) ∧ Ents H us r ∧ RowN n r ∧ r.length ≤ 100000 ∧ Q (.bl true) H
theorem c__law_same {f : Addr} {fd : FuncData} (D : C8.Def K mg "_law_same" s__law_same f fd) (b : Binds K fd ["_law_actual", "_law_expected"] []) (T : Bi mg) (c__law_is_row : C8.Cal P w K mg base 3 "_law_is_row" (spIsRow K) []) :
    C8.Cal P w K mg base 4 "_law_same" (spSame K) [] := by
  refine C8.cal0 D b .nil sc__law_same (fun vs H Q E h => ?_) (fun cdv A outer s H vs Q E hr h => ?_)
  · obtain ⟨a, c, ws, us, r, n, rfl, _⟩ := h
    rfl
  · obtain ⟨a, c, ws, us, r, n, rfl, ha, hE, hc, hF, hN, hz, q⟩ := h
    refine ⟨_, (pss_one (ps_ret (pe_and (C8.pe_c c__law_is_row hr (by decide) (by rfl) (pa_cons (pv 0) pa_nil)) (pe_one (pe_cmpR (op_eqD hr.units) (pv 0) (pv 1) (nomark _)))))), ?_⟩
    refine ⟨_, rfl, a, ws, r, n, rfl, ha, hE, hN, hz, _, rfl, ?_⟩
    refine iteT ?_
    refine ⟨_, rfl, _, rfl, dRow r, dRow r, hE.dp (.inl (.inl ha)), hF.dp (.inl (.inl hc)), shaped_row r, shaped_row r, ?_⟩
    rw [SeqAt.eqv_refl _ (SeqAt.canLay_of_shaped (shaped_row r))]
    exact q
end
end OT

set_option Elab.async false
set_option linter.all false
set_option maxRecDepth 100000
set_option maxHeartbeats 2000000
namespace OT
open PySem PySem.Spec PyProof.Rows L2
/-! ### places -/
def plusP (k l : Pl) : Pl := List.zipWith (· + ·) k l
theorem plusP_len {k l : Pl} (h : k.length ≤ l.length) : (plusP k l).length = k.length := by
  unfold plusP
  rw [List.length_zipWith, Nat.min_eq_left h]
theorem plusP_get {k l : Pl} {i : Nat} (h : i < (plusP k l).length) (h1 : i < k.length) (h2 : i < l.length) : (plusP k l)[i] = k[i] + l[i] := by
  unfold plusP
  exact List.getElem_zipWith ..
theorem plusP_mem {k l : Pl} {x : Int} (h : x ∈ plusP k l) : ∃ a ∈ k, ∃ b ∈ l, x = a + b := by
  obtain ⟨i, hi, rfl⟩ := List.getElem_of_mem h
  have hk : i < k.length := by
    unfold plusP at hi
    rw [List.length_zipWith] at hi
    omega
  have hl : i < l.length := by
    unfold plusP at hi
    rw [List.length_zipWith] at hi
    omega
  exact ⟨_, List.getElem_mem hk, _, List.getElem_mem hl, plusP_get hi hk hl⟩
theorem plusP_lt : ∀ {a b l : Pl}, a.length ≤ l.length → b.length ≤ l.length → HT.lexLt (plusP a l) (plusP b l) = HT.lexLt a b
  | [], [], _, _, _ => rfl
  | [], _ :: _, _ :: _, _, _ => rfl
  | _ :: _, [], _ :: _, _, _ => rfl
  | x :: a, y :: b, z :: l, h1, h2 => by
    show (if x + z = y + z then HT.lexLt (plusP a l) (plusP b l) else decide (x + z < y + z)) = if x = y then HT.lexLt a b else decide (x < y)
    rw [plusP_lt (Nat.le_of_succ_le_succ h1) (Nat.le_of_succ_le_succ h2)]
    by_cases e : x = y
    · rw [if_pos e, if_pos (by rw [e])]
    · rw [if_neg e, if_neg (by omega)]
      by_cases h : x < y
      · rw [decide_eq_true h, decide_eq_true (by omega)]
      · rw [decide_eq_false h, decide_eq_false (by omega)]
def movL (es : List Ent) (l : Pl) : List Ent := es.map fun e => (plusP e.1 l, e.2)
theorem movL_valid {es : List Ent} {l : Pl} (h : Valid es) (hl : ∀ e ∈ es, e.1.length ≤ l.length) : Valid (movL es l) := by
  refine ⟨?_, fun e he => ?_⟩
  · unfold movL
    rw [List.pairwise_map]
    refine List.Pairwise.imp_of_mem (fun {x y} hx hy q => ?_) h.asc
    rw [plusP_lt (hl x hx) (hl y hy)]
    exact q
  · obtain ⟨x, hx, rfl⟩ := List.mem_map.mp he
    exact h.nz x hx
theorem numAt_bound {es : List Ent} {m : Nat} (h : ∀ e ∈ es, e.2.natAbs ≤ m) (q : Pl) : (numAt es q).natAbs ≤ es.length * m := by
  induction es with
  | nil => exact Nat.zero_le _
  | cons e r ih =>
    have h1 := h e List.mem_cons_self
    have h2 := ih fun x hx => h x (List.mem_cons_of_mem _ hx)
    show ((if e.1 = q then e.2 else 0) + numAt r q).natAbs ≤ (r.length + 1) * m
    rw [Nat.succ_mul]
    by_cases c : e.1 = q
    · rw [if_pos c]
      omega
    · rw [if_neg c]
      omega
theorem RowIs.bound {r es : List Ent} {m : Nat} (h : RowIs r es) (hb : ∀ e ∈ es, e.2.natAbs ≤ m) : ∀ e ∈ r, e.2.natAbs ≤ es.length * m := fun e he => by
  have h1 := h.v.at e he
  rw [h.s] at h1
  rw [← h1]
  exact numAt_bound hb _
/-- tuples of ints, in turn -/
inductive Pls (H : Hp) : List V → List Pl → Prop
  | nil : Pls H [] []
  | cons {p : Addr} {k : Pl} {vs : List V} {ks : List Pl} : H p = some (.tup (k.map V.int)) → Pls H vs ks → Pls H (.ref p :: vs) (k :: ks)
theorem Pls.len {H : Hp} {vs : List V} {ks : List Pl} (h : Pls H vs ks) : vs.length = ks.length := by
  induction h with
  | nil => rfl
  | cons _ _ ih => rw [List.length_cons, List.length_cons, ih]
theorem Pls.mono {H H' : Hp} {vs : List V} {ks : List Pl} (s : ∀ b o, H b = some o → H' b = some o) (h : Pls H vs ks) : Pls H' vs ks := by
  induction h with
  | nil => exact .nil
  | cons h1 _ ih => exact .cons (s _ _ h1) ih
theorem Pls.app {H : Hp} {vs ws : List V} {ks ls : List Pl} (h : Pls H vs ks) (g : Pls H ws ls) : Pls H (vs ++ ws) (ks ++ ls) := by
  induction h with
  | nil => exact g
  | cons h1 _ ih => exact .cons h1 ih
theorem Pls.updL {H : Hp} {D : Addr} {l l' : List V} {vs : List V} {ks : List Pl} (hD : H D = some (.lst l)) (h : Pls H vs ks) : Pls (upd H D (.lst l')) vs ks := by
  induction h with
  | nil => exact .nil
  | cons h1 _ ih => exact .cons (by rw [upd_ne (ne_lst h1 hD)]; exact h1) ih
theorem Pls.get {H : Hp} {vs : List V} {ks : List Pl} (h : Pls H vs ks) : ∀ {i : Nat} {v : V}, vs[i]? = some v → ∃ p k, v = .ref p ∧ ks[i]? = some k ∧ H p = some (.tup (k.map V.int)) := by
  induction h with
  | nil => intro i v h; simp at h
  | cons h1 _ ih =>
    intro i v hv
    cases i with
    | zero =>
      cases hv
      exact ⟨_, _, rfl, rfl, h1⟩
    | succ i => exact ih (i := i) hv
section
variable {P : Program} {w : World} {K : PySem.W.Frag} {mg : Str → Option Value} {base : Heap}
theorem small100k {n : Nat} (h : n ≤ 100000) : n < sizeLine := Nat.lt_of_le_of_lt h (by decide)
theorem b62 {n : Nat} (h : n ≤ 100000) : (n : Int) < 2 ^ 62 := by
  have : (2 : Int) ^ 62 = 4611686018427387904 := by decide
  omega
def spPlus (K : PySem.W.Frag) : Sp := fun vs H Q _ => ∃ (a b : Addr) (k l : Pl), vs = [.ref a, .ref b] ∧ SqT K H a (k.map V.int) ∧ SqT K H b (l.map V.int) ∧ k.length ≤ l.length ∧ k.length ≤ 1000 ∧ ∀ p H', Same H H' → H' p = some (.tup ((plusP k l).map V.int)) → Q (.ref p) H'
theorem c__law_plus {f : Addr} {fd : FuncData} (D : C8.Def K mg "_law_plus" s__law_plus f fd) (b : Binds K fd ["_law_place", "_law_other"] []) (T : Bi mg) : C8.Cal P w K mg base 1 "_law_plus" (spPlus K) [] := by
  refine C8.cal0 D b .nil sc__law_plus (fun vs H Q E h => ?_) (fun cdv A outer s H vs Q E hr h => ?_)
  · obtain ⟨a, b, k, l, rfl, _⟩ := h
    rfl
  · obtain ⟨a, b, k, l, rfl, hk, hl, hkl, hz, q⟩ := h
    refine ⟨_, (pss_one (ps_ret (pe_callTy call_tuple_of (by rfl) T.n_tuple OT.b_tuple (pa_cons (pe_lc (own := [("_law_k", 2)]) (g := (gName 2)) (tt := tYes) rfl sc__law_plus.nd (pi_range1 rfl T.n_range (pa_cons (pe_callB call_len_seq (by rfl) T.n_len OT.b_len (pa_cons (pv 0) pa_nil)) pa_nil)) (blkOk_by (N := ["_law_place", "_law_other", "_law_k"]) (sc := C8.fnScope s__law_plus) (by decide +kernel)) (fun _ _ _ _ _ => (pg_name (i := 2) sc__law_plus.nd rfl (Or.inl rfl))) (fun _ _ _ _ _ => pts_nil) (fun _ _ _ _ _ => (pe_op op_add (pe_ix (show IxR _ (rIxT K) from ix_tup) (pv 0) (pv 2) (fun _ _ => rfl)) (pe_ix (show IxR _ (rIxT K) from ix_tup) (pv 1) (pv 2) (fun _ _ => rfl))))) pa_nil)))), ?_⟩
    have hpl := plusP_len hkl
    refine ⟨_, rfl, a, _, rfl, .inr hk, _, rfl, by omega, b62 (by rw [List.length_map]; omega), fun p np => ?_⟩
    rw [List.length_map, Int.toNat_natCast]
    refine lc_range (lo := 0) (n := k.length) (fun i H2 => Same H H2 ∧ H2 p = some (.lst (((plusP k l).take i).map V.int))) ⟨same_upd np, upd_same⟩ ?_ ?_
    · rintro i H2 hi ⟨sm, hp⟩
      have hil : i < l.length := by omega
      have hip : i < (plusP k l).length := by omega
      have gk : atI (k.map V.int) ((0 : Int) + (i : Int)) = some (.int k[i]) := by
        rw [Int.zero_add]
        exact atI_nat (by rw [List.getElem?_map, List.getElem?_eq_getElem hi]; rfl)
      have gl : atI (l.map V.int) ((0 : Int) + (i : Int)) = some (.int l[i]) := by
        rw [Int.zero_add]
        exact atI_nat (by rw [List.getElem?_map, List.getElem?_eq_getElem hil]; rfl)
      refine ⟨rfl, tYes_of ?_⟩
      refine ⟨_, rfl, _, rfl, a, _, _, _, rfl, rfl, same_t sm hk, gk, _, rfl, _, rfl, b, _, _, _, rfl, rfl, same_t sm hl, gl, _, _, rfl, rfl, _, hp, ?_, same_mut sm np, ?_⟩
      · rw [List.length_map, List.length_take]
        exact small1000 (by omega)
      · rw [upd_same, take_map_succ V.int hip, plusP_get hip hi hil]
    · rintro H2 ⟨sm, hp⟩
      rw [← hpl, List.take_length] at hp
      exact ⟨p, _, rfl, .inl ⟨.inl (.inl hp), fun t nt => q t _ (sm.trans (same_upd nt)) upd_same⟩⟩
def spMoved (K : PySem.W.Frag) : Sp := fun vs H Q _ => ∃ (a b : Addr) (xs : List V) (es : List Ent) (l : Pl), vs = [.ref a, .ref b] ∧ InEnts K H a xs es ∧ SqT K H b (l.map V.int) ∧ (∀ e ∈ es, e.1.length ≤ l.length) ∧ l.length ≤ 1000 ∧
  ∀ p ws H', Same H H' → H p = none → H' p = some (.lst ws) → Ents H' ws (movL es l) → Q (.ref p) H'
theorem c__law_moved {f : Addr} {fd : FuncData} (D : C8.Def K mg "_law_moved" s__law_moved f fd) (b : Binds K fd ["_law_row_here", "_law_by"] []) (T : Bi mg) (c__law_plus : C8.Cal P w K mg base 1 "_law_plus" (spPlus K) []) : C8.Cal P w K mg base 2 "_law_moved" (spMoved K) [] := by
  refine C8.cal0 D b .nil sc__law_moved (fun vs H Q E h => ?_) (fun cdv A outer s H vs Q E hr h => ?_)
  · obtain ⟨a, b, xs, es, l, rfl, _⟩ := h
    rfl
  · obtain ⟨a, b, xs, es, l, rfl, hE, hl, hle, hz, q⟩ := h
    refine ⟨_, (pss_one (ps_ret (pe_lc (own := [("_law_entry", 2)]) (g := (gName 2)) (tt := tYes) rfl sc__law_moved.nd (pi_list (pv 0)) (blkOk_by (N := ["_law_row_here", "_law_by", "_law_entry"]) (sc := C8.fnScope s__law_moved) (by decide +kernel)) (fun _ _ _ _ _ => (pg_name (i := 2) sc__law_moved.nd rfl (Or.inl rfl))) (fun _ _ _ _ _ => pts_nil) (fun _ _ _ _ _ => (pe_tup (pa_cons (C8.pe_c c__law_plus hr (by decide) (by rfl) (pa_cons (pe_ix (show IxR _ (rIxT K) from ix_tup) (pv 2) pe_int (fun _ _ => rfl)) (pa_cons (pv 1) pa_nil))) (pa_cons (pe_ix (show IxR _ (rIxT K) from ix_tup) (pv 2) pe_int (fun _ _ => rfl)) pa_nil))))))), ?_⟩
    have hx := hE.e.len
    have hez := hE.z
    refine ⟨_, rfl, a, rfl, ⟨_, hE.l⟩, fun p np => ?_⟩
    refine lc_list (K := K) (xs := xs) (fun i H2 => Same H H2 ∧ ∃ ws, H2 p = some (.lst ws) ∧ Ents H2 ws (movL (es.take i) l)) ?_ ?_ ?_ ?_
    · exact ⟨same_upd np, [], upd_same, .nil⟩
    · rintro i H2 _ ⟨sm, _⟩
      exact sm.seq hE.l
    · rintro i x H2 hxi ⟨sm, ws, hp, hW⟩
      obtain ⟨e, he, t, pe, rfl, ht, hpe⟩ := (hE.e.mono sm).get hxi
      obtain ⟨hi, hee⟩ := List.getElem?_eq_some_iff.mp he
      have hm := List.mem_of_getElem? he
      have hT : SqT K H2 t [.ref pe, .int e.2] := .inl (.inl ht)
      refine ⟨rfl, tYes_of ?_⟩
      refine ⟨_, rfl, t, _, 0, _, rfl, rfl, hT, atI_nat (j := 0) rfl, _, rfl, pe, b, e.1, l, rfl, .inl (.inl hpe), same_t sm hl, hle e hm, Nat.le_trans (hle e hm) hz, fun p3 H3 sm3 hp3 => ?_⟩
      refine ⟨_, rfl, t, _, 1, _, rfl, rfl, same_t sm3 hT, atI_nat (j := 1) rfl, (by show 2 ≤ sizeLine; decide), fun t4 nt4 => ?_⟩
      have sm4 : Same H3 (upd H3 t4 (.tup [.ref p3, .int e.2])) := same_upd nt4
      have smA := sm3.trans sm4
      have hv : EntAt (upd H3 t4 (.tup [.ref p3, .int e.2])) (.ref t4) (plusP e.1 l, e.2) := ⟨t4, p3, rfl, upd_same, sm4 _ _ hp3⟩
      have hD := smA _ _ hp
      have hwl := hW.len
      refine ⟨ws, hD, ?_, same_mut (sm.trans smA) np, ws ++ [.ref t4], upd_same, ?_⟩
      · unfold movL at hwl
        rw [List.length_map, List.length_take] at hwl
        omega
      · have ht1 : es.take (i + 1) = es.take i ++ [e] := by
          rw [List.take_add_one, he]
          rfl
        unfold movL
        rw [ht1, List.map_append]
        exact ((hW.mono smA).app (.cons hv .nil)).updL hD
    · rintro H2 ⟨sm, ws, hp, hW⟩
      rw [hx, List.take_length] at hW
      exact q p ws H2 sm np hp hW
def spBox (K : PySem.W.Frag) : Sp := fun vs H Q _ => ∃ (k u : Nat), vs = [.int (k : Int), .int (u : Int)] ∧ k < 3 ∧ ∀ p (bs : List Nat) H', (bs = [u] ∨ bs = [u, 2] ∨ bs = [2, 2, 2]) → bs.length = k + 1 → Same H H' → H' p = some (.lst (bs.map fun (n : Nat) => V.int n)) → Q (.ref p) H'
theorem c__law_box {f : Addr} {fd : FuncData} (D : C8.Def K mg "_law_box" s__law_box f fd) (b : Binds K fd ["_law_kind", "_law_wide"] []) (T : Bi mg) : C8.Cal P w K mg base 1 "_law_box" (spBox K) [] := by
  refine C8.cal0 D b .nil sc__law_box (fun vs H Q E h => ?_) (fun cdv A outer s H vs Q E hr h => ?_)
  · obtain ⟨k, u, rfl, _⟩ := h
    rfl
  · obtain ⟨k, u, rfl, hk, q⟩ := h
    refine ⟨_, (pss_cons (ps_if (pt_cmpR op_eq (pv 0) pe_int (nomark _)) (pss_one (ps_ret (pe_lst (pa_cons (pv 1) pa_nil)))) pss_nil)
  (pss_cons (ps_if (pt_cmpR op_eq (pv 0) pe_int (nomark _)) (pss_one (ps_ret (pe_lst (pa_cons (pv 1) (pa_cons pe_int pa_nil))))) pss_nil)
  (pss_one (ps_ret (pe_lst (pa_cons pe_int (pa_cons pe_int (pa_cons pe_int pa_nil)))))))), ?_⟩
    refine ⟨_, rfl, rfl, _, rfl, iteD (fun h => ?_) (fun h => ?_)⟩
    · refine ⟨_, rfl, (by show 1 ≤ sizeLine; decide), fun p np => ?_⟩
      have h0 := V.int.inj h
      exact q p [u] _ (.inl rfl) (by show 1 = k + 1; omega) (same_upd np) upd_same
    · refine ⟨_, rfl, rfl, _, rfl, iteD (fun h2 => ?_) (fun h2 => ?_)⟩
      · refine ⟨_, rfl, (by show 2 ≤ sizeLine; decide), fun p np => ?_⟩
        have h0 := V.int.inj h2
        exact q p [u, 2] _ (.inr (.inl rfl)) (by show 2 = k + 1; omega) (same_upd np) upd_same
      · refine ⟨(by show 3 ≤ sizeLine; decide), fun p np => ?_⟩
        have h0 : k ≠ 0 := fun e => h (by rw [e]; rfl)
        have h1 : k ≠ 1 := fun e => h2 (by rw [e]; rfl)
        exact q p [2, 2, 2] _ (.inr (.inr rfl)) (by show 3 = k + 1; omega) (same_upd np) upd_same
end
end OT

set_option Elab.async false
set_option linter.all false
set_option maxRecDepth 100000
set_option maxHeartbeats 2000000
namespace OT
open PySem PySem.Spec PyProof.Rows L2
theorem InR.get {ds zs : List Int} (h : InR ds zs) {i : Nat} {z : Int} (hz : zs[i]? = some z) : ∃ d, (ds.map V.int)[i]? = some (.int d) ∧ 0 ≤ d ∧ d < z := by
  have hi : i < ds.length := by
    rw [h.1]
    exact (List.getElem?_eq_some_iff.mp hz).1
  have e : ds[i]? = some ds[i] := List.getElem?_eq_getElem hi
  exact ⟨ds[i], by rw [List.getElem?_map, e]; rfl, h.2 i _ z e hz⟩
theorem ixN_nat {n j : Nat} (h : j < n) : ixN n (j : Int) = some j := by
  unfold ixN
  rw [if_pos (by omega), if_pos (by omega), Int.toNat_natCast]
theorem mod_nat {n : Nat} (h : 0 < n) (z : Int) : ∃ j : Nat, z % (n : Int) = (j : Int) ∧ j < n := by
  have h0 : 0 ≤ z % (n : Int) := Int.emod_nonneg _ (by omega)
  have h1 : z % (n : Int) < n := Int.emod_lt_of_pos _ (by omega)
  obtain ⟨j, hj⟩ := Int.eq_ofNat_of_zero_le h0
  exact ⟨j, hj, by omega⟩
/-- how many places a box has -/
def pr (bs : List Nat) : Nat := bs.foldl (· * ·) 1
theorem pr_snoc (bs : List Nat) (n : Nat) : pr (bs ++ [n]) = pr bs * n := by
  unfold pr
  rw [List.foldl_append]
  rfl
theorem pr_take {bs : List Nat} {i : Nat} (h : i < bs.length) : pr (bs.take (i + 1)) = pr (bs.take i) * bs[i] := by
  rw [List.take_add_one, List.getElem?_eq_getElem h]
  exact pr_snoc _ _
structure PlaceN (W n : Nat) (ks : List Pl) : Prop where
  l : ∀ k ∈ ks, k.length = n
  c : ∀ k ∈ ks, ∀ x ∈ k, 0 ≤ x ∧ x < (W : Int)
theorem PlaceN.push {W n : Nat} {ks : List Pl} {k : Pl} {m : Nat} (h : PlaceN W (n + 1) ks) (hl : k.length = n) (hc : ∀ x ∈ k, 0 ≤ x ∧ x < (W : Int)) (hm : m < W) : PlaceN W (n + 1) (ks ++ [k ++ [(m : Int)]]) := by
  constructor
  · intro y hy
    rcases List.mem_append.mp hy with hy | hy
    · exact h.l y hy
    · rw [List.mem_singleton.mp hy, List.length_append, hl]
      rfl
  · intro y hy x hx
    rcases List.mem_append.mp hy with hy | hy
    · exact h.c y hy x hx
    · rw [List.mem_singleton.mp hy] at hx
      rcases List.mem_append.mp hx with hx | hx
      · exact hc x hx
      · rw [List.mem_singleton.mp hx]
        omega
section
variable {P : Program} {w : World} {K : PySem.W.Frag} {mg : Str → Option Value} {base : Heap}
/-- a box that is small -/
structure BoxOk (W : Nat) (bs : List Nat) : Prop where
  n : bs.length ≤ 3
  w : ∀ n ∈ bs, n ≤ W
  p : ∀ i, pr (bs.take i) ≤ 64000
def spPlaces (K : PySem.W.Frag) : Sp := fun vs H Q _ => ∃ (b : Addr) (bs : List Nat) (W : Nat), vs = [.ref b] ∧ SqL K H b (bs.map fun (n : Nat) => V.int n) ∧ BoxOk W bs ∧ W ≤ 1000 ∧
  ∀ p ws ks H', Same H H' → H' p = some (.lst ws) → Pls H' ws ks → ks.length = pr bs → PlaceN W bs.length ks → Q (.ref p) H'
theorem c__law_places {f : Addr} {fd : FuncData} (D : C8.Def K mg "_law_places" s__law_places f fd) (b : Binds K fd ["_law_box_here"] []) (T : Bi mg) : C8.Cal P w K mg base 1 "_law_places" (spPlaces K) [] := by
  refine C8.cal0 D b .nil sc__law_places (fun vs H Q E h => ?_) (fun cdv A outer s H vs Q E hr h => ?_)
  · obtain ⟨b, bs, W, rfl, _⟩ := h
    rfl
  · obtain ⟨b, bs, W, rfl, hB, ok, hW0, q⟩ := h
    refine ⟨_, (pss_cons (ps_set (i := 1) sc__law_places.nd rfl (Or.inl rfl) (pe_lst (pa_cons (pe_tup pa_nil) pa_nil)))
  (pss_cons (ps_for PassesOwn.never rfl (pi_list (pv 0)) (pg_name (i := 2) sc__law_places.nd rfl (Or.inl rfl)) (pss_cons (ps_set (i := 3) sc__law_places.nd rfl (Or.inl rfl) (pe_lst pa_nil))
  (pss_cons (ps_for PassesOwn.never rfl (pi_list (pe_callTy call_list_of (by rfl) T.n_list OT.b_list (pa_cons (pv 1) pa_nil))) (pg_name (i := 4) sc__law_places.nd rfl (Or.inl rfl)) (pss_one (ps_for PassesOwn.never rfl (pi_range1 rfl T.n_range (pa_cons (pv 2) pa_nil)) (pg_name (i := 5) sc__law_places.nd rfl (Or.inl rfl)) (pss_one (ps_expr (pe_bm PySem.F.plainAttrs_list PySem.F.slot_list_append PySem.F.type_list_append mt_append (pv 3) (pa_cons (pe_op op_catA (pv 4) (pe_tup (pa_cons (pv 5) pa_nil))) pa_nil)))))))
  (pss_one (ps_set (i := 1) sc__law_places.nd rfl (Or.inl rfl) (pv 3))))))
  (pss_one (ps_ret (pv 1))))), ?_⟩
    refine ⟨(by show 0 ≤ sizeLine; decide), fun t0 nt0 => ⟨(by show 1 ≤ sizeLine; decide), fun p0 np0 => ?_⟩⟩
    have s0 : Same H (upd H t0 (.tup [])) := same_upd nt0
    have s1 : Same (upd H t0 (.tup [])) (upd (upd H t0 (.tup [])) p0 (.lst [.ref t0])) := same_upd np0
    refine ⟨_, rfl, b, rfl, ⟨_, (s0.trans s1).seq hB⟩, ?_⟩
    refine for_list (K := K) (xs := bs.map fun (n : Nat) => V.int n) (fun i σ H2 => ∃ (p : Addr) (ws : List V) (ks : List Pl) (y2 y3 y4 y5 : Option V), σ = [some (.ref b), some (.ref p), y2, y3, y4, y5] ∧ Same H H2 ∧ H2 p = some (.lst ws) ∧ Pls H2 ws ks ∧ ks.length = pr (bs.take i) ∧ PlaceN W i ks) ?_ ?_ ?_ ?_
    · refine ⟨p0, _, [[]], none, none, none, none, rfl, s0.trans s1, upd_same, .cons (s1 _ _ upd_same) .nil, rfl, ⟨fun k hk => ?_, fun k hk x hx => ?_⟩⟩
      · rw [List.mem_singleton.mp hk]
        rfl
      · rw [List.mem_singleton.mp hk] at hx
        cases hx
    · rintro i σ H2 _ ⟨_, _, _, _, _, _, _, _, sm, _⟩
      exact sm.seq hB
    · rintro i x σ H2 hx ⟨p, ws, ks, y2, y3, y4, y5, rfl, sm, hp, hW, hkl, hN⟩
      obtain ⟨hi, rfl⟩ := getm hx
      have hwi := ok.w _ (List.getElem_mem hi)
      have hpi := ok.p i
      have hpi1 := ok.p (i + 1)
      rw [pr_take hi] at hpi1
      generalize hbn : bs[i] = n at hwi hpi1 ⊢
      rw [← hkl] at hpi hpi1
      have hwl := hW.len
      refine ⟨Nat.zero_le _, fun D nD => ?_⟩
      have s2 : Same H2 (upd H2 D (.lst [])) := same_upd nD
      refine ⟨_, rfl, p, _, rfl, .inl (.inl (.inl (s2 _ _ hp))), fun l nl => ?_⟩
      have s3 : Same (upd H2 D (.lst [])) (upd (upd H2 D (.lst [])) l (.lst ws)) := same_upd nl
      refine ⟨l, rfl, ⟨_, .inl (.inl upd_same)⟩, ?_⟩
      have nDl : D ≠ l := ne_of_none upd_same nl
      refine for_list (K := K) (a := l) (xs := ws) (fun j σ H3 => ∃ (us : List V) (ls : List Pl) (z4 z5 : Option V), σ = [some (.ref b), some (.ref p), some (.int (n : Int)), some (.ref D), z4, z5] ∧ Same H2 H3 ∧ H3 l = some (.lst ws) ∧ H3 D = some (.lst us) ∧ Pls H3 us ls ∧ ls.length = j * n ∧ PlaceN W (i + 1) ls) ?_ ?_ ?_ ?_
      · exact ⟨[], [], y4, y5, rfl, s2.trans s3, upd_same, s3 _ _ upd_same, .nil, by rw [Nat.zero_mul]; rfl, ⟨fun k hk => (by cases hk), fun k hk => (by cases hk)⟩⟩
      · rintro j σ H3 _ ⟨_, _, _, _, _, _, hl, _⟩
        exact .inl (.inl hl)
      · rintro j x σ H3 hxj ⟨us, ls, z4, z5, rfl, sm3, hl, hD, hU, hll, hN3⟩
        obtain ⟨a, k, rfl, hkk, hak⟩ := (hW.mono sm3).get hxj
        have hj := (List.getElem?_eq_some_iff.mp hkk).1
        have hkm := List.mem_of_getElem? hkk
        have hjn : (j + 1) * n ≤ ks.length * n := Nat.mul_le_mul_right _ hj
        rw [Nat.succ_mul] at hjn
        refine ⟨_, rfl, _, rfl, by omega, b62 (by omega), ?_⟩
        rw [Int.toNat_natCast]
        refine for_range (lo := 0) (n := n) (fun m σ H4 => ∃ (us : List V) (ls : List Pl) (z5 : Option V), σ = [some (.ref b), some (.ref p), some (.int (n : Int)), some (.ref D), some (.ref a), z5] ∧ Same H2 H4 ∧ H4 l = some (.lst ws) ∧ H4 D = some (.lst us) ∧ Pls H4 us ls ∧ ls.length = j * n + m ∧ PlaceN W (i + 1) ls) ⟨us, ls, z5, rfl, sm3, hl, hD, hU, hll, hN3⟩ ?_ ?_
        · rintro m σ H4 hm ⟨us, ls, z5, rfl, sm4, hl4, hD4, hU4, hll4, hN4⟩
          have hak4 : H4 a = some (.tup (k.map V.int)) := by
            obtain ⟨a2, k2, e1, e2, e3⟩ := (hW.mono sm4).get hxj
            cases e1
            rw [hkk] at e2
            cases e2
            exact e3
          have hul := hU4.len
          have nl4 : ∀ {o : HO}, upd H4 D o l = H4 l := fun {o} => upd_ne (Ne.symm nDl)
          refine ⟨_, rfl, .inl ⟨rfl, _, .inl (.inl hD4)⟩, _, rfl, _, rfl, (by show 1 ≤ sizeLine; decide), fun t nt => ?_⟩
          have sm5 : Same H4 (upd H4 t (.tup [.int ((0 : Int) + (m : Int))])) := same_upd nt
          have hN5 := hN4.push (hN.l k hkm) (hN.c k hkm) (show m < W by omega)
          have hlen5 : (ls ++ [k ++ [(m : Int)]]).length = j * n + (m + 1) := by
            rw [List.length_append, hll4]
            rfl
          refine ⟨a, t, _, _, rfl, rfl, .inl (.inl (sm5 _ _ hak4)), .inl (.inl upd_same), ?_, fun h0 => ?_, fun _ h => (by cases h), fun _ _ u nu => ?_⟩
          · rw [List.length_map, hN.l k hkm]
            exact Nat.le_of_lt (small1000 (by show i + 1 ≤ 1000; have := ok.n; omega))
          · have hk0 : k = [] := List.map_eq_nil_iff.mp h0
            have hD5 := sm5 _ _ hD4
            refine ⟨D, us, _, rfl, rfl, hD5, small100k (by omega), ?_⟩
            refine ⟨us ++ [.ref t], ls ++ [k ++ [(m : Int)]], _, rfl, same_mut (sm4.trans sm5) nD, ?_, upd_same, ((hU4.mono sm5).app (.cons ?_ .nil)).updL hD5, hlen5, hN5⟩
            · rw [upd_ne (Ne.symm nDl)]
              exact sm5 _ _ hl4
            · rw [upd_same, hk0, Int.zero_add]
              rfl
          · have sm6 : Same (upd H4 t (.tup [.int ((0 : Int) + (m : Int))])) (upd (upd H4 t (.tup [.int ((0 : Int) + (m : Int))])) u (.tup (k.map V.int ++ [.int ((0 : Int) + (m : Int))]))) := same_upd nu
            have sm7 := sm5.trans sm6
            have hD5 := sm7 _ _ hD4
            refine ⟨D, us, _, rfl, rfl, hD5, small100k (by omega), ?_⟩
            refine ⟨us ++ [.ref u], ls ++ [k ++ [(m : Int)]], _, rfl, same_mut (sm4.trans sm7) nD, ?_, upd_same, ((hU4.mono sm7).app (.cons ?_ .nil)).updL hD5, hlen5, hN5⟩
            · rw [upd_ne (Ne.symm nDl)]
              exact sm7 _ _ hl4
            · rw [upd_same, List.map_append, Int.zero_add]
              rfl
        · rintro σ H4 ⟨us, ls, z5, rfl, sm4, hl4, hD4, hU4, hll4, hN4⟩
          exact ⟨us, ls, _, _, rfl, sm4, hl4, hD4, hU4, by rw [hll4, Nat.succ_mul], hN4⟩
      · rintro σ H3 ⟨us, ls, z4, z5, rfl, sm3, hl, hD, hU, hll, hN3⟩
        refine ⟨_, rfl, D, us, ls, _, _, _, _, rfl, sm.trans sm3, hD, hU, ?_, hN3⟩
        rw [hll, hwl, hkl, pr_take hi, hbn]
    · rintro σ H2 ⟨p, ws, ks, y2, y3, y4, y5, rfl, sm, hp, hW, hkl, hN⟩
      rw [List.length_map] at hkl hN
      rw [List.take_length] at hkl
      exact ⟨_, rfl, q p ws ks H2 sm hp hW hkl hN⟩
end
end OT

set_option Elab.async false
set_option linter.all false
set_option maxRecDepth 100000
set_option maxHeartbeats 2000000
namespace OT
open PySem PySem.Spec PyProof.Rows L2
/-- a row that is drawn: at most m places of n coordinates -/
structure DrawnR (n m c u : Nat) (r : List Ent) : Prop where
  v : Valid r
  m : r.length ≤ m
  n : ∀ e ∈ r, e.1.length = n
  c : ∀ e ∈ r, ∀ x ∈ e.1, x.natAbs ≤ c
  u : ∀ e ∈ r, e.2.natAbs ≤ u
section
variable {P : Program} {w : World} {K : PySem.W.Frag} {mg : Str → Option Value} {base : Heap}
def spDrawn (K : PySem.W.Frag) : Sp := fun vs H Q _ => ∃ (c : Int) (b : Addr) (bs : List Nat) (rc mv W : Nat), vs = [.int c, .ref b, .int (rc : Int), .int (mv : Int)] ∧ SqL K H b (bs.map fun (n : Nat) => V.int n) ∧ BoxOk W bs ∧ W ≤ 1000 ∧ 1 ≤ bs.length ∧ pr bs ≤ 900 ∧ rc ≤ 1000 ∧ mv ≤ 100000 ∧
  ∀ p ws r H', Same H H' → H p = none → H' p = some (.lst ws) → Ents H' ws r → DrawnR bs.length (pr bs) (W + mv) (pr bs * rc) r → Q (.ref p) H'
theorem rep_get {n : Nat} {z : Int} {i : Nat} (h : i < n) (ys : List Int) : (List.replicate n z ++ ys)[i]? = some z := by
  rw [List.getElem?_append_left (by rw [List.length_replicate]; exact h), List.getElem?_replicate, if_pos h]
theorem rep_get2 {n m : Nat} {y z : Int} {i : Nat} (h : i < m) : (List.replicate n y ++ List.replicate m z)[n + i]? = some z := by
  rw [List.getElem?_append_right (by rw [List.length_replicate]; exact Nat.le_add_right _ _), List.length_replicate, Nat.add_sub_cancel_left, List.getElem?_replicate, if_pos h]
theorem c__law_drawn {f : Addr} {fd : FuncData} (D : C8.Def K mg "_law_drawn" s__law_drawn f fd) (b : Binds K fd ["_law_cell_here", "_law_box_here", "_law_reach", "_law_moves"] []) (T : Bi mg) (c__law_places : C8.Cal P w K mg base 1 "_law_places" (spPlaces K) []) (c__law_draws : C8.Cal P w K mg base 1 "_law_draws" (spDraws K) [])
    (c__law_row : C8.Cal P w K mg base 1 "_law_row" (spGather K) []) (c__law_moved : C8.Cal P w K mg base 2 "_law_moved" (spMoved K) []) : C8.Cal P w K mg base 3 "_law_drawn" (spDrawn K) [] := by
  refine C8.cal0 D b .nil sc__law_drawn (fun vs H Q E h => ?_) (fun cdv A outer s H vs Q E hr h => ?_)
  · obtain ⟨c, b, bs, rc, mv, W, rfl, _⟩ := h
    rfl
  · obtain ⟨c, b, bs, rc, mv, W, rfl, hB, ok, hW0, hb1, hpr, hrc, hmv, q⟩ := h
    refine ⟨_, (pss_cons (ps_set (i := 4) sc__law_drawn.nd rfl (Or.inr rfl) (C8.pe_c c__law_places hr (by decide) (by rfl) (pa_cons (pv 1) pa_nil)))
  (pss_cons (ps_set (i := 5) sc__law_drawn.nd rfl (Or.inr rfl) (C8.pe_c c__law_draws hr (by decide) (by rfl) (pa_cons (pv 0) (pa_cons (pe_op op_cat (pe_lc (own := [("_law_k", 7)]) (g := (gName 7)) (tt := tYes) rfl sc__law_drawn.nd (pi_list (pv 4)) (blkOk_by (N := ["_law_cell_here", "_law_box_here", "_law_reach", "_law_moves", "_law_places_here", "_law_draws_here", "_law_by", "_law_k"]) (sc := C8.fnScope s__law_drawn) (by decide +kernel)) (fun _ _ _ _ _ => (pg_name (i := 7) sc__law_drawn.nd rfl (Or.inl rfl))) (fun _ _ _ _ _ => pts_nil) (fun _ _ _ _ _ => (pe_op op_add (pe_op op_mul pe_int (pv 2)) pe_int))) (pe_lc (own := [("_law_k", 7)]) (g := (gName 7)) (tt := tYes) rfl sc__law_drawn.nd (pi_list (pv 1)) (blkOk_by (N := ["_law_cell_here", "_law_box_here", "_law_reach", "_law_moves", "_law_places_here", "_law_draws_here", "_law_by", "_law_k"]) (sc := C8.fnScope s__law_drawn) (by decide +kernel)) (fun _ _ _ _ _ => (pg_name (i := 7) sc__law_drawn.nd rfl (Or.inl rfl))) (fun _ _ _ _ _ => pts_nil) (fun _ _ _ _ _ => (pe_op op_add (pe_op op_mul pe_int (pv 3)) pe_int)))) pa_nil))))
  (pss_cons (ps_set (i := 6) sc__law_drawn.nd rfl (Or.inl rfl) (pe_callTy call_tuple_of (by rfl) T.n_tuple OT.b_tuple (pa_cons (pe_lc (own := [("_law_k", 7)]) (g := (gName 7)) (tt := tYes) rfl sc__law_drawn.nd (pi_range1 rfl T.n_range (pa_cons (pe_callB call_len_seq (by rfl) T.n_len OT.b_len (pa_cons (pv 1) pa_nil)) pa_nil)) (blkOk_by (N := ["_law_cell_here", "_law_box_here", "_law_reach", "_law_moves", "_law_places_here", "_law_draws_here", "_law_by", "_law_k"]) (sc := C8.fnScope s__law_drawn) (by decide +kernel)) (fun _ _ _ _ _ => (pg_name (i := 7) sc__law_drawn.nd rfl (Or.inl rfl))) (fun _ _ _ _ _ => pts_nil) (fun _ _ _ _ _ => (pe_op op_sub (pe_ix (show IxR _ (rIxL K) from ix_list) (pv 5) (pe_op op_add (pe_callB (show CallR _ _ (Evl.rLenS K) from call_len_seq) (by rfl) T.n_len OT.b_len (pa_cons (pv 4) pa_nil)) (pv 7)) (fun _ _ => rfl)) (pv 3)))) pa_nil)))
  (pss_one (ps_ret (C8.pe_c c__law_moved hr (by decide) (by rfl) (pa_cons (C8.pe_c c__law_row hr (by decide) (by rfl) (pa_cons (pe_lc (own := [("_law_k", 7)]) (g := (gName 7)) (tt := tYes) rfl sc__law_drawn.nd (pi_range1 rfl T.n_range (pa_cons (pe_callB call_len_seq (by rfl) T.n_len OT.b_len (pa_cons (pv 4) pa_nil)) pa_nil)) (blkOk_by (N := ["_law_cell_here", "_law_box_here", "_law_reach", "_law_moves", "_law_places_here", "_law_draws_here", "_law_by", "_law_k"]) (sc := C8.fnScope s__law_drawn) (by decide +kernel)) (fun _ _ _ _ _ => (pg_name (i := 7) sc__law_drawn.nd rfl (Or.inl rfl))) (fun _ _ _ _ _ => pts_nil) (fun _ _ _ _ _ => (pe_tup (pa_cons (pe_ix (show IxR _ (rIxL K) from ix_list) (pv 4) (pv 7) (fun _ _ => rfl)) (pa_cons (pe_op op_sub (pe_ix (show IxR _ (rIxL K) from ix_list) (pv 5) (pv 7) (fun _ _ => rfl)) (pv 2)) pa_nil))))) pa_nil)) (pa_cons (pv 6) pa_nil)))))))), ?_⟩
    refine ⟨_, rfl, b, bs, W, rfl, hB, ok, hW0, fun p ws ks H1 sm1 hp hW hkl hN => ?_⟩
    have hS : SqL K H1 p ws := .inl (.inl hp)
    have hwl := hW.len
    have hbn := ok.n
    refine ⟨_, rfl, _, rfl, p, rfl, ⟨_, hS⟩, fun D1 nD1 => ?_⟩
    refine lc_list (K := K) (xs := ws) (fun i H2 => Same H1 H2 ∧ H2 D1 = some (.lst (List.replicate i (V.int (2 * (rc : Int) + 1))))) ⟨same_upd nD1, upd_same⟩ ?_ ?_ ?_
    · rintro i H2 _ ⟨sm, _⟩
      exact sm.seq hS
    · rintro i x H2 hx ⟨sm, hD⟩
      have hi := (List.getElem?_eq_some_iff.mp hx).1
      refine ⟨rfl, tYes_of ?_⟩
      refine ⟨_, rfl, _, _, rfl, rfl, .inl ⟨by decide, by decide⟩, _, _, rfl, rfl, _, hD, ?_, same_mut sm nD1, ?_⟩
      · rw [List.length_replicate]
        exact small1000 (by omega)
      · rw [upd_same, List.replicate_succ']
    rintro H2 ⟨sm2, hD1⟩
    have sA := sm1.trans sm2
    refine ⟨_, rfl, b, rfl, ⟨_, sA.seq hB⟩, fun D2 nD2 => ?_⟩
    refine lc_list (K := K) (xs := bs.map fun (n : Nat) => V.int n) (fun i H3 => Same H2 H3 ∧ H3 D2 = some (.lst (List.replicate i (V.int (2 * (mv : Int) + 1))))) ⟨same_upd nD2, upd_same⟩ ?_ ?_ ?_
    · rintro i H3 _ ⟨sm, _⟩
      exact (sA.trans sm).seq hB
    · rintro i x H3 hx ⟨sm, hD⟩
      have hi := (List.getElem?_eq_some_iff.mp hx).1
      rw [List.length_map] at hi
      refine ⟨rfl, tYes_of ?_⟩
      refine ⟨_, rfl, _, _, rfl, rfl, .inl ⟨by decide, by decide⟩, _, _, rfl, rfl, _, hD, ?_, same_mut sm nD2, ?_⟩
      · rw [List.length_replicate]
        exact small1000 (by omega)
      · rw [upd_same, List.replicate_succ']
    rintro H3 ⟨sm3, hD2⟩
    rw [List.length_map] at hD2
    refine ⟨D1, D2, _, _, rfl, rfl, sm3 _ _ hD1, hD2, ?_, fun p3 np3 => ?_⟩
    · rw [List.length_replicate, List.length_replicate]
      exact Nat.le_of_lt (small1000 (by omega))
    let zs : List Int := List.replicate ws.length (2 * (rc : Int) + 1) ++ List.replicate bs.length (2 * (mv : Int) + 1)
    have hzl : zs.length = ws.length + bs.length := by
      show (_ ++ _ : List Int).length = _
      rw [List.length_append, List.length_replicate, List.length_replicate]
    have hzm : zs.map V.int = List.replicate ws.length (V.int (2 * (rc : Int) + 1)) ++ List.replicate bs.length (V.int (2 * (mv : Int) + 1)) := by
      show (_ ++ _ : List Int).map V.int = _
      rw [List.map_append, List.map_replicate, List.map_replicate]
    have sB := (sA.trans sm3).trans (same_upd (o := .lst (List.replicate ws.length (V.int (2 * (rc : Int) + 1)) ++ List.replicate bs.length (V.int (2 * (mv : Int) + 1)))) np3)
    have sB1 := (sm2.trans sm3).trans (same_upd (o := .lst (List.replicate ws.length (V.int (2 * (rc : Int) + 1)) ++ List.replicate bs.length (V.int (2 * (mv : Int) + 1)))) np3)
    refine ⟨p3, zs, c, rfl, .inl (.inl ?_), by omega, fun z hz => ?_, fun ds H4 p4 hin sm4 np4 hp4 => ?_⟩
    · rw [upd_same, hzm]
    · rcases List.mem_append.mp hz with hz | hz
      · rw [(List.mem_replicate.mp hz).2]
        omega
      · rw [(List.mem_replicate.mp hz).2]
        omega
    have sC := sB.trans sm4
    have sC1 := sB1.trans sm4
    have L4 : SqL K H4 p4 (ds.map V.int) := .inl (.inl hp4)
    refine ⟨_, rfl, b, _, rfl, .inl (sC.seq hB), _, rfl, by omega, b62 (by rw [List.length_map]; omega), fun p5 np5 => ?_⟩
    rw [List.length_map, Int.toNat_natCast]
    refine lc_range (lo := 0) (n := bs.length) (fun i H5 => ∃ ys : List Int, ys.length = i ∧ (∀ y ∈ ys, y.natAbs ≤ mv) ∧ Same H4 H5 ∧ H5 p5 = some (.lst (ys.map V.int))) ⟨[], rfl, fun y hy => (by cases hy), same_upd np5, upd_same⟩ ?_ ?_
    · rintro i H5 hi ⟨ys, hyl, hyb, sm5, hp5⟩
      obtain ⟨d, gd, gda, gdb⟩ := hin.get (i := ws.length + i) (rep_get2 hi)
      refine ⟨rfl, tYes_of ?_⟩
      have hix : atI (ds.map V.int) (((ws.length : Nat) : Int) + ((0 : Int) + (i : Int))) = some (.int d) := by
        rw [show ((ws.length : Nat) : Int) + ((0 : Int) + (i : Int)) = ((ws.length + i : Nat) : Int) by omega]
        exact atI_nat gd
      refine ⟨_, rfl, _, rfl, p, _, rfl, .inl ((sC1.trans sm5).seq hS), _, rfl, _, _, rfl, rfl, p4, _, _, _, rfl, rfl, sm5.seq L4, hix, ?_⟩
      refine ⟨_, rfl, _, _, rfl, rfl, ?_⟩
      refine ⟨_, hp5, ?_, ys ++ [d - (mv : Int)], by rw [List.length_append, hyl]; rfl, fun y hy => ?_, same_mut sm5 np5, ?_⟩
      · rw [List.length_map]
        exact small1000 (by omega)
      · rcases List.mem_append.mp hy with hy | hy
        · exact hyb y hy
        · rw [List.mem_singleton.mp hy]
          omega
      · rw [upd_same, List.map_append]
        rfl
    rintro H5 ⟨ys, hyl, hyb, sm5, hp5⟩
    refine ⟨p5, _, rfl, .inl ⟨.inl (.inl hp5), fun bt nbt => ?_⟩⟩
    have sm6 := sm5.trans (same_upd (o := .tup (ys.map V.int)) nbt)
    have hbt : (upd H5 bt (.tup (ys.map V.int))) bt = some (.tup (ys.map V.int)) := upd_same
    generalize upd H5 bt (.tup (ys.map V.int)) = H6 at sm6 hbt ⊢
    have sD := sC.trans sm6
    have sD1 := sC1.trans sm6
    refine ⟨_, rfl, p, _, rfl, .inl (sD1.seq hS), _, rfl, by omega, b62 (by omega), fun p7 np7 => ?_⟩
    rw [Int.toNat_natCast]
    refine lc_range (lo := 0) (n := ws.length) (fun i H7 => ∃ (us : List V) (es : List Ent), es.length = i ∧ Same H6 H7 ∧ H7 p7 = some (.lst us) ∧ Ents H7 us es ∧ (∀ e ∈ es, e.1 ∈ ks) ∧ ∀ e ∈ es, e.2.natAbs ≤ rc) ⟨[], [], rfl, same_upd np7, upd_same, .nil, fun e he => (by cases he), fun e he => (by cases he)⟩ ?_ ?_
    · rintro i H7 hi ⟨us, es, hel, sm7, hp7, hU, hek, hen⟩
      obtain ⟨d, gd, gda, gdb⟩ := hin.get (i := i) (rep_get hi _)
      have hWs := hW.mono (sD1.trans sm7)
      obtain ⟨a, k, ea, hk, hak⟩ := hWs.get (List.getElem?_eq_getElem hi)
      have hix : atI ws ((0 : Int) + (i : Int)) = some (.ref a) := by
        rw [Int.zero_add, ← ea]
        exact atI_nat (List.getElem?_eq_getElem hi)
      have hid : atI (ds.map V.int) ((0 : Int) + (i : Int)) = some (.int d) := by
        rw [Int.zero_add]
        exact atI_nat gd
      refine ⟨rfl, tYes_of ?_⟩
      refine ⟨_, rfl, _, rfl, p, _, _, _, rfl, rfl, (sD1.trans sm7).seq hS, hix, _, rfl, _, rfl, p4, _, _, _, rfl, rfl, (sm6.trans sm7).seq L4, hid, _, rfl, _, _, rfl, rfl, (by show 2 ≤ sizeLine; decide), fun t nt => ?_⟩
      have smt : Same H7 (upd H7 t (.tup [.ref a, .int (d - (rc : Int))])) := same_upd nt
      have hv : EntAt (upd H7 t (.tup [.ref a, .int (d - (rc : Int))])) (.ref t) (k, d - (rc : Int)) := ⟨t, a, rfl, upd_same, smt _ _ hak⟩
      have hul := hU.len
      refine ⟨us, smt _ _ hp7, small1000 (by omega), us ++ [.ref t], es ++ [(k, d - (rc : Int))], by rw [List.length_append, hel]; rfl, same_mut (sm7.trans smt) np7, upd_same, ((hU.mono smt).app (.cons hv .nil)).updL (smt _ _ hp7), fun e he => ?_, fun e he => ?_⟩
      · rcases List.mem_append.mp he with he | he
        · exact hek e he
        · rw [List.mem_singleton.mp he]
          exact List.mem_of_getElem? hk
      · rcases List.mem_append.mp he with he | he
        · exact hen e he
        · rw [List.mem_singleton.mp he]
          show (d - (rc : Int)).natAbs ≤ rc
          omega
    rintro H7 ⟨us, es, hel, sm7, hp7, hU, hek, hen⟩
    have hel2 : es.length ≤ pr bs := by omega
    refine ⟨p7, us, es, rfl, ⟨.inl (.inl hp7), hU, small1000 (by omega)⟩, fun e he z => ?_, fun r p8 rws H8 hr sm8 np8 hp8 he8 => ?_⟩
    · have := hN.l e.1 (hek e he)
      rw [z] at this
      have h0 : (0 : Nat) = bs.length := this
      omega
    have hrl := hr.len
    have hrk : ∀ e ∈ r, e.1 ∈ ks := fun e he => by
      obtain ⟨x, hx, ex⟩ := hr.mem he
      rw [← ex]
      exact hek x hx
    have hrn := hr.bound hen
    have hle : ∀ e ∈ r, e.1.length ≤ ys.length := fun e he => by
      rw [hN.l _ (hrk e he), hyl]
      exact Nat.le_refl _
    refine ⟨_, rfl, p8, bt, rws, r, ys, rfl, ⟨.inl (.inl hp8), he8, small1000 (by omega)⟩, .inl (.inl ((sm7.trans sm8) _ _ hbt)), hle, by omega, fun p9 ws9 H9 sm9 np9 hp9 he9 => ?_⟩
    have sZ := sD.trans (sm7.trans sm8)
    refine q p9 ws9 (movL r ys) H9 (sZ.trans sm9) ?_ hp9 he9 ⟨movL_valid hr.v hle, ?_, fun e he => ?_, fun e he x hx => ?_, fun e he => ?_⟩
    · cases z : H p9 with
      | none => rfl
      | some o =>
        rw [sZ _ _ z] at np9
        cases np9
    · unfold movL
      rw [List.length_map]
      omega
    · obtain ⟨y, hy, rfl⟩ := List.mem_map.mp he
      show (plusP y.1 ys).length = _
      rw [plusP_len (hle y hy)]
      exact hN.l _ (hrk y hy)
    · obtain ⟨y, hy, rfl⟩ := List.mem_map.mp he
      obtain ⟨a, ha, b2, hb2, rfl⟩ := plusP_mem hx
      have h1 := hN.c _ (hrk y hy) a ha
      have h2 := hyb b2 hb2
      omega
    · obtain ⟨y, hy, rfl⟩ := List.mem_map.mp he
      exact Nat.le_trans (hrn y hy) (Nat.mul_le_mul_right _ hel2)
end
end OT

set_option Elab.async false
set_option linter.all false
set_option maxRecDepth 100000
set_option maxHeartbeats 2000000
namespace OT
open PySem PySem.Spec PyProof.Rows L2
def negP (k : Pl) : Pl := k.map fun x => -x
theorem negP_len (k : Pl) : (negP k).length = k.length := List.length_map _
def scaleL (es : List Ent) (f : Int) : List Ent := es.map fun e => (e.1, e.2 * f)
def mirL (es : List Ent) : List Ent := es.map fun e => (negP e.1, e.2)
section
variable {P : Program} {w : World} {K : PySem.W.Frag} {mg : Str → Option Value} {base : Heap}
def spBack (K : PySem.W.Frag) : Sp := fun vs H Q _ => ∃ (a : Addr) (ns : Pl), vs = [.ref a] ∧ SqT K H a (ns.map V.int) ∧ ns.length ≤ 1000 ∧ ∀ p H', Same H H' → H' p = some (.tup ((negP ns).map V.int)) → Q (.ref p) H'
theorem c__law_back {f : Addr} {fd : FuncData} (D : C8.Def K mg "_law_back" s__law_back f fd) (b : Binds K fd ["_law_place"] []) (T : Bi mg) : C8.Cal P w K mg base 1 "_law_back" (spBack K) [] := by
  refine C8.cal0 D b .nil sc__law_back (fun vs H Q E h => ?_) (fun cdv A outer s H vs Q E hr h => ?_)
  · obtain ⟨a, ns, rfl, _⟩ := h
    rfl
  · obtain ⟨a, ns, rfl, hS, hl, q⟩ := h
    refine ⟨_, (pss_one (ps_ret (pe_callTy call_tuple_of (by rfl) T.n_tuple OT.b_tuple (pa_cons (pe_lc (own := [("_law_x", 1)]) (g := (gName 1)) (tt := tYes) rfl sc__law_back.nd (pi_tup (pv 0)) (blkOk_by (N := ["_law_place", "_law_x"]) (sc := C8.fnScope s__law_back) (by decide +kernel)) (fun _ _ _ _ _ => (pg_name (i := 1) sc__law_back.nd rfl (Or.inl rfl))) (fun _ _ _ _ _ => pts_nil) (fun _ _ _ _ _ => (pe_un un_neg (pv 1)))) pa_nil)))), ?_⟩
    refine ⟨_, rfl, a, rfl, ⟨_, hS⟩, fun p np => ?_⟩
    refine lc_tup (K := K) (xs := ns.map V.int) (fun i H2 => Same H H2 ∧ H2 p = some (.lst ((ns.take i).map fun n => V.int (-n)))) ?_ ?_ ?_ ?_
    · exact ⟨same_upd np, upd_same⟩
    · rintro i H2 _ ⟨sm, _⟩
      exact same_t sm hS
    · rintro i x H2 hx ⟨sm, hp⟩
      obtain ⟨hi, rfl⟩ := getm hx
      refine ⟨rfl, tYes_of ?_⟩
      refine ⟨_, rfl, _, rfl, _, hp, ?_, same_mut sm np, ?_⟩
      · rw [List.length_map, List.length_take]
        exact small1000 (by omega)
      · rw [upd_same, take_map_succ (fun n => V.int (-n)) hi]
    · rintro H2 ⟨sm, hp⟩
      rw [List.length_map, List.take_length] at hp
      refine ⟨p, _, rfl, .inl ⟨.inl (.inl hp), fun l nl => ?_⟩⟩
      refine q l _ (sm.trans (same_upd nl)) ?_
      rw [upd_same]
      unfold negP
      rw [List.map_map]
      rfl
/-- a list of entries of places that are not empty -/
structure Lst (H : Hp) (a : Addr) (xs : List V) (es : List Ent) : Prop where
  l : H a = some (.lst xs)
  e : Ents H xs es
  z : es.length ≤ 1000
  p : ∀ e ∈ es, e.1 ≠ []
theorem Lst.mono {H H' : Hp} {a : Addr} {xs : List V} {es : List Ent} (s : Same H H') (h : Lst H a xs es) : Lst H' a xs es := ⟨s _ _ h.l, h.e.mono s, h.z, h.p⟩
theorem wantRow.mono {H H2 : Hp} {es : List Ent} {Q : VK} (sm : Same H H2) (q : wantRow H es Q) : wantRow H2 es Q := by
  intro r p ws H3 hr sm3 np hp he
  refine q r p ws H3 hr (sm.trans sm3) ?_ hp he
  cases z : H p with
  | none => rfl
  | some o =>
    rw [sm _ _ z] at np
    cases np
def spAdd : Sp := fun vs H Q _ => ∃ (a b : Addr) (xs ys : List V) (es fs : List Ent), vs = [.ref a, .ref b] ∧ Lst H a xs es ∧ Lst H b ys fs ∧ wantRow H (es ++ fs) Q
theorem c__law_add {f : Addr} {fd : FuncData} (D : C8.Def K mg "_law_add" s__law_add f fd) (b : Binds K fd ["_law_first", "_law_second"] []) (T : Bi mg) (c__law_row : C8.Cal P w K mg base 1 "_law_row" (spGather K) []) : C8.Cal P w K mg base 2 "_law_add" spAdd [] := by
  refine C8.cal0 D b .nil sc__law_add (fun vs H Q E h => ?_) (fun cdv A outer s H vs Q E hr h => ?_)
  · obtain ⟨a, b, xs, ys, es, fs, rfl, _⟩ := h
    rfl
  · obtain ⟨a, b, xs, ys, es, fs, rfl, hA, hB, q⟩ := h
    refine ⟨_, (pss_one (ps_ret (C8.pe_c c__law_row hr (by decide) (by rfl) (pa_cons (pe_op op_cat (pv 0) (pv 1)) pa_nil)))), ?_⟩
    have h1 := hA.e.len
    have h2 := hB.e.len
    have z1 := hA.z
    have z2 := hB.z
    refine ⟨_, rfl, _, rfl, a, b, _, _, rfl, rfl, hA.l, hB.l, Nat.le_of_lt (small100k (by omega)), fun p np => ?_⟩
    have s1 : Same H (upd H p (.lst (xs ++ ys))) := same_upd np
    refine ⟨p, xs ++ ys, es ++ fs, rfl, ⟨.inl (.inl upd_same), (hA.e.app hB.e).mono s1, by rw [List.length_append]; exact small100k (by omega)⟩, fun e he => ?_, q.mono s1⟩
    rcases List.mem_append.mp he with he | he
    · exact hA.p e he
    · exact hB.p e he
theorem take_snoc {es : List Ent} {i : Nat} {e : Ent} (h : es[i]? = some e) : es.take (i + 1) = es.take i ++ [e] := by
  rw [List.take_add_one, h]
  rfl
def spMir : Sp := fun vs H Q _ => ∃ (a : Addr) (xs : List V) (es : List Ent), vs = [.ref a] ∧ Lst H a xs es ∧ (∀ e ∈ es, e.1.length ≤ 1000) ∧ wantRow H (mirL es) Q
theorem c__law_mirror {f : Addr} {fd : FuncData} (D : C8.Def K mg "_law_mirror" s__law_mirror f fd) (b : Binds K fd ["_law_row_here"] []) (T : Bi mg) (c__law_row : C8.Cal P w K mg base 1 "_law_row" (spGather K) []) (c__law_back : C8.Cal P w K mg base 1 "_law_back" (spBack K) []) : C8.Cal P w K mg base 2 "_law_mirror" spMir [] := by
  refine C8.cal0 D b .nil sc__law_mirror (fun vs H Q E h => ?_) (fun cdv A outer s H vs Q E hr h => ?_)
  · obtain ⟨a, xs, es, rfl, _⟩ := h
    rfl
  · obtain ⟨a, xs, es, rfl, hA, hle, q⟩ := h
    refine ⟨_, (pss_one (ps_ret (C8.pe_c c__law_row hr (by decide) (by rfl) (pa_cons (pe_lc (own := [("_law_entry", 1)]) (g := (gName 1)) (tt := tYes) rfl sc__law_mirror.nd (pi_list (pv 0)) (blkOk_by (N := ["_law_row_here", "_law_entry"]) (sc := C8.fnScope s__law_mirror) (by decide +kernel)) (fun _ _ _ _ _ => (pg_name (i := 1) sc__law_mirror.nd rfl (Or.inl rfl))) (fun _ _ _ _ _ => pts_nil) (fun _ _ _ _ _ => (pe_tup (pa_cons (C8.pe_c c__law_back hr (by decide) (by rfl) (pa_cons (pe_ix (show IxR _ (rIxT K) from ix_tup) (pv 1) pe_int (fun _ _ => rfl)) pa_nil)) (pa_cons (pe_ix (show IxR _ (rIxT K) from ix_tup) (pv 1) pe_int (fun _ _ => rfl)) pa_nil))))) pa_nil)))), ?_⟩
    have hS : SqL K H a xs := .inl (.inl hA.l)
    have hx := hA.e.len
    have hz := hA.z
    refine ⟨_, rfl, a, rfl, ⟨_, hS⟩, fun p np => ?_⟩
    refine lc_list (K := K) (xs := xs) (fun i H2 => Same H H2 ∧ ∃ ws, H2 p = some (.lst ws) ∧ Ents H2 ws (mirL (es.take i))) ?_ ?_ ?_ ?_
    · exact ⟨same_upd np, [], upd_same, .nil⟩
    · rintro i H2 _ ⟨sm, _⟩
      exact sm.seq hS
    · rintro i x H2 hxi ⟨sm, ws, hp, hW⟩
      obtain ⟨e, he, t, pe, rfl, ht, hpe⟩ := (hA.e.mono sm).get hxi
      obtain ⟨hi, hee⟩ := List.getElem?_eq_some_iff.mp he
      have hm := List.mem_of_getElem? he
      have hT : SqT K H2 t [.ref pe, .int e.2] := .inl (.inl ht)
      refine ⟨rfl, tYes_of ?_⟩
      refine ⟨_, rfl, t, _, 0, _, rfl, rfl, hT, atI_nat (j := 0) rfl, pe, e.1, rfl, .inl (.inl hpe), hle e hm, fun p3 H3 sm3 hp3 => ?_⟩
      refine ⟨_, rfl, t, _, 1, _, rfl, rfl, same_t sm3 hT, atI_nat (j := 1) rfl, (by show 2 ≤ sizeLine; decide), fun t4 nt4 => ?_⟩
      have sm4 : Same H3 (upd H3 t4 (.tup [.ref p3, .int e.2])) := same_upd nt4
      have smA := sm3.trans sm4
      have hv : EntAt (upd H3 t4 (.tup [.ref p3, .int e.2])) (.ref t4) (negP e.1, e.2) := ⟨t4, p3, rfl, upd_same, sm4 _ _ hp3⟩
      have hD := smA _ _ hp
      have hwl := hW.len
      refine ⟨ws, hD, ?_, same_mut (sm.trans smA) np, ws ++ [.ref t4], upd_same, ?_⟩
      · unfold mirL at hwl
        rw [List.length_map, List.length_take] at hwl
        exact small100k (by omega)
      · unfold mirL
        rw [take_snoc he, List.map_append]
        exact ((hW.mono smA).app (.cons hv .nil)).updL hD
    · rintro H2 ⟨sm, ws, hp, hW⟩
      rw [hx, List.take_length] at hW
      refine ⟨p, ws, mirL es, rfl, ⟨.inl (.inl hp), hW, by unfold mirL; rw [List.length_map]; exact small100k (by omega)⟩, fun e he z => ?_, q.mono sm⟩
      obtain ⟨y, hy, rfl⟩ := List.mem_map.mp he
      have z2 : (negP y.1).length = 0 := by
        have z3 : negP y.1 = [] := z
        rw [z3]
        rfl
      rw [negP_len] at z2
      exact hA.p y hy (List.length_eq_zero_iff.mp z2)
end
end OT

set_option Elab.async false
set_option linter.all false
set_option maxRecDepth 100000
set_option maxHeartbeats 2000000
namespace OT
open PySem PySem.Spec PyProof.Rows L2
/-! mirrors and normal rows: the program's road and the law's lead to the same row -/
theorem RowIs.self {r : List Ent} (h : Valid r) : RowIs r r := ⟨h, fun _ => rfl⟩
theorem negP_lt : ∀ {a b : Pl}, a.length = b.length → HT.lexLt (negP b) (negP a) = HT.lexLt a b
  | [], [], _ => rfl
  | x :: a, y :: b, h => by
    show (if -y = -x then HT.lexLt (negP b) (negP a) else decide (-y < -x)) = if x = y then HT.lexLt a b else decide (x < y)
    rw [negP_lt (Nat.succ.inj h)]
    by_cases e : x = y
    · rw [if_pos e, if_pos (by rw [e])]
    · rw [if_neg e, if_neg (by omega)]
      by_cases c : x < y
      · rw [decide_eq_true c, decide_eq_true (by omega)]
      · rw [decide_eq_false c, decide_eq_false (by omega)]
theorem numAt_rev (es : List Ent) (q : Pl) : numAt es.reverse q = numAt es q := by
  induction es with
  | nil => rfl
  | cons e r ih =>
    rw [List.reverse_cons, numAt_app, ih]
    show numAt r q + ((if e.1 = q then e.2 else 0) + 0) = (if e.1 = q then e.2 else 0) + numAt r q
    omega
/-- the program's mirror -/
def mirP (es : List Ent) : List Ent := es.reverse.map fun e => (negP e.1, e.2)
theorem mirP_valid {es : List Ent} {n : Nat} (h : Valid es) (hn : ∀ e ∈ es, e.1.length = n) : Valid (mirP es) := by
  unfold mirP
  refine ⟨?_, fun e he => ?_⟩
  · rw [List.pairwise_map, List.pairwise_reverse]
    refine List.Pairwise.imp_of_mem (fun {x y} hx hy q => ?_) h.asc
    rw [negP_lt ((hn x hx).trans (hn y hy).symm)]
    exact q
  · obtain ⟨y, hy, rfl⟩ := List.mem_map.mp he
    exact h.nz y (List.mem_reverse.mp hy)
theorem mirP_is {es : List Ent} {n : Nat} (h : Valid es) (hn : ∀ e ∈ es, e.1.length = n) : RowIs (mirP es) (mirL es) := by
  refine ⟨mirP_valid h hn, fun q => ?_⟩
  have e : mirP es = (mirL es).reverse := by
    unfold mirP mirL
    rw [List.map_reverse]
  rw [e, numAt_rev]
/-- the dimension of a row -/
def dimE : List Ent → Nat
  | [] => 0
  | e :: _ => e.1.length
section
variable {P : Program} {w : World} {K : PySem.W.Frag} {mg : Str → Option Value} {base : Heap}
def spPLen (K : PySem.W.Frag) : Sp := fun vs H Q _ => ∃ (a : Addr) (xs : List V) (es : List Ent), vs = [.ref a] ∧ SqL K H a xs ∧ Ents H xs es ∧ Q (.int (dimE es : Nat)) H
theorem c_places_length {f : Addr} {fd : FuncData} (D : C8.Def K mg "places_length" s_places_length f fd) (b : Binds K fd ["row"] []) (T : Bi mg) : C8.Cal P w K mg base 1 "places_length" (spPLen K) [] := by
  refine C8.cal0 D b .nil sc_places_length (fun vs H Q E h => ?_) (fun cdv A outer s H vs Q E hr h => ?_)
  · obtain ⟨a, xs, es, rfl, _⟩ := h
    rfl
  · obtain ⟨a, xs, es, rfl, hS, hE, q⟩ := h
    refine ⟨_, (pss_one (ps_ret (pe_ifExp (pt_truth (pv 0) (by intro _; rfl)) (pe_callB call_len_seq (by rfl) T.n_len OT.b_len (pa_cons (pe_ix ix_tup (pe_ix ix_list (pv 0) pe_int (fun _ _ => rfl)) pe_int (fun _ _ => rfl)) pa_nil)) pe_int))), ?_⟩
    refine ⟨_, rfl, _, .inl ⟨xs, hS, rfl⟩, ?_⟩
    cases hE with
    | nil =>
      refine iteF ?_
      exact q
    | cons h1 h2 =>
      rename_i v e vs es
      obtain ⟨t, p, rfl, ht, hp⟩ := h1
      refine iteT ?_
      refine ⟨_, rfl, a, _, 0, _, rfl, rfl, hS, atI_nat (j := 0) rfl, t, _, 0, _, rfl, rfl, .inl (.inl ht), atI_nat (j := 0) rfl, p, _, rfl, .inr (.inl (.inl hp)), ?_⟩
      rw [List.length_map]
      exact q
end
end OT

set_option Elab.async false
set_option linter.all false
set_option maxRecDepth 100000
set_option maxHeartbeats 2000000
namespace OT
open PySem PySem.Spec PyProof.Rows L2
/-- some length is another than the first one -/
def mixL (ns : List Int) : Bool := (ns.map fun m => !decide (V.int m = V.int (ns.headD 0))).any id
def nz (n : Int) : Bool := decide (n ≠ 0)
section
variable {P : Program} {w : World} {K : PySem.W.Frag} {mg : Str → Option Value} {base : Heap}
/-! ### the errors' own __init__ -/
theorem ok_te {f : Addr} {fd : FuncData} (F : C8.Fun K "__init__" "TableError.__init__" s_TableError___init__ f fd) : FnOk P w K mg base L2.CX0 1 f fd ["self"] (spTE K) := by
  refine C8.fn0 F sc_TableError___init__ (fun vs H Q E h => ?_) (fun cdv A outer s H vs Q E hr h => ?_)
  · obtain ⟨a, C, nm, rfl, _⟩ := h
    rfl
  · obtain ⟨a, C, nm, rfl, ha, T, k⟩ := h
    refine ⟨_, pss_one (ps_ost (pv 0) (pe_otname (pv 0))), ?_⟩
    exact ⟨_, rfl, a, C, nm, rfl, ha, T.oc, T.on, _, rfl, a, C, rfl, T.ox, T.nw, Or.inl ⟨ha, fun d nd ne => k d nd ne⟩⟩
/-- what is known of an error of a class that tells an index -/
structure ErrI (K : PySem.W.Frag) (mg : Str → Option Value) (nm : Str) (C fI : Addr) : Prop where
  g : mg nm = some (.ref C)
  t : OtErr K C nm
  i : PySem.W.findIn K (.ref C) "__init__" = some (some (.ref fI))
  ty : PySem.W.typeIn K (.ref fI) = some (.type "function")
def errM : List (Str × V) := [("word", .str "MixedDimensions")]
def spSL (K : PySem.W.Frag) (M : Addr) : Sp := fun vs H Q E => ∃ (a : Addr) (ns : List Int), vs = [.ref a] ∧ SqL K H a (ns.map V.int) ∧ ns.length ≤ 100000 ∧
  (mixL (ns.filter nz) = true → ∀ d H', Same H H' → H' d = some (.xd errM) → E (.ref M) (some d) H') ∧ (mixL (ns.filter nz) = false → ∀ H', Same H H' → Q .non H')
theorem ok_same_lengths {f M fB : Addr} {fd fdB : FuncData} (D : C8.Def K mg "same_lengths" s_same_lengths f fd) (T : Bi mg) (X : ErrI K mg "MixedDimensions" M fB) (GB : FnOk P w K mg base L2.CX0 1 fB fdB ["self"] (spTE K)) (bB : Binds K fdB ["self"] []) :
    FnOk P w K mg base (L2.CX P w) 3 f fd ["lengths"] (spSL K M) := by
  obtain ⟨oc, od, dV, kV, doc, pm, an, cdv, ct, osl, rfl, lk, hcd⟩ := D.fn.ex
  refine fn_of lk hcd sc_same_lengths (fun vs H Q E h => ?_) fun A outer s H vs Q E hr h => ?_
  · obtain ⟨a, ns, rfl, _⟩ := h
    rfl
  · obtain ⟨a, ns, rfl, hS, hz, qE, qN⟩ := h
    refine ⟨_, (pss_cons (ps_set (i := 1) sc_same_lengths.nd rfl (Or.inr rfl) (pe_lc (own := [("length", 2)]) (g := (gName 2)) rfl sc_same_lengths.nd (pi_list (pv 0)) (blkOk_by (N := ["lengths", "known", "length"]) (sc := C8.fnScope s_same_lengths) (by decide +kernel)) (fun _ _ _ _ _ => (pg_name (i := 2) sc_same_lengths.nd rfl (Or.inl rfl))) (fun _ _ _ _ _ => (pts_one (pt_cmpR op_ne (pv 2) pe_int (nomark _)))) (fun _ _ _ _ _ => (pv 2))))
  (pss_one (ps_if (pt_val (pe_callB (cr_any rfl) (by rfl) T.n_any OT.b_any (pa_cons (pe_lc (own := [("length", 2)]) (g := (gName 2)) (tt := tYes) rfl sc_same_lengths.nd (pi_list (pv 1)) (blkOk_by (N := ["lengths", "known", "length"]) (sc := C8.fnScope s_same_lengths) (by decide +kernel)) (fun _ _ _ _ _ => (pg_name (i := 2) sc_same_lengths.nd rfl (Or.inl rfl))) (fun _ _ _ _ _ => pts_nil) (fun _ _ _ _ _ => (pe_cmpR op_ne (pv 2) (pe_ix (show IxR _ (rIxL K) from ix_list) (pv 1) pe_int (fun _ _ => rfl)) (nomark _)))) pa_nil))) (pss_one (ps_raise rfl (takes_of rfl rfl rfl rfl) (pmk_oex0 X.t.ox X.i X.ty GB hr bB pass0 (by rfl) X.g))) pss_nil))), ?_⟩
    refine ⟨_, rfl, a, rfl, ⟨_, hS⟩, fun p np => ?_⟩
    refine lc_list (K := K) (xs := ns.map V.int) (fun i H2 => Same H H2 ∧ H2 p = some (.lst (((ns.take i).filter nz).map V.int))) ?_ ?_ ?_ ?_
    · exact ⟨same_upd np, upd_same⟩
    · rintro i H2 _ ⟨sm, _⟩
      exact sm.seq hS
    · rintro i x H2 hx ⟨sm, hp⟩
      obtain ⟨hi, rfl⟩ := getm hx
      have htk : (ns.take (i + 1)).filter nz = (ns.take i).filter nz ++ (if nz ns[i] = true then [ns[i]] else []) := by
        rw [List.take_add_one, List.getElem?_eq_getElem hi, List.filter_append]
        show _ ++ (match nz ns[i] with | true => [ns[i]] | false => []) = _
        cases nz ns[i] <;> rfl
      refine ⟨rfl, _, rfl, rfl, _, rfl, iteND (fun hn => ?_) (fun h0 => ?_)⟩
      · have hnz : nz ns[i] = true := decide_eq_true fun z => hn (by rw [z])
        rw [htk, if_pos hnz]
        refine ⟨_, rfl, _, hp, ?_, same_mut sm np, ?_⟩
        · rw [List.length_map]
          have h1 := List.length_filter_le nz (ns.take i)
          rw [List.length_take] at h1
          exact Nat.lt_of_le_of_lt (show _ ≤ 100000 by omega) (by decide)
        · rw [upd_same, List.map_append]
          rfl
      · have hnz : ¬ nz ns[i] = true := fun z => of_decide_eq_true z (V.int.inj h0)
        rw [htk, if_neg hnz, List.append_nil]
        exact ⟨sm, hp⟩
    · rintro H2 ⟨sm, hp⟩
      rw [List.length_map, List.take_length] at hp
      have hz : (ns.filter nz).length ≤ 100000 := Nat.le_trans (List.length_filter_le _ _) hz
      generalize ns.filter nz = ns at hp hz qE qN
      have hP : SqL K H2 p (ns.map V.int) := .inl (.inl hp)
      refine ⟨_, rfl, p, rfl, ⟨_, hP⟩, fun p2 np2 => ?_⟩
      refine lc_list (K := K) (xs := ns.map V.int) (fun i H3 => Same H2 H3 ∧ H3 p2 = some (.lst ((ns.take i).map fun m => V.bl (!decide (V.int m = V.int (ns.headD 0)))))) ?_ ?_ ?_ ?_
      · exact ⟨same_upd np2, upd_same⟩
      · rintro i H3 _ ⟨sm3, _⟩
        exact sm3.seq hP
      · rintro i x H3 hx ⟨sm3, hp3⟩
        obtain ⟨hi, rfl⟩ := getm hx
        have h0 : (ns.map V.int)[0]? = some (.int (ns.headD 0)) := by
          cases ns with
          | nil => exact absurd hi (Nat.not_lt_zero _)
          | cons n r => rfl
        refine ⟨rfl, tYes_of ?_⟩
        refine ⟨_, rfl, _, rfl, p, _, 0, _, rfl, rfl, sm3.seq hP, atI_nat (j := 0) h0, rfl, _, hp3, ?_, same_mut sm3 np2, ?_⟩
        · rw [List.length_map, List.length_take]
          exact Nat.lt_of_le_of_lt (show min i ns.length ≤ 100000 by omega) (by decide)
        · rw [upd_same, take_map_succ (fun m => V.bl (!decide (V.int m = V.int (ns.headD 0)))) hi]
      · rintro H3 ⟨sm3, hp3⟩
        rw [List.length_map, List.take_length] at hp3
        have sA := sm.trans sm3
        refine ⟨p2, ns.map fun m => !decide (V.int m = V.int (ns.headD 0)), rfl, .inl (.inl ?_), _, rfl, ?_⟩
        · rw [hp3, List.map_map]
          rfl
        show if mixL ns = true then _ else _
        cases e : mixL ns with
        | true =>
          refine iteT ?_
          refine ⟨(by show 0 ≤ 1000; decide), fun a na => ⟨a, M, _, rfl, upd_same, X.t, fun d nd ne => ?_⟩⟩
          have nd3 : H3 d = none := by
            rw [upd_ne ne] at nd
            exact nd
          refine ⟨rfl, d, _, upd_same, ?_, nd3, qE e d _ ?_ upd_same⟩
          · rw [upd_ne ne, upd_same]
            rfl
          · intro b o hb
            have hb2 := sA b o hb
            have nba : b ≠ a := ne_of_none hb2 na
            have nbd : b ≠ d := ne_of_none hb2 nd3
            rw [upd_ne nbd, del_ne nba, upd_ne nba, upd_ne nbd, upd_ne nba]
            exact hb2
        | false =>
          refine iteF ?_
          exact qN e H3 sA
end
end OT

set_option Elab.async false
set_option linter.all false
set_option maxRecDepth 100000
set_option maxHeartbeats 2000000
namespace OT
open PySem PySem.Spec PyProof.Rows L2
/-- rows at addresses, in turn -/
inductive RowsAt (H : Hp) : List V → List (List Ent) → Prop
  | nil : RowsAt H [] []
  | cons {a : Addr} {xs : List V} {es : List Ent} {vs : List V} {ess : List (List Ent)} : H a = some (.lst xs) → Ents H xs es → RowsAt H vs ess → RowsAt H (.ref a :: vs) (es :: ess)
theorem RowsAt.len {H : Hp} {vs : List V} {ess : List (List Ent)} (h : RowsAt H vs ess) : vs.length = ess.length := by
  induction h with
  | nil => rfl
  | cons _ _ _ ih => rw [List.length_cons, List.length_cons, ih]
theorem RowsAt.mono {H H' : Hp} {vs : List V} {ess : List (List Ent)} (s : ∀ b o, H b = some o → H' b = some o) (h : RowsAt H vs ess) : RowsAt H' vs ess := by
  induction h with
  | nil => exact .nil
  | cons h1 h2 _ ih => exact .cons (s _ _ h1) (h2.mono s) ih
theorem RowsAt.get {H : Hp} {vs : List V} {ess : List (List Ent)} (h : RowsAt H vs ess) : ∀ {i : Nat} {v : V}, vs[i]? = some v → ∃ a xs es, v = .ref a ∧ ess[i]? = some es ∧ H a = some (.lst xs) ∧ Ents H xs es := by
  induction h with
  | nil => intro i v h; simp at h
  | cons h1 h2 _ ih =>
    intro i v hv
    cases i with
    | zero =>
      cases hv
      exact ⟨_, _, _, rfl, rfl, h1, h2⟩
    | succ i => exact ih (i := i) hv
def dims (ess : List (List Ent)) : List Int := ess.map fun es => ((dimE es : Nat) : Int)
def plens (ks : List Pl) : List Int := ks.map fun k => (k.length : Int)
theorem dims_snoc {ess : List (List Ent)} {i : Nat} {es : List Ent} (h : ess[i]? = some es) : (dims (ess.take (i + 1))).map V.int = (dims (ess.take i)).map V.int ++ [V.int ((dimE es : Nat) : Int)] := by
  rw [List.take_add_one, h]
  unfold dims
  rw [List.map_append, List.map_append]
  rfl
theorem plens_snoc {ks : List Pl} {i : Nat} {k : Pl} (h : ks[i]? = some k) : (plens (ks.take (i + 1))).map V.int = (plens (ks.take i)).map V.int ++ [V.int (k.length : Int)] := by
  rw [List.take_add_one, h]
  unfold plens
  rw [List.map_append, List.map_append]
  rfl
section
variable {P : Program} {w : World} {K : PySem.W.Frag} {mg : Str → Option Value} {base : Heap}
def spSD (K : PySem.W.Frag) (M : Addr) : Sp := fun vs H Q E => ∃ (a b : Addr) (us ws : List V) (ess : List (List Ent)) (ks : List Pl), vs = [.ref a, .ref b] ∧ SqL K H a us ∧ RowsAt H us ess ∧ SqL K H b ws ∧ Pls H ws ks ∧ ess.length ≤ 1000 ∧ ks.length ≤ 1000 ∧
  (mixL ((dims ess ++ plens ks).filter nz) = true → ∀ d H', Same H H' → H' d = some (.xd errM) → E (.ref M) (some d) H') ∧ (mixL ((dims ess ++ plens ks).filter nz) = false → ∀ H', Same H H' → Q .non H')
theorem ok_same_dimension {f M fS : Addr} {fd fdS : FuncData} (D : C8.Def K mg "same_dimension" s_same_dimension f fd) (T : Bi mg) (DS : C8.Def K mg "same_lengths" s_same_lengths fS fdS) (bS : Binds K fdS ["lengths"] []) (GS : FnOk P w K mg base (L2.CX P w) 3 fS fdS ["lengths"] (spSL K M))
    (c_places_length : C8.Cal P w K mg base 1 "places_length" (spPLen K) []) : FnOk P w K mg base (L2.CX P w) 4 f fd ["rows", "places"] (spSD K M) := by
  obtain ⟨oc, od, dV, kV, doc, pm, an, cdv, ct, osl, rfl, lk, hcd⟩ := D.fn.ex
  refine fn_of lk hcd sc_same_dimension (fun vs H Q E h => ?_) fun A outer s H vs Q E hr h => ?_
  · obtain ⟨a, b, us, ws, ess, ks, rfl, _⟩ := h
    rfl
  · obtain ⟨a, b, us, ws, ess, ks, rfl, ha, hR, hb, hP, z1, z2, qE, qN⟩ := h
    refine ⟨_, (pss_one (ps_expr (pe_callS GS hr rfl DS.mgf DS.kp bS (fun σ => passAt (takes_of rfl rfl rfl rfl) σ) (pa_cons (pe_op op_cat (pe_lc (own := [("row", 2)]) (g := (gName 2)) (tt := tYes) rfl sc_same_dimension.nd (pi_list (pv 0)) (blkOk_by (N := ["rows", "places", "row", "place"]) (sc := C8.fnScope s_same_dimension) (by decide +kernel)) (fun _ _ _ _ _ => (pg_name (i := 2) sc_same_dimension.nd rfl (Or.inl rfl))) (fun _ _ _ _ _ => pts_nil) (fun _ _ _ _ _ => (C8.pe_c c_places_length hr (by decide) (by rfl) (pa_cons (pv 2) pa_nil)))) (pe_lc (own := [("place", 3)]) (g := (gName 3)) (tt := tYes) rfl sc_same_dimension.nd (pi_list (pv 1)) (blkOk_by (N := ["rows", "places", "row", "place"]) (sc := C8.fnScope s_same_dimension) (by decide +kernel)) (fun _ _ _ _ _ => (pg_name (i := 3) sc_same_dimension.nd rfl (Or.inl rfl))) (fun _ _ _ _ _ => pts_nil) (fun _ _ _ _ _ => (pe_callB (show CallR _ _ (Evl.rLenS K) from call_len_seq) (by rfl) T.n_len OT.b_len (pa_cons (pv 3) pa_nil))))) pa_nil)))), ?_⟩
    have l1 := hR.len
    have l2 := hP.len
    refine ⟨_, rfl, a, rfl, ⟨_, ha⟩, fun p np => ?_⟩
    refine lc_list (K := K) (xs := us) (fun i H2 => Same H H2 ∧ H2 p = some (.lst ((dims (ess.take i)).map V.int))) ?_ ?_ ?_ ?_
    · exact ⟨same_upd np, upd_same⟩
    · rintro i H2 _ ⟨sm, _⟩
      exact sm.seq ha
    · rintro i x H2 hx ⟨sm, hp⟩
      obtain ⟨a1, xs, es, rfl, he, h1, h2⟩ := (hR.mono sm).get hx
      have hi := (List.getElem?_eq_some_iff.mp he).1
      refine ⟨rfl, tYes_of ?_⟩
      refine ⟨_, rfl, a1, xs, es, rfl, .inl (.inl h1), h2, _, hp, ?_, same_mut sm np, ?_⟩
      · unfold dims
        rw [List.length_map, List.length_map, List.length_take]
        exact small1000 (by omega)
      · rw [upd_same, dims_snoc he]
    · rintro H2 ⟨sm2, hp⟩
      rw [l1, List.take_length] at hp
      refine ⟨_, rfl, b, rfl, ⟨_, sm2.seq hb⟩, fun p3 np3 => ?_⟩
      refine lc_list (K := K) (xs := ws) (fun i H3 => Same H2 H3 ∧ H3 p3 = some (.lst ((plens (ks.take i)).map V.int))) ?_ ?_ ?_ ?_
      · exact ⟨same_upd np3, upd_same⟩
      · rintro i H3 _ ⟨sm, _⟩
        exact (sm2.trans sm).seq hb
      · rintro i x H3 hx ⟨sm, hp3⟩
        obtain ⟨q3, k, rfl, hk, hq3⟩ := (hP.mono (sm2.trans sm)).get hx
        have hi := (List.getElem?_eq_some_iff.mp hk).1
        refine ⟨rfl, tYes_of ?_⟩
        refine ⟨_, rfl, q3, _, rfl, .inr (.inl (.inl hq3)), _, hp3, ?_, same_mut sm np3, ?_⟩
        · unfold plens
          rw [List.length_map, List.length_map, List.length_take]
          exact small1000 (by omega)
        · rw [upd_same, plens_snoc hk, List.length_map]
      · rintro H3 ⟨sm3, hp3⟩
        rw [l2, List.take_length] at hp3
        have sA := sm2.trans sm3
        have d1 : (dims ess).length = ess.length := List.length_map _
        have d2 : (plens ks).length = ks.length := List.length_map _
        refine ⟨p, p3, _, _, rfl, rfl, sm3 _ _ hp, hp3, ?_, fun p4 np4 => ?_⟩
        · rw [List.length_map, List.length_map, d1, d2]
          exact Nat.le_of_lt (small100k (by omega))
        have s4 : Same H3 (upd H3 p4 (.lst ((dims ess).map V.int ++ (plens ks).map V.int))) := same_upd np4
        have sB := sA.trans s4
        refine ⟨p4, dims ess ++ plens ks, rfl, .inl (.inl ?_), ?_, fun hm d H5 sm5 hd => qE hm d H5 (sB.trans sm5) hd, fun hm H5 sm5 => qN hm H5 (sB.trans sm5)⟩
        · rw [upd_same, List.map_append]
        · rw [List.length_append, d1, d2]
          omega
end
end OT

set_option Elab.async false
set_option linter.all false
set_option maxRecDepth 100000
set_option maxHeartbeats 2000000
namespace OT
open PySem PySem.Spec PyProof.Rows L2
section
variable {P : Program} {w : World} {K : PySem.W.Frag} {mg : Str → Option Value} {base : Heap}
theorem c_row_of {f : Addr} {fd : FuncData} (D : C8.Def K mg "row_of" s_row_of f fd) (b : Binds K fd ["numbers"] []) (T : Bi mg) : C8.Cal P w K mg base 1 "row_of" (spRowOf K) [] := by
  refine C8.cal0 D b .nil sc_row_of (fun vs H Q E h => ?_) (fun cdv A outer s H vs Q E hr h => ?_)
  · obtain ⟨d, kvs, ks, es, rfl, _⟩ := h
    rfl
  · obtain ⟨d, kvs, ks, es, rfl, hd, hs, hne, hz, q⟩ := h
    refine ⟨_, (pss_one (ps_ret (pe_lc (own := [("place", 1)]) (g := (gName 1)) rfl sc_row_of.nd (pi_list (pe_callB (cr_sortedDT rfl) (by rfl) T.n_sorted OT.b_sorted (pa_cons (pv 0) pa_nil))) (blkOk_by (N := ["numbers", "place"]) (sc := C8.fnScope s_row_of) (by decide +kernel)) (fun _ _ _ _ _ => (pg_name (i := 1) sc_row_of.nd rfl (Or.inl rfl))) (fun _ _ _ _ _ => (pts_one (pt_cmpR op_ne (pe_dget (hu_of hr) (pv 0) (pv 1) (fun _ _ => rfl)) pe_int (nomark _)))) (fun _ _ _ _ _ => (pe_tup (pa_cons (pv 1) (pa_cons (pe_dget (hu_of hr) (pv 0) (pv 1) (fun _ _ => rfl)) pa_nil))))))), ?_⟩
    refine ⟨_, rfl, d, kvs, ks, rfl, .inl hd, hs.keys, fun _ => hne, fun out p perm pw nod held np => ?_⟩
    refine ⟨p, rfl, ⟨_, .inl (.inl upd_same)⟩, fun D nD => ?_⟩
    have hpD : p ≠ D := ne_of_none upd_same nD
    obtain ⟨hDn, _⟩ := none_of_upd nD
    have hkd : ∀ x ∈ out, x.2 ∈ ks := fun x hx => perm.mem_iff.mp (List.mem_map_of_mem hx)
    refine lc_list (K := K) (a := p) (xs := out.map fun x => V.ref x.1) (fun i H2 => Same H H2 ∧ H2 p = some (.lst (out.map fun x => V.ref x.1)) ∧ ∃ ws, H2 D = some (.lst ws) ∧ Ents H2 ws (mkR (numAt es) ((out.take i).map (·.2)))) ?_ ?_ ?_ ?_
    · refine ⟨(same_upd np).trans (same_upd nD), ?_, [], upd_same, .nil⟩
      rw [upd_ne hpD, upd_same]
    · rintro i H2 _ ⟨_, hp, _⟩
      exact .inl (.inl hp)
    · rintro i x H2 hx ⟨sm, hp, ws, hD, hE⟩
      obtain ⟨hi, rfl⟩ := getm hx
      have hm := List.getElem_mem hi
      have hk := sm _ _ (held _ hm)
      have hv := hs.get (hkd _ hm)
      have hd2 := sm _ _ hd
      refine ⟨rfl, _, rfl, _, rfl, d, _, rfl, dgetT hd2 hk hv, ?_⟩
      refine ⟨rfl, _, rfl, ?_⟩
      have htk : (out.take (i + 1)).map (·.2) = (out.take i).map (·.2) ++ [out[i].2] := take_map_succ (·.2) hi
      rw [htk, mkR_snoc]
      refine iteND (fun hn => ?_) (fun h0 => ?_)
      · have hn0 : numAt es out[i].2 ≠ 0 := fun z => hn (by rw [z])
        rw [if_neg hn0]
        refine ⟨_, rfl, _, rfl, _, rfl, d, _, rfl, dgetT hd2 hk hv, (by show 2 ≤ sizeLine; decide), fun t nt => ?_⟩
        have ntD : D ≠ t := ne_of_none hD nt
        have smt : Same H2 (upd H2 t (.tup [.ref out[i].1, .int (numAt es out[i].2)])) := same_upd nt
        have hD3 := smt _ _ hD
        refine ⟨ws, hD3, ?_, same_mut (sm.trans smt) hDn, ?_, ws ++ [.ref t], upd_same, ?_⟩
        · have h1 := hE.len
          have h2 := mkR_len (numAt es) ((out.take i).map (·.2))
          have h3 := perm.length_eq
          rw [List.length_map] at h2 h3
          rw [List.length_take] at h2
          omega
        · rw [upd_ne hpD]
          exact smt _ _ hp
        · refine ((hE.mono smt).updL hD3).app (.cons (EntAt.updL hD3 ⟨t, _, rfl, upd_same, ?_⟩) .nil)
          exact smt _ _ hk
      · have h0' : numAt es out[i].2 = 0 := V.int.inj h0
        rw [if_pos h0', List.append_nil]
        exact ⟨sm, hp, ws, hD, hE⟩
    · rintro H2 ⟨sm, hp, ws, hD, hE⟩
      rw [List.length_map, List.take_length] at hE
      exact q _ D ws H2 (row_sorted perm pw nod hs.out) sm hDn hD hE
theorem c_gather {f : Addr} {fd : FuncData} (D : C8.Def K mg "gather" s_gather f fd) (b : Binds K fd ["entries"] []) (T : Bi mg) (c_row_of : C8.Cal P w K mg base 1 "row_of" (spRowOf K) []) : C8.Cal P w K mg base 2 "gather" (spGather K) [] := by
  refine C8.cal0 D b .nil sc_gather (fun vs H Q E h => ?_) (fun cdv A outer s H vs Q E hr h => ?_)
  · obtain ⟨a, xs, es, rfl, _⟩ := h
    rfl
  · obtain ⟨a, xs, es, rfl, hE, hne, q⟩ := h
    refine ⟨_, (pss_cons (ps_set (i := 1) sc_gather.nd rfl (Or.inl rfl) pe_dnewT)
  (pss_cons (ps_for PassesOwn.never rfl (pi_list (pv 0)) (pg_tup rfl (pgs_cons (pg_name (i := 2) sc_gather.nd rfl (Or.inl rfl)) (pgs_cons (pg_name (i := 3) sc_gather.nd rfl (Or.inl rfl)) pgs_nil))) (pss_one (ps_dput (hu_of hr) (pv 1) (pv 2) (pe_op op_add (pe_dget2 (hu_of hr) (pv 1) (pv 2) pe_int ⟨rfl, rfl, rfl, rfl⟩) (pv 3)) rfl)))
  (pss_one (ps_ret (C8.pe_c c_row_of hr (by decide) (by rfl) (pa_cons (pv 1) pa_nil)))))), ?_⟩
    refine fun d nd => ?_
    have s1 : Same H (upd H d (.dT [])) := same_upd nd
    refine ⟨_, rfl, a, rfl, ⟨xs, s1.seq hE.l⟩, ?_⟩
    refine for_list (K := K) (xs := xs) (fun i σ H2 => ∃ (kvs : List (List Key × V)) (ks : List Pl) (y2 y3 : Option V), σ = [some (.ref a), some (.ref d), y2, y3] ∧ Same H H2 ∧ H2 d = some (.dT kvs) ∧ Sums kvs ks (numAt (es.take i)) ∧ (∀ k ∈ ks, k ≠ []) ∧ ks.length ≤ i) ?_ ?_ ?_ ?_
    · exact ⟨[], [], none, none, rfl, s1, upd_same, Sums.nil, fun k hk => (by cases hk), Nat.le_refl _⟩
    · rintro i σ H2 _ ⟨_, _, _, _, _, sm, _⟩
      exact sm.seq hE.l
    · rintro i x σ H2 hx ⟨kvs, ks, y2, y3, rfl, sm, hd, hs, hk, hl⟩
      obtain ⟨e, he, hv⟩ := (hE.e.mono sm).get hx
      obtain ⟨t, p, rfl, ht, hp⟩ := hv
      have hi := (List.getElem?_eq_some_iff.mp he).1
      have hm : e ∈ es := List.mem_of_getElem? he
      have hz := hE.z
      refine ⟨t, _, rfl, .inl (.inl ht), rfl, _, _, rfl, _, _, rfl, rfl, ?_⟩
      refine ⟨_, rfl, d, rfl, .inr ⟨kvs, .inl hd⟩, _, rfl, _, dgetT hd hp rfl, _, rfl, numAt (es.take i) e.1, e.2, hs.getD _, rfl, _, rfl, _, rfl, d, _, rfl, DPut.t hd (k := e.1.map Sum.inl) (by rw [kV_ints]; exact hp) ?_, ?_⟩
      · rw [hs.len]
        omega
      · exact ⟨_, _, _, _, rfl, same_mut sm nd, upd_same, hs.next he, put_keys_ne hk (hne e hm), put_keys_len hl⟩
    · rintro σ H2 ⟨kvs, ks, y2, y3, rfl, sm, hd, hs, hk, hl⟩
      have hz := hE.z
      have hlen := hE.e.len
      rw [hlen, List.take_length] at hs
      refine ⟨_, rfl, d, kvs, ks, es, rfl, hd, hs, hk, by omega, fun r p ws H3 hr sm3 np hp he => ?_⟩
      refine q r p ws H3 hr (sm.trans sm3) ?_ hp he
      cases z : H p with
      | none => rfl
      | some o =>
        rw [sm _ _ z] at np
        cases np
end
end OT

set_option Elab.async false
set_option linter.all false
set_option maxRecDepth 100000
set_option maxHeartbeats 2000000
namespace OT
open PySem PySem.Spec PyProof.Rows L2
/-- the products of all pairs of entries -/
def rowT (e : Ent) (fs : List Ent) : List Ent := fs.map fun g => (plusP e.1 g.1, e.2 * g.2)
def timesL (es fs : List Ent) : List Ent := es.flatMap fun e => rowT e fs
theorem timesL_snoc (es fs : List Ent) (e : Ent) : timesL (es ++ [e]) fs = timesL es fs ++ rowT e fs := by
  unfold timesL
  rw [List.flatMap_append]
  simp
theorem dimE_eq {es : List Ent} {n : Nat} (h : ∀ e ∈ es, e.1.length = n) (hp : es ≠ []) : dimE es = n := by
  cases es with
  | nil => exact absurd rfl hp
  | cons e r => exact h e List.mem_cons_self
theorem put_klen {ks : List Pl} {e : Pl} {i : Nat} (h : ks.length ≤ i) : (if e ∈ ks then ks else ks ++ [e]).length ≤ i + 1 := by
  by_cases m : e ∈ ks
  · rw [if_pos m]
    omega
  · rw [if_neg m, List.length_append, List.length_singleton]
    omega
section
variable {P : Program} {w : World} {K : PySem.W.Frag} {mg : Str → Option Value} {base : Heap}
def spSDT (K : PySem.W.Frag) (M : Addr) : Sp := fun vs H Q E => ∃ (a b : Addr) (us : List V) (ess : List (List Ent)), vs = [.ref a, .ref b] ∧ SqL K H a us ∧ RowsAt H us ess ∧ SqT K H b [] ∧ ess.length ≤ 1000 ∧
  (mixL ((dims ess).filter nz) = true → ∀ d H', Same H H' → H' d = some (.xd errM) → E (.ref M) (some d) H') ∧ (mixL ((dims ess).filter nz) = false → ∀ H', Same H H' → Q .non H')
theorem ok_same_dimensionT {f M fS : Addr} {fd fdS : FuncData} (D : C8.Def K mg "same_dimension" s_same_dimension f fd) (T : Bi mg) (DS : C8.Def K mg "same_lengths" s_same_lengths fS fdS) (bS : Binds K fdS ["lengths"] []) (GS : FnOk P w K mg base (L2.CX P w) 3 fS fdS ["lengths"] (spSL K M))
    (c_places_length : C8.Cal P w K mg base 1 "places_length" (spPLen K) []) : FnOk P w K mg base (L2.CX P w) 4 f fd ["rows", "places"] (spSDT K M) := by
  obtain ⟨oc, od, dV, kV, doc, pm, an, cdv, ct, osl, rfl, lk, hcd⟩ := D.fn.ex
  refine fn_of lk hcd sc_same_dimension (fun vs H Q E h => ?_) fun A outer s H vs Q E hr h => ?_
  · obtain ⟨a, b, us, ess, rfl, _⟩ := h
    rfl
  · obtain ⟨a, b, us, ess, rfl, ha, hR, hb, z1, qE, qN⟩ := h
    refine ⟨_, (pss_one (ps_expr (pe_callS GS hr rfl DS.mgf DS.kp bS (fun σ => passAt (takes_of rfl rfl rfl rfl) σ) (pa_cons (pe_op op_cat (pe_lc (own := [("row", 2)]) (g := (gName 2)) (tt := tYes) rfl sc_same_dimension.nd (pi_list (pv 0)) (blkOk_by (N := ["rows", "places", "row", "place"]) (sc := C8.fnScope s_same_dimension) (by decide +kernel)) (fun _ _ _ _ _ => (pg_name (i := 2) sc_same_dimension.nd rfl (Or.inl rfl))) (fun _ _ _ _ _ => pts_nil) (fun _ _ _ _ _ => (C8.pe_c c_places_length hr (by decide) (by rfl) (pa_cons (pv 2) pa_nil)))) (pe_lc (own := [("place", 3)]) (g := (gName 3)) (tt := tYes) rfl sc_same_dimension.nd (pi_tup (pv 1)) (blkOk_by (N := ["rows", "places", "row", "place"]) (sc := C8.fnScope s_same_dimension) (by decide +kernel)) (fun _ _ _ _ _ => (pg_name (i := 3) sc_same_dimension.nd rfl (Or.inl rfl))) (fun _ _ _ _ _ => pts_nil) (fun _ _ _ _ _ => (pe_callB (show CallR _ _ (Evl.rLenS K) from call_len_seq) (by rfl) T.n_len OT.b_len (pa_cons (pv 3) pa_nil))))) pa_nil)))), ?_⟩
    have l1 := hR.len
    refine ⟨_, rfl, a, rfl, ⟨_, ha⟩, fun p np => ?_⟩
    refine lc_list (K := K) (xs := us) (fun i H2 => Same H H2 ∧ H2 p = some (.lst ((dims (ess.take i)).map V.int))) ?_ ?_ ?_ ?_
    · exact ⟨same_upd np, upd_same⟩
    · rintro i H2 _ ⟨sm, _⟩
      exact sm.seq ha
    · rintro i x H2 hx ⟨sm, hp⟩
      obtain ⟨a1, xs, es, rfl, he, h1, h2⟩ := (hR.mono sm).get hx
      have hi := (List.getElem?_eq_some_iff.mp he).1
      refine ⟨rfl, tYes_of ?_⟩
      refine ⟨_, rfl, a1, xs, es, rfl, .inl (.inl h1), h2, _, hp, ?_, same_mut sm np, ?_⟩
      · unfold dims
        rw [List.length_map, List.length_map, List.length_take]
        exact small1000 (by omega)
      · rw [upd_same, dims_snoc he]
    · rintro H2 ⟨sm2, hp⟩
      rw [l1, List.take_length] at hp
      refine ⟨_, rfl, b, rfl, ⟨_, same_t sm2 hb⟩, fun p3 np3 => ?_⟩
      refine lc_tup (K := K) (xs := []) (fun i H3 => Same H2 H3 ∧ H3 p3 = some (.lst [])) ?_ ?_ ?_ ?_
      · exact ⟨same_upd np3, upd_same⟩
      · rintro i H3 _ ⟨sm, _⟩
        exact same_t (sm2.trans sm) hb
      · rintro i x H3 hx ⟨sm, hp3⟩
        cases hx
      · rintro H3 ⟨sm3, hp3⟩
        have sA := sm2.trans sm3
        have d1 : (dims ess).length = ess.length := List.length_map _
        refine ⟨p, p3, _, _, rfl, rfl, sm3 _ _ hp, hp3, ?_, fun p4 np4 => ?_⟩
        · rw [List.length_map, d1]
          exact Nat.le_of_lt (small100k (by show ess.length + 0 ≤ 100000; omega))
        have s4 : Same H3 (upd H3 p4 (.lst ((dims ess).map V.int ++ []))) := same_upd np4
        have sB := sA.trans s4
        refine ⟨p4, dims ess, rfl, .inl (.inl ?_), ?_, fun hm d H5 sm5 hd => qE hm d H5 (sB.trans sm5) hd, fun hm H5 sm5 => qN hm H5 (sB.trans sm5)⟩
        · rw [upd_same, List.append_nil]
        · rw [d1]
          omega
end
end OT

set_option Elab.async false
set_option linter.all false
set_option maxRecDepth 100000
set_option maxHeartbeats 2000000
namespace OT
open PySem PySem.Spec PyProof.Rows L2
/-- two rows of different dimensions other than 0 -/
def mixB (es fs : List Ent) : Bool := decide (dimE es ≠ 0 ∧ dimE fs ≠ 0 ∧ dimE es ≠ dimE fs)
theorem mixD (es fs : List Ent) : mixL ((dims [es, fs]).filter nz) = mixB es fs := by
  show mixL ([((dimE es : Nat) : Int), ((dimE fs : Nat) : Int)].filter nz) = mixB es fs
  unfold mixB
  generalize dimE es = x
  generalize dimE fs = y
  have nzT : ∀ {z : Nat}, z ≠ 0 → nz (z : Int) = true := fun h => decide_eq_true (by omega)
  have nzF : ∀ {z : Nat}, z = 0 → nz (z : Int) = false := fun h => decide_eq_false (by omega)
  by_cases hx : x = 0
  · rw [List.filter_cons, if_neg (by rw [nzF hx]; decide), decide_eq_false (fun h => h.1 hx)]
    by_cases hy : y = 0
    · rw [List.filter_cons, if_neg (by rw [nzF hy]; decide)]
      rfl
    · rw [List.filter_cons, if_pos (nzT hy)]
      simp [mixL]
  · rw [List.filter_cons, if_pos (nzT hx)]
    by_cases hy : y = 0
    · rw [List.filter_cons, if_neg (by rw [nzF hy]; decide), decide_eq_false (fun h => h.2.1 hy)]
      simp [mixL]
    · rw [List.filter_cons, if_pos (nzT hy)]
      by_cases h : x = y
      · subst h
        rw [decide_eq_false (fun h => h.2.2 rfl)]
        simp [mixL]
      · rw [decide_eq_true ⟨hx, hy, h⟩]
        have : ¬ ((y : Int) = (x : Int)) := fun z => h (by omega)
        simp [mixL, this]
theorem mixB_same {es fs : List Ent} {n m : Nat} (h : es ≠ [] → fs ≠ [] → n = m) (he : ∀ e ∈ es, e.1.length = n) (hf : ∀ e ∈ fs, e.1.length = m) : mixB es fs = false := by
  refine decide_eq_false fun z => ?_
  obtain ⟨z1, z2, z3⟩ := z
  have h1 : es ≠ [] := fun y => z1 (by rw [y]; rfl)
  have h2 : fs ≠ [] := fun y => z2 (by rw [y]; rfl)
  exact z3 (by rw [dimE_eq he h1, dimE_eq hf h2, h h1 h2])
theorem timesL_mem {es fs : List Ent} {x : Ent} (h : x ∈ timesL es fs) : ∃ e ∈ es, ∃ g ∈ fs, x = (plusP e.1 g.1, e.2 * g.2) := by
  unfold timesL rowT at h
  obtain ⟨e, he, h⟩ := List.mem_flatMap.mp h
  obtain ⟨g, hg, rfl⟩ := List.mem_map.mp h
  exact ⟨e, he, g, hg, rfl⟩
theorem timesL_len : ∀ (es fs : List Ent), (timesL es fs).length = es.length * fs.length
  | [], fs => by rw [List.length_nil, Nat.zero_mul]; rfl
  | e :: r, fs => by
    have ih := timesL_len r fs
    show (rowT e fs ++ timesL r fs).length = _
    rw [List.length_append, ih, show (rowT e fs).length = fs.length from List.length_map _, List.length_cons, Nat.succ_mul]
    omega
section
variable {P : Program} {w : World} {K : PySem.W.Frag} {mg : Str → Option Value} {base : Heap}
/-- the same, of the law -/
def spTimes (K : PySem.W.Frag) : Sp := fun vs H Q _ => ∃ (a b : Addr) (xs ys : List V) (es fs : List Ent), vs = [.ref a, .ref b] ∧ SqL K H a xs ∧ SqL K H b ys ∧ Ents H xs es ∧ Ents H ys fs ∧ es.length * fs.length ≤ 10000 ∧ (∀ e ∈ es, ∀ g ∈ fs, e.1.length = g.1.length) ∧ (∀ e ∈ es, e.1 ≠ [] ∧ e.1.length ≤ 1000) ∧ (∀ g ∈ fs, -(2 ^ 64) < g.2 ∧ g.2 < 2 ^ 64) ∧ wantRow H (timesL es fs) Q
theorem c__law_times {f : Addr} {fd : FuncData} (D : C8.Def K mg "_law_times" s__law_times f fd) (b : Binds K fd ["_law_first", "_law_second"] []) (T : Bi mg) (c__law_plus : C8.Cal P w K mg base 1 "_law_plus" (spPlus K) []) (c__law_row : C8.Cal P w K mg base 1 "_law_row" (spGather K) []) : C8.Cal P w K mg base 2 "_law_times" (spTimes K) [] := by
  refine C8.cal0 D b .nil sc__law_times (fun vs H Q E h => ?_) (fun cdv A outer s H vs Q E hr h => ?_)
  · obtain ⟨a, b, xs, ys, es, fs, rfl, _⟩ := h
    rfl
  · obtain ⟨a, b, xs, ys, es, fs, rfl, hS, hT, hE, hF, hz, hl, hne, hnum, q⟩ := h
    refine ⟨_, (pss_cons (ps_set (i := 2) sc__law_times.nd rfl (Or.inl rfl) (pe_lst pa_nil))
  (pss_cons (ps_for PassesOwn.never rfl (pi_list (pv 0)) (pg_tup rfl (pgs_cons (pg_name (i := 3) sc__law_times.nd rfl (Or.inl rfl)) (pgs_cons (pg_name (i := 4) sc__law_times.nd rfl (Or.inl rfl)) pgs_nil))) (pss_one (ps_for PassesOwn.never rfl (pi_list (pv 1)) (pg_tup rfl (pgs_cons (pg_name (i := 5) sc__law_times.nd rfl (Or.inl rfl)) (pgs_cons (pg_name (i := 6) sc__law_times.nd rfl (Or.inl rfl)) pgs_nil))) (pss_one (ps_expr (pe_bm PySem.F.plainAttrs_list PySem.F.slot_list_append PySem.F.type_list_append mt_append (pv 2) (pa_cons (pe_tup (pa_cons (C8.pe_c c__law_plus hr (by decide) (by rfl) (pa_cons (pv 3) (pa_cons (pv 5) pa_nil))) (pa_cons (pe_op op_mul (pv 4) (pv 6)) pa_nil))) pa_nil)))))))
  (pss_one (ps_ret (C8.pe_c c__law_row hr (by decide) (by rfl) (pa_cons (pv 2) pa_nil)))))), ?_⟩
    refine ⟨by decide, fun p np => ?_⟩
    have s1 : Same H (upd H p (.lst [])) := same_upd np
    refine ⟨_, rfl, a, rfl, ⟨_, s1.seq hS⟩, ?_⟩
    refine for_list (K := K) (xs := xs) (fun i σ H2 => ∃ (ws : List V) (y3 y4 y5 y6 : Option V), σ = [some (.ref a), some (.ref b), some (.ref p), y3, y4, y5, y6] ∧ Same H H2 ∧ H2 p = some (.lst ws) ∧ Ents H2 ws (timesL (es.take i) fs)) ⟨[], none, none, none, none, rfl, s1, upd_same, .nil⟩ ?_ ?_ ?_
    · rintro i σ H2 _ ⟨_, _, _, _, _, _, sm, _⟩
      exact sm.seq hS
    · rintro i x σ H2 hx ⟨ws, y3, y4, y5, y6, rfl, sm, hp, hW⟩
      obtain ⟨e, hee, t, pe, rfl, ht, hpe⟩ := hE.get hx
      have hi := (List.getElem?_eq_some_iff.mp hee).1
      have hem : e ∈ es := List.mem_of_getElem? hee
      refine ⟨t, _, rfl, .inl (.inl (sm _ _ ht)), rfl, _, _, rfl, _, _, rfl, rfl, ?_⟩
      refine ⟨_, rfl, b, rfl, ⟨_, sm.seq hT⟩, ?_⟩
      refine for_list (K := K) (xs := ys) (fun j σ H3 => ∃ (ws : List V) (y5 y6 : Option V), σ = [some (.ref a), some (.ref b), some (.ref p), some (.ref pe), some (.int e.2), y5, y6] ∧ Same H H3 ∧ H3 p = some (.lst ws) ∧ Ents H3 ws (timesL (es.take i) fs ++ rowT e (fs.take j))) ?_ ?_ ?_ ?_
      · refine ⟨ws, y5, y6, rfl, sm, hp, ?_⟩
        rw [show rowT e (fs.take 0) = [] from rfl, List.append_nil]
        exact hW
      · rintro j σ H3 _ ⟨_, _, _, _, sm, _⟩
        exact sm.seq hT
      · rintro j x σ H3 hx ⟨ws, y5, y6, rfl, sm, hp, hW⟩
        obtain ⟨z, hzz, t2, pz, rfl, ht2, hpz⟩ := hF.get hx
        have hj := (List.getElem?_eq_some_iff.mp hzz).1
        have hzm : z ∈ fs := List.mem_of_getElem? hzz
        refine ⟨t2, _, rfl, .inl (.inl (sm _ _ ht2)), rfl, _, _, rfl, _, _, rfl, rfl, ?_⟩
        have hle := hl e hem z hzm
        refine ⟨_, rfl, .inl ⟨rfl, _, .inl (.inl hp)⟩, _, rfl, _, rfl, pe, pz, e.1, z.1, rfl, .inl (.inl (sm _ _ hpe)), .inl (.inl (sm _ _ hpz)), Nat.le_of_eq hle, (hne e hem).2, fun p4 H4 s4 hp4 => ?_⟩
        refine ⟨_, rfl, _, rfl, _, _, rfl, rfl, .inr (hnum z hzm), (by show 2 ≤ sizeLine; decide), fun t5 nt5 => ?_⟩
        have s5 : Same H4 (upd H4 t5 (.tup [.ref p4, .int (e.2 * z.2)])) := same_upd nt5
        have s45 := s4.trans s5
        have hD := s45 _ _ hp
        have hwl := hW.len
        refine ⟨p, ws, _, rfl, rfl, hD, ?_, ?_⟩
        · rw [hwl, List.length_append, timesL_len, List.length_take, show (rowT e (fs.take j)).length = (fs.take j).length from List.length_map _, List.length_take, Nat.min_eq_left (Nat.le_of_lt hi), Nat.min_eq_left (Nat.le_of_lt hj)]
          have h1 : i * fs.length + fs.length ≤ es.length * fs.length := by
            rw [← Nat.succ_mul]
            exact Nat.mul_le_mul_right _ hi
          exact small100k (by omega)
        · refine ⟨ws ++ [.ref t5], _, _, rfl, same_mut (sm.trans s45) np, upd_same, ?_⟩
          have e1 : timesL (es.take i) fs ++ rowT e (fs.take (j + 1)) = (timesL (es.take i) fs ++ rowT e (fs.take j)) ++ [(plusP e.1 z.1, e.2 * z.2)] := by
            rw [take_snoc hzz]
            unfold rowT
            rw [List.map_append, List.append_assoc]
            rfl
          rw [e1]
          exact ((hW.mono s45).updL hD).app (.cons (EntAt.updL hD ⟨t5, p4, rfl, upd_same, s5 _ _ hp4⟩) .nil)
      · rintro σ H3 ⟨ws, y5, y6, rfl, sm, hp, hW⟩
        rw [hF.len, List.take_length] at hW
        refine ⟨ws, _, _, y5, y6, rfl, sm, hp, ?_⟩
        rw [take_snoc hee, timesL_snoc]
        exact hW
    · rintro σ H2 ⟨ws, y3, y4, y5, y6, rfl, sm, hp, hW⟩
      rw [hE.len, List.take_length] at hW
      refine ⟨_, rfl, p, ws, timesL es fs, rfl, ⟨.inl (.inl hp), hW, ?_⟩, fun x hx => ?_, wantRow.mono sm q⟩
      · rw [timesL_len]
        exact small100k (by omega)
      · obtain ⟨e, he, g, hg, rfl⟩ := timesL_mem hx
        intro h0
        have h1 := plusP_len (Nat.le_of_eq (hl e he g hg))
        have h2 : (plusP e.1 g.1).length = 0 := by
          show (plusP e.1 g.1).length = 0
          rw [show plusP e.1 g.1 = [] from h0]
          rfl
        exact (hne e he).1 (List.length_eq_zero_iff.mp (by omega))
end
end OT

set_option Elab.async false
set_option linter.all false
set_option maxRecDepth 100000
set_option maxHeartbeats 4000000
namespace OT
open PySem PySem.Spec PyProof.Rows L2
/-- a list of rows as data -/
def dRows (ess : List (List Ent)) : PyData := .list (ess.map dRow)
theorem lay_rows : ∀ ess : List (List Ent), PyData.canLayAll0 (ess.map dRow) = true
  | [] => by simp only [List.map_nil, PyData.canLayAll0]
  | e :: r => by
    have ih := lay_rows r
    have h1 := SeqAt.canLay_of_shaped (shaped_row e)
    simp only [List.map_cons, PyData.canLayAll0, h1, ih, Bool.and_self]
theorem depth_rows : ∀ ess : List (List Ent), PyData.depthAll (ess.map dRow) ≤ 10
  | [] => by simp only [List.map_nil, PyData.depthAll]; decide
  | e :: r => by
    have ih := depth_rows r
    have h1 := depth_row e
    simp only [List.map_cons, PyData.depthAll, dRow, PyData.depth] at ih h1 ⊢
    omega
theorem shaped_rows (ess : List (List Ent)) : SeqAt.shaped (dRows ess) = true := by
  unfold SeqAt.shaped
  have h1 : (dRows ess).canLay0 = true := lay_rows ess
  rw [h1, Bool.true_and]
  refine decide_eq_true ?_
  have := depth_rows ess
  simp only [dRows, PyData.depth]
  omega
theorem eqv_rws (ess : List (List Ent)) : PyData.eqv (dRows ess) (dRows ess) = true := SeqAt.eqv_refl _ (SeqAt.canLay_of_shaped (shaped_rows ess))
theorem dp_rowsAt {K : PySem.W.Frag} {H : Hp} {vs : List V} {ess : List (List Ent)} (h : RowsAt H vs ess) : DpAll K H vs (ess.map dRow) := by
  induction h with
  | nil => exact .nil
  | cons h1 h2 _ ih => exact .cons (h2.dp (.inl (.inl h1))) ih
/-- a list of rows in the heap -/
structure RwsAt (H : Hp) (a : Addr) (ess : List (List Ent)) : Prop where
  ex : ∃ vs, H a = some (.lst vs) ∧ RowsAt H vs ess
theorem RwsAt.mono {H H' : Hp} {a : Addr} {ess : List (List Ent)} (s : Same H H') (h : RwsAt H a ess) : RwsAt H' a ess := by
  obtain ⟨vs, h1, h2⟩ := h.ex
  exact ⟨vs, s _ _ h1, h2.mono s⟩
theorem RwsAt.dp {K : PySem.W.Frag} {H : Hp} {a : Addr} {ess : List (List Ent)} (h : RwsAt H a ess) : Dp K H (.ref a) (dRows ess) := by
  obtain ⟨vs, h1, h2⟩ := h.ex
  exact .lst (.inl (.inl h1)) (dp_rowsAt h2)
/-- isinstance(e, T), e the held error at a -/
def rIsX (K : PySem.W.Frag) (a : Addr) (c : Value) (d : Option Addr) : List V → Hp → VK → Prop := fun xs H Q => ∃ (C dd : Addr) (fs : List (Str × V)) (y : V) (u : Value) (b : Bool),
    xs = [.ref a, y] ∧ c = .ref C ∧ d = some dd ∧ PySem.W.OtCls K C ∧ H dd = some (.xd fs) ∧ ClsV y u ∧ PySem.W.kitOne K (.ref C) u = some b ∧ Q (.bl b) H
theorem call_isA {X : Cx} {a : Addr} {oe : Obj} {c : Value} {d : Option Addr} (hp : (a, oe) ∈ X.pn) (zc : Zc c d oe) (fld : ∃ fs, oe.data = .fields fs) : CallR X (.builtin "isinstance") (rIsX X.K a c d) := call_isX (p := (a, oe)) hp zc fld
def tCallE (sp : SpE) (a : Addr) (c : Value) (d : Option Addr) (t : TA) : TE := fun σ H Q => t σ H fun vs H1 => sp a c d vs H1 Q E0
theorem pe_callA {X : Cx} {a : Addr} {oe : Obj} {c : Value} {d : Option Addr} {k : Nat} {f : Addr} {fd : FuncData} {ps : List Str} {sp : SpE} {x : Str} {q pos : Pos} {e : Expr} {es : List Expr} {t : TA} (F : FnE X.prog X.w X.K X.mg X.base k f fd ps sp) (hr : L2H.RoomH k X.A) (hp : (a, oe) ∈ X.pn) (zc : Zc c d oe) (fld : ∃ fs, oe.data = .fields fs) (hg : Gl X x) (hm : X.mg x = some (.ref f)) (hk : PySem.W.keepIn X.K (.ref f) = true) (hb : Binds X.K fd ps [])
    (ha : PA X (e :: es) t) (hdb : (x == ("__debug__" : Str)) = false := by decide) (he : starEach (e :: es) X.env = (false, eval e X.env) :: starEach es X.env := by rfl) (hpl : (backTo pos (starEach es X.env)).any (·.1) = false := by rfl) :
    PE X (.Call (.Name x q) (e :: es) [] pos) (tCallE sp a c d t) := pe_callE (p := (a, oe)) F hr hp zc fld hg hm hk hb ha hdb he hpl
section
variable {P : Program} {w : World} {K : PySem.W.Frag} {mg : Str → Option Value} {base : Heap}
/-- the held error bears these fields -/
structure HeldF (K : PySem.W.Frag) (H : Hp) (C dd : Addr) (c : Value) (d : Option Addr) (fs : List (Str × V)) : Prop where
  c : c = .ref C
  d : d = some dd
  t : PySem.W.OtCls K C
  h : H dd = some (.xd fs)
def spErrE (K : PySem.W.Frag) (B : Addr) : SpE := fun a c d vs H Q _ => ∃ (C dd : Addr) (fs : List (Str × V)) (nm : Str), vs = [.ref a, .str nm] ∧ HeldF K H C dd c d fs ∧ PySem.W.findIn K (.ref C) "word" = some none ∧ fs.lookup ("word" : Str) = some (V.str nm) ∧
  PySem.W.kitOne K (.ref C) (.ref B) = some true ∧ PySem.W.kitOne K (.ref C) (.type "ValueError") = some true ∧ Q (.bl true) H
theorem h__law_is_error {f B : Addr} {fd : FuncData} (D : C8.Def K mg "_law_is_error" s__law_is_error f fd) (T : Bi mg) (gB : mg "TableError" = some (.ref B)) (nV : mg "ValueError" = none) : FnE P w K mg base 1 f fd ["_law_e", "_law_word"] (spErrE K B) := by
  refine fnE_of D.fn sc__law_is_error (fun a c d vs H Q E h => ?_) (fun cdv A outer s H vs Q p c d zc fld hr h => ?_)
  · obtain ⟨C, dd, fs, nm, rfl, _⟩ := h
    rfl
  · obtain ⟨C, dd, fs, nm, rfl, hh, nw, lw, kB, kV, q⟩ := h
    have hp : p ∈ (L2H.cxH L2.CX0 P w K mg base ["_law_e", "_law_word"] "_law_is_error" (C8.fnScope s__law_is_error) f cdv A outer s H E0 p).pn := List.mem_cons_self
    refine ⟨_, pss_one (ps_ret (pe_and (pe_callB (call_isX hp zc fld) (by rfl) T.n_isinstance OT.b_isinstance (pa_cons (pv 0) (pa_cons (pe_glob (v := .ref B) (by rfl) gB rfl) pa_nil)))
      (pe_and (pe_callB (call_isX hp zc fld) (by rfl) T.n_isinstance OT.b_isinstance (pa_cons (pv 0) (pa_cons (pe_bltn (v := .ty "ValueError") (by rfl) nV OT.b_ValueError rfl) pa_nil)))
      (pe_and (pe_callB call_isi (by rfl) T.n_isinstance OT.b_isinstance (pa_cons (pe_fX hp zc fld (pv 0)) (pa_cons (pe_bltn (v := .ty "str") (by rfl) T.n_str OT.b_str rfl) pa_nil)))
      (pe_one (pe_cmpR op_eq (pe_fX hp zc fld (pv 0)) (pv 1) (nomark _))))))), ?_⟩
    refine ⟨_, rfl, C, dd, fs, _, _, _, rfl, hh.c, hh.d, hh.t, hh.h, .own B, kB, _, rfl, ?_⟩
    refine iteT ?_
    refine ⟨_, rfl, C, dd, fs, _, _, _, rfl, hh.c, hh.d, hh.t, hh.h, .ty _, kV, _, rfl, ?_⟩
    refine iteT ?_
    refine ⟨_, rfl, C, dd, fs, _, rfl, hh.c, hh.d, hh.t, nw, hh.h, lw, _, _, _, _, _, rfl, .ty _, .base (.str nm), kit_ty kb_ss, _, rfl, ?_⟩
    refine iteT ?_
    refine ⟨_, rfl, C, dd, fs, _, rfl, hh.c, hh.d, hh.t, nw, hh.h, lw, _, rfl, rfl, ?_⟩
    rw [decide_eq_true rfl]
    exact q
/-- what isinstance says of the class at C -/
structure KitE (K : PySem.W.Frag) (B C : Addr) : Prop where
  b : PySem.W.kitOne K (.ref C) (.ref B) = some true
  v : PySem.W.kitOne K (.ref C) (.type "ValueError") = some true
theorem roomH_m {k : Nat} {A : Around} {v : Option Value} (r : Room k A) : L2H.RoomH k (A.mark v) := ⟨r.dp, r.un⟩
/-- an error of mixed dimensions, held -/
structure MixF (K : PySem.W.Frag) (M Cp Z O : Addr) : Prop where
  c : PySem.W.kitOne K (.ref M) (.ref Cp) = some false
  o : PySem.W.kitOne K (.ref M) (.ref O) = some false
  z : PySem.W.kitOne K (.ref M) (.ref Z) = some false
  m : PySem.W.kitOne K (.ref M) (.ref M) = some true
def spMxE (K : PySem.W.Frag) (M : Addr) : SpE := fun a c d vs H Q _ => ∃ dd, vs = [.ref a] ∧ HeldF K H M dd c d errM ∧ Q (.bl true) H
theorem h__law_is_mixed {f B M Cp Z O f1 : Addr} {fd fd1 : FuncData} (D : C8.Def K mg "_law_is_mixed" s__law_is_mixed f fd) (T : Bi mg) (tM : OtErr K M "MixedDimensions") (kM : KitE K B M)
    (gC : mg "BadPlace" = some (.ref Cp)) (gM : mg "MixedDimensions" = some (.ref M)) (gO : mg "OneDirectionOnly" = some (.ref O)) (gZ : mg "ZeroRow" = some (.ref Z)) (k : MixF K M Cp Z O)
    (D1 : C8.Def K mg "_law_is_error" s__law_is_error f1 fd1) (b1 : Binds K fd1 ["_law_e", "_law_word"] []) (F1 : FnE P w K mg base 1 f1 fd1 ["_law_e", "_law_word"] (spErrE K B)) : FnE P w K mg base 2 f fd ["_law_e"] (spMxE K M) := by
  refine fnE_of D.fn sc__law_is_mixed (fun a c d vs H Q E h => ?_) (fun cdv A outer s H vs Q p c d zc fld hr h => ?_)
  · obtain ⟨dd, rfl, _⟩ := h
    rfl
  · obtain ⟨dd, rfl, hh, q⟩ := h
    have hp : p ∈ (L2H.cxH L2.CX0 P w K mg base ["_law_e"] "_law_is_mixed" (C8.fnScope s__law_is_mixed) f cdv A outer s H E0 p).pn := List.mem_cons_self
    refine ⟨_, pss_cons (ps_if (PW.pt (pw_or (pt_val (pe_callB (call_isX hp zc fld) (by rfl) T.n_isinstance OT.b_isinstance (pa_cons (pv 0) (pa_cons (pe_glob (v := .ref Cp) (by rfl) gC rfl) pa_nil))))
        (pw_or (pt_val (pe_callB (call_isX hp zc fld) (by rfl) T.n_isinstance OT.b_isinstance (pa_cons (pv 0) (pa_cons (pe_glob (v := .ref O) (by rfl) gO rfl) pa_nil))))
        (pw_or1 (pt_val (pe_callB (call_isX hp zc fld) (by rfl) T.n_isinstance OT.b_isinstance (pa_cons (pv 0) (pa_cons (pe_glob (v := .ref Z) (by rfl) gZ rfl) pa_nil)))))))) (pss_one (ps_ret pe_bl)) pss_nil)
      (pss_one (ps_ret (pe_and (pe_callB (call_isX hp zc fld) (by rfl) T.n_isinstance OT.b_isinstance (pa_cons (pv 0) (pa_cons (pe_glob (v := .ref M) (by rfl) gM rfl) pa_nil)))
        (pe_one (pe_callE F1 hr hp zc fld (by rfl) D1.mgf D1.kp b1 (pa_cons (pv 0) (pa_cons pe_str pa_nil))))))), ?_⟩
    refine ⟨_, rfl, M, dd, _, _, _, _, rfl, hh.c, hh.d, hh.t, hh.h, .own Cp, k.c, _, rfl, ?_⟩
    refine iteF ?_
    refine ⟨_, rfl, M, dd, _, _, _, _, rfl, hh.c, hh.d, hh.t, hh.h, .own O, k.o, _, rfl, ?_⟩
    refine iteF ?_
    refine ⟨_, rfl, M, dd, _, _, _, _, rfl, hh.c, hh.d, hh.t, hh.h, .own Z, k.z, _, rfl, ?_⟩
    refine iteF ?_
    refine ⟨_, rfl, M, dd, _, _, _, _, rfl, hh.c, hh.d, hh.t, hh.h, .own M, k.m, _, rfl, ?_⟩
    refine iteT ?_
    exact ⟨_, rfl, M, dd, _, "MixedDimensions", rfl, hh, tM.nw, rfl, kM.b, kM.v, q⟩
end
end OT

set_option Elab.async false
set_option linter.all false
set_option maxRecDepth 100000
set_option maxHeartbeats 4000000
namespace OT
open PySem PySem.Spec PyProof.Rows L2
theorem walk_zipT' {K : PySem.W.Frag} {a b : Addr} {xs ys : List V} : Walk (RZ.ItzT K a b) (min xs.length ys.length) (fun H => SqT K H a xs ∧ SqT K H b ys) (YPair (fun i => xs[i]?) (fun i => ys[i]?)) := by
  refine ⟨fun i _ hi q => ?_, fun _ q => ⟨xs, ys, q.1, q.2, by omega⟩, fun i H v H' _ q y => ?_⟩
  · exact ⟨xs, ys, xs[i]'(by omega), ys[i]'(by omega), q.1, q.2, List.getElem?_eq_getElem _, List.getElem?_eq_getElem _⟩
  · obtain ⟨t, x, z, e, n, h, k1, k2⟩ := y
    exact ⟨t, x, z, e, n, h, k1 xs q.1, k2 ys q.2⟩
/-- a line times a place -/
def dotL (l p : Pl) : List Int := List.zipWith (· * ·) l p
def dotP (l p : Pl) : Int := (dotL l p).sum
/-- the place to which a matrix moves a place -/
def imgP (M : List Pl) (p : Pl) : Pl := M.map fun l => dotP l p
def mapL (M : List Pl) (es : List Ent) : List Ent := mapF (imgP M) es
theorem dotL_len (l p : Pl) : (dotL l p).length = min l.length p.length := List.length_zipWith
theorem dotL_get {l p : Pl} {i : Nat} (h : i < (dotL l p).length) (h1 : i < l.length) (h2 : i < p.length) : (dotL l p)[i] = l[i] * p[i] := List.getElem_zipWith
/-- the numbers of a matrix are not great -/
def Small (M : List Pl) : Prop := ∀ l ∈ M, ∀ x ∈ l, -(2 ^ 64) < x ∧ x < 2 ^ 64
section
variable {P : Program} {w : World} {K : PySem.W.Frag} {mg : Str → Option Value} {base : Heap}
def spImage (K : PySem.W.Frag) : Sp := fun vs H Q _ => ∃ (a b : Addr) (k : Pl) (ws : List V) (M : List Pl), vs = [.ref a, .ref b] ∧ SqT K H a (k.map V.int) ∧ SqL K H b ws ∧ Pls H ws M ∧ M.length ≤ 1000 ∧ k.length ≤ 1000 ∧ Small M ∧ ∀ p H', Same H H' → H' p = some (.tup ((imgP M k).map V.int)) → Q (.ref p) H'
theorem c_image {f : Addr} {fd : FuncData} (D : C8.Def K mg "image" s_image f fd) (b : Binds K fd ["place", "matrix"] []) (T : Bi mg) : C8.Cal P w K mg base 1 "image" (spImage K) [] := by
  refine C8.cal0 D b .nil sc_image (fun vs H Q E h => ?_) (fun cdv A outer s H vs Q E hr h => ?_)
  · obtain ⟨a, b, k, ws, M, rfl, _⟩ := h
    rfl
  · obtain ⟨a, b, k, ws, M, rfl, hk, hS, hM, hz, hkz, hsm, q⟩ := h
    refine ⟨_, (pss_one (ps_ret (pe_callTy call_tuple_of (by rfl) T.n_tuple OT.b_tuple (pa_cons (pe_lc (own := [("line", 2)]) (g := (gName 2)) (tt := tYes) rfl sc_image.nd (pi_list (pv 1)) (blkOk_by (N := ["place", "matrix", "line", "times", "x"]) (sc := C8.fnScope s_image) (by decide +kernel)) (fun _ _ _ _ _ => (pg_name (i := 2) sc_image.nd rfl (Or.inl rfl))) (fun _ _ _ _ _ => pts_nil) (fun _ _ _ _ _ => (pe_callB (show CallR _ _ (rSum K) from cr_sum rfl) (by rfl) T.n_sum OT.b_sum (pa_cons (pe_lc (own := [("times", 3), ("x", 4)]) (g := (gTup K 2 (gCons (gName 3) (gCons (gName 4) gNil)))) (tt := tYes) rfl sc_image.nd (show PI _ _ _ (RZ.iZipA K (tCons (tVar 2) (tCons (tVar 0) tNil))) from RZ.pi_zipA (by rfl) T.n_zip (pa_cons (pv 2) (pa_cons (pv 0) pa_nil))) (blkOk_by (N := ["place", "matrix", "line", "times", "x"]) (sc := { kind := .function, names := [(".0", .local), ("line", .local), ("sum", .globalImplicit), ("zip", .globalImplicit), ("place", .cell)], isGenerator := false, isCoroutine := false }) (by decide +kernel)) (fun _ _ _ _ _ => (pg_tup rfl (pgs_cons (pg_name (i := 3) sc_image.nd rfl (Or.inl rfl)) (pgs_cons (pg_name (i := 4) sc_image.nd rfl (Or.inl rfl)) pgs_nil)))) (fun _ _ _ _ _ => pts_nil) (fun _ _ _ _ _ => (pe_op op_mul (pv 3) (pv 4)))) pa_nil)))) pa_nil)))), ?_⟩
    have hl := hM.len
    refine ⟨_, rfl, b, rfl, ⟨_, hS⟩, fun p np => ?_⟩
    refine lc_list (K := K) (xs := ws) (fun i H2 => Same H H2 ∧ H2 p = some (.lst (((imgP M k).take i).map V.int))) ?_ ?_ ?_ ?_
    · exact ⟨same_upd np, upd_same⟩
    · rintro i H2 _ ⟨sm, _⟩
      exact sm.seq hS
    · rintro i x H2 hx ⟨sm, hp⟩
      obtain ⟨q2, l, rfl, hlm, hq2⟩ := (hM.mono sm).get hx
      have hi := (List.getElem?_eq_some_iff.mp hlm).1
      have hlm2 := List.mem_of_getElem? hlm
      have hq2' : SqT K H2 q2 (l.map V.int) := .inl (.inl hq2)
      have hk2 := same_t sm hk
      refine ⟨rfl, tYes_of ?_⟩
      refine ⟨_, rfl, _, rfl, q2, a, _, _, rfl, .inr ⟨hq2', hk2, fun p3 np3 => ?_⟩⟩
      refine lc_it (walk_zipT' (xs := l.map V.int) (ys := k.map V.int)) (fun i H3 => Same H2 H3 ∧ H3 p3 = some (.lst (((dotL l k).take i).map V.int))) ?_ ?_ ?_ ?_
      · exact ⟨same_upd np3, upd_same⟩
      · rintro i H3 _ ⟨sm3, _⟩
        exact ⟨same_t sm3 hq2', same_t sm3 hk2⟩
      · rintro i x H3 H4 hi ⟨sm3, hp3⟩ ⟨t, x1, x2, rfl, nt, rfl, e1, e2⟩
        obtain ⟨hil, rfl⟩ := getm (show (l.map V.int)[i]? = some x1 from e1)
        obtain ⟨hik, rfl⟩ := getm (show (k.map V.int)[i]? = some x2 from e2)
        have smt : Same H3 (upd H3 t (.tup [.int l[i], .int k[i]])) := same_upd nt
        have hip : i < (dotL l k).length := by rw [dotL_len]; omega
        have hb := hsm l hlm2 l[i] (List.getElem_mem hil)
        refine ⟨t, _, rfl, .inl (.inl upd_same), rfl, _, _, rfl, _, _, rfl, rfl, rfl, tYes_of ?_⟩
        refine ⟨_, rfl, _, rfl, _, _, rfl, rfl, .inl hb, _, smt _ _ hp3, ?_, same_mut (sm3.trans smt) np3, ?_⟩
        · rw [List.length_map, List.length_take]
          exact small1000 (by omega)
        · rw [upd_same, take_map_succ V.int hip, dotL_get hip hil hik]
      · rintro H3 ⟨sm3, hp3⟩
        have hmin : min (l.map V.int).length (k.map V.int).length = (dotL l k).length := by
          rw [List.length_map, List.length_map, dotL_len]
        rw [hmin, List.take_length] at hp3
        have hD := sm3 _ _ hp
        have him : i < (imgP M k).length := by
          unfold imgP
          rw [List.length_map]
          exact hi
        have hge : (imgP M k)[i] = dotP l k := (List.getElem_map (fun l => dotP l k)).trans (congrArg (fun l => dotP l k) (List.getElem?_eq_some_iff.mp hlm).2)
        refine ⟨p3, dotL l k, rfl, .inl (.inl hp3), _, hD, ?_, same_mut (sm.trans sm3) np, ?_⟩
        · rw [List.length_map, List.length_take]
          exact small1000 (by omega)
        · rw [upd_same, take_map_succ V.int him, hge]
          rfl
    · rintro H2 ⟨sm, hp⟩
      have hmin : ws.length = (imgP M k).length := by
        unfold imgP
        rw [List.length_map, hl]
      rw [hmin, List.take_length] at hp
      exact ⟨p, _, rfl, .inl ⟨.inl (.inl hp), fun t nt => q t _ (sm.trans (same_upd nt)) upd_same⟩⟩
end
end OT

set_option Elab.async false
set_option linter.all false
set_option maxRecDepth 100000
set_option maxHeartbeats 4000000
namespace OT
open PySem PySem.Spec PyProof.Rows L2
theorem none_back {H H2 : Hp} {p : Addr} (s : Same H H2) (h : H2 p = none) : H p = none := by
  cases z : H p with
  | none => rfl
  | some o =>
    rw [s _ _ z] at h
    cases h
theorem mapL_len (M : List Pl) (es : List Ent) : (mapL M es).length = es.length := List.length_map _
theorem mapL_snoc {M : List Pl} {es : List Ent} {i : Nat} {e : Ent} (h : es[i]? = some e) : mapL M (es.take (i + 1)) = mapL M (es.take i) ++ [(imgP M e.1, e.2)] := by
  unfold mapL mapF
  rw [take_snoc h, List.map_append]
  rfl
theorem imgP_len (M : List Pl) (k : Pl) : (imgP M k).length = M.length := List.length_map _
theorem mapL_ne {M : List Pl} (h : 1 ≤ M.length) {es : List Ent} : ∀ e ∈ mapL M es, e.1 ≠ [] := fun e he z => by
  obtain ⟨y, hy, rfl⟩ := List.mem_map.mp he
  have := imgP_len M y.1
  have z2 : imgP M y.1 = [] := z
  rw [z2] at this
  have : (0 : Nat) = M.length := this
  omega
section
variable {P : Program} {w : World} {K : PySem.W.Frag} {mg : Str → Option Value} {base : Heap}
def spMapP (K : PySem.W.Frag) (M : Addr) : Sp := fun vs H Q E => ∃ (a b : Addr) (xs : List V) (es : List Ent) (us : List V) (Ms : List Pl), vs = [.ref a, .ref b] ∧ H a = some (.lst xs) ∧ Ents H xs es ∧ es.length ≤ 1000 ∧ (∀ e ∈ es, e.1.length ≤ 1000) ∧ H b = some (.lst us) ∧ Pls H us Ms ∧ 1 ≤ Ms.length ∧ Ms.length ≤ 1000 ∧ Small Ms ∧
  (mixL ((dims [es] ++ plens Ms).filter nz) = true → ∀ d H', Same H H' → H' d = some (.xd errM) → E (.ref M) (some d) H') ∧
  (mixL ((dims [es] ++ plens Ms).filter nz) = false → wantRow H (mapL Ms es) Q)
theorem ok_map_places {f M fD : Addr} {fd fdD : FuncData} (D : C8.Def K mg "map_places" s_map_places f fd) (T : Bi mg) (DD : C8.Def K mg "same_dimension" s_same_dimension fD fdD) (bD : Binds K fdD ["rows", "places"] []) (GD : FnOk P w K mg base (L2.CX P w) 4 fD fdD ["rows", "places"] (spSD K M))
    (c_image : C8.Cal P w K mg base 1 "image" (spImage K) []) (c_gather : C8.Cal P w K mg base 2 "gather" (spGather K) []) : FnOk P w K mg base (L2.CX P w) 5 f fd ["row", "matrix"] (spMapP K M) := by
  obtain ⟨oc, od, dV, kV, doc, pm, an, cdv, ct, osl, rfl, lk, hcd⟩ := D.fn.ex
  refine fn_of lk hcd sc_map_places (fun vs H Q E h => ?_) fun A outer s H vs Q E hr h => ?_
  · obtain ⟨a, b, xs, es, us, Ms, rfl, _⟩ := h
    rfl
  · obtain ⟨a, b, xs, es, us, Ms, rfl, ha, hE, hz, hle, hb, hP, hM1, hMz, hsm, qE, qN⟩ := h
    refine ⟨_, (pss_cons (ps_expr (pe_callS GD hr rfl DD.mgf DD.kp bD (fun σ => passAt (takes_of rfl rfl rfl rfl) σ) (pa_cons (pe_lst (pa_cons (pv 0) pa_nil)) (pa_cons (pv 1) pa_nil))))
  (pss_one (ps_ret (C8.pe_c c_gather hr (by decide) (by rfl) (pa_cons (pe_lc (own := [("place", 2), ("number", 3)]) (g := (gTup K 2 (gCons (gName 2) (gCons (gName 3) gNil)))) (tt := tYes) rfl sc_map_places.nd (pi_list (pv 0)) (blkOk_by (N := ["row", "matrix", "place", "number"]) (sc := C8.fnScope s_map_places) (by decide +kernel)) (fun _ _ _ _ _ => (pg_tup rfl (pgs_cons (pg_name (i := 2) sc_map_places.nd rfl (Or.inl rfl)) (pgs_cons (pg_name (i := 3) sc_map_places.nd rfl (Or.inl rfl)) pgs_nil)))) (fun _ _ _ _ _ => pts_nil) (fun _ _ _ _ _ => (pe_tup (pa_cons (C8.pe_c c_image hr (by decide) (by rfl) (pa_cons (pv 2) (pa_cons (pv 1) pa_nil))) (pa_cons (pv 3) pa_nil))))) pa_nil))))), ?_⟩
    have hx := hE.len
    refine ⟨_, rfl, (by show 1 ≤ sizeLine; decide), fun p1 np1 => ?_⟩
    have s1 : Same H (upd H p1 (.lst [.ref a])) := same_upd np1
    refine ⟨_, rfl, p1, b, [.ref a], us, [es], Ms, rfl, .inl (.inl upd_same), .cons (s1 _ _ ha) (hE.mono s1) .nil, .inl (.inl (s1 _ _ hb)), hP.mono s1, (by show 1 ≤ 1000; decide), hMz, fun hm d H3 sm hd => qE hm d H3 (s1.trans sm) hd, fun hm H3 sm3 => ?_⟩
    have q := qN hm
    have sB := s1.trans sm3
    have hS3 : SqL K H3 a xs := .inl (.inl (sB _ _ ha))
    refine ⟨_, rfl, a, rfl, ⟨_, hS3⟩, fun p np => ?_⟩
    refine lc_list (K := K) (xs := xs) (fun i H4 => Same H3 H4 ∧ ∃ ws, H4 p = some (.lst ws) ∧ Ents H4 ws (mapL Ms (es.take i))) ?_ ?_ ?_ ?_
    · exact ⟨same_upd np, [], upd_same, .nil⟩
    · rintro i H4 _ ⟨sm, _⟩
      exact sm.seq hS3
    · rintro i x H4 hxi ⟨sm, ws, hp, hW⟩
      have sC := sB.trans sm
      obtain ⟨e, he, t, pe, rfl, ht, hpe⟩ := (hE.mono sC).get hxi
      obtain ⟨hi, hee⟩ := List.getElem?_eq_some_iff.mp he
      have hm := List.mem_of_getElem? he
      refine ⟨t, _, rfl, .inl (.inl ht), rfl, _, _, rfl, _, _, rfl, rfl, rfl, tYes_of ?_⟩
      refine ⟨_, rfl, _, rfl, pe, b, e.1, us, Ms, rfl, .inl (.inl hpe), .inl (.inl (sC _ _ hb)), hP.mono sC, hMz, hle e hm, hsm, fun p5 H5 sm5 hp5 => ?_⟩
      refine ⟨_, rfl, (by show 2 ≤ sizeLine; decide), fun t6 nt6 => ?_⟩
      have sm6 : Same H5 (upd H5 t6 (.tup [.ref p5, .int e.2])) := same_upd nt6
      have smX := sm5.trans sm6
      have hv : EntAt (upd H5 t6 (.tup [.ref p5, .int e.2])) (.ref t6) (imgP Ms e.1, e.2) := ⟨t6, p5, rfl, upd_same, sm6 _ _ hp5⟩
      have hD := smX _ _ hp
      have hwl := hW.len
      refine ⟨ws, hD, ?_, same_mut (sm.trans smX) np, ws ++ [.ref t6], upd_same, ?_⟩
      · rw [mapL_len, List.length_take] at hwl
        exact small100k (by omega)
      · rw [mapL_snoc he]
        exact ((hW.mono smX).app (.cons hv .nil)).updL hD
    · rintro H4 ⟨sm, ws, hp, hW⟩
      rw [hx, List.take_length] at hW
      exact ⟨p, ws, mapL Ms es, rfl, ⟨.inl (.inl hp), hW, by rw [mapL_len]; exact small100k (by omega)⟩, mapL_ne hM1, wantRow.mono (sB.trans sm) q⟩
/-- the law's own map -/
def spMapd (K : PySem.W.Frag) : Sp := fun vs H Q _ => ∃ (a b : Addr) (xs : List V) (es : List Ent) (us : List V) (Ms : List Pl), vs = [.ref a, .ref b] ∧ SqL K H a xs ∧ Ents H xs es ∧ es.length ≤ 1000 ∧ (∀ e ∈ es, e.1.length ≤ 1000) ∧ SqL K H b us ∧ Pls H us Ms ∧ 1 ≤ Ms.length ∧ Ms.length ≤ 1000 ∧ Small Ms ∧ (∀ e ∈ es, ∀ l ∈ Ms, e.1.length ≤ l.length) ∧ wantRow H (mapL Ms es) Q
theorem c__law_mapped {f : Addr} {fd : FuncData} (D : C8.Def K mg "_law_mapped" s__law_mapped f fd) (b : Binds K fd ["_law_row_here", "_law_matrix_here"] []) (T : Bi mg) (c__law_row : C8.Cal P w K mg base 1 "_law_row" (spGather K) []) : C8.Cal P w K mg base 2 "_law_mapped" (spMapd K) [] := by
  refine C8.cal0 D b .nil sc__law_mapped (fun vs H Q E h => ?_) (fun cdv A outer s H vs Q E hr h => ?_)
  · obtain ⟨a, b, xs, es, us, Ms, rfl, _⟩ := h
    rfl
  · obtain ⟨a, b, xs, es, us, Ms, rfl, hS, hE, hz, hle, hSb, hP, hM1, hMz, hsm, hll, q⟩ := h
    refine ⟨_, (pss_cons (ps_set (i := 2) sc__law_mapped.nd rfl (Or.inl rfl) (pe_lst pa_nil))
  (pss_cons (ps_for PassesOwn.never rfl (pi_list (pv 0)) (pg_tup rfl (pgs_cons (pg_name (i := 3) sc__law_mapped.nd rfl (Or.inr rfl)) (pgs_cons (pg_name (i := 4) sc__law_mapped.nd rfl (Or.inl rfl)) pgs_nil))) (pss_cons (ps_setLc (i := 5) (own := [("_law_line", 6)]) (g := (gName 6)) (tt := tYes) rfl sc__law_mapped.nd rfl rfl (sw_true rfl rfl rfl rfl) (pi_list (pv 1)) (blkOk_by (N := ["_law_row_here", "_law_matrix_here", "_law_pairs", "_law_place", "_law_number", "_law_moved_here", "_law_line", "_law_k"]) (sc := C8.fnScope s__law_mapped) (by decide +kernel)) (fun _ _ _ _ _ => (pg_name (i := 6) sc__law_mapped.nd rfl (Or.inr rfl))) (fun _ _ _ _ _ => pts_nil) (fun _ _ _ _ _ => (pe_callB (show CallR _ _ (rSum K) from cr_sum rfl) (by rfl) T.n_sum OT.b_sum (pa_cons (pe_lc (own := [("_law_k", 7)]) (g := (gName 7)) (tt := tYes) rfl sc__law_mapped.nd (pi_range1 rfl T.n_range (pa_cons (pe_callB (show CallR _ _ (Evl.rLenS K) from call_len_seq) (by rfl) T.n_len OT.b_len (pa_cons (pv 3) pa_nil)) pa_nil)) (blkOk_by (N := ["_law_row_here", "_law_matrix_here", "_law_pairs", "_law_place", "_law_number", "_law_moved_here", "_law_line", "_law_k"]) (sc := { kind := .function, names := [(".0", .local), ("_law_line", .cell), ("sum", .globalImplicit), ("range", .globalImplicit), ("len", .globalImplicit), ("_law_place", .cell)], isGenerator := false, isCoroutine := false }) (by decide +kernel)) (fun _ _ _ _ _ => (pg_name (i := 7) sc__law_mapped.nd rfl (Or.inl rfl))) (fun _ _ _ _ _ => pts_nil) (fun _ _ _ _ _ => (pe_op op_mul (pe_ix (show IxR _ (rIxT K) from ix_tup) (pv 6) (pv 7) (fun _ _ => rfl)) (pe_ix (show IxR _ (rIxT K) from ix_tup) (pv 3) (pv 7) (fun _ _ => rfl))))) pa_nil))))
  (pss_one (ps_expr (pe_bm PySem.F.plainAttrs_list PySem.F.slot_list_append PySem.F.type_list_append mt_append (pv 2) (pa_cons (pe_tup (pa_cons (pe_callTy call_tuple_of (by rfl) T.n_tuple OT.b_tuple (pa_cons (pv 5) pa_nil)) (pa_cons (pv 4) pa_nil))) pa_nil))))))
  (pss_one (ps_ret (C8.pe_c c__law_row hr (by decide) (by rfl) (pa_cons (pv 2) pa_nil)))))), ?_⟩
    have hx := hE.len
    have hul := hP.len
    refine ⟨by decide, fun p np => ?_⟩
    have s1 : Same H (upd H p (.lst [])) := same_upd np
    refine ⟨_, rfl, a, rfl, ⟨_, s1.seq hS⟩, ?_⟩
    refine for_list (K := K) (xs := xs) (fun i σ H2 => ∃ (ws : List V) (y3 y4 y5 y6 y7 : Option V), σ = [some (.ref a), some (.ref b), some (.ref p), y3, y4, y5, y6, y7] ∧ Same H H2 ∧ H2 p = some (.lst ws) ∧ Ents H2 ws (mapL Ms (es.take i))) ⟨[], none, none, none, none, none, rfl, s1, upd_same, .nil⟩ ?_ ?_ ?_
    · rintro i σ H2 _ ⟨_, _, _, _, _, _, _, sm, _⟩
      exact sm.seq hS
    · rintro i x σ H2 hx ⟨ws, y3, y4, y5, y6, y7, rfl, sm, hp, hW⟩
      obtain ⟨e, hee, t, pe, rfl, ht, hpe⟩ := (hE.mono sm).get hx
      have hi := (List.getElem?_eq_some_iff.mp hee).1
      have hem : e ∈ es := List.mem_of_getElem? hee
      refine ⟨t, _, rfl, .inl (.inl ht), rfl, _, _, rfl, _, _, rfl, rfl, ?_⟩
      refine ⟨_, rfl, b, rfl, ⟨_, sm.seq hSb⟩, fun p2 np2 => ?_⟩
      refine lc_list (K := K) (xs := us) (fun j H3 => Same H2 H3 ∧ H3 p2 = some (.lst (((imgP Ms e.1).take j).map V.int))) ?_ ?_ ?_ ?_
      · exact ⟨same_upd np2, upd_same⟩
      · rintro j H3 _ ⟨sm3, _⟩
        exact sm3.seq (sm.seq hSb)
      · rintro j x H3 hx ⟨sm3, hp2⟩
        obtain ⟨q2, l, rfl, hlm, hq2⟩ := (hP.mono (sm.trans sm3)).get hx
        have hj := (List.getElem?_eq_some_iff.mp hlm).1
        have hlm2 := List.mem_of_getElem? hlm
        have hel := hll e hem l hlm2
        have hez := hle e hem
        refine ⟨rfl, tYes_of ?_⟩
        refine ⟨_, rfl, pe, _, rfl, .inr (.inl (.inl (sm3 _ _ hpe))), _, rfl, by omega, b62 (by rw [List.length_map]; omega), fun p3 np3 => ?_⟩
        rw [List.length_map, Int.toNat_natCast]
        refine lc_range (lo := 0) (n := e.1.length) (fun m H4 => Same H3 H4 ∧ H4 p3 = some (.lst (((dotL l e.1).take m).map V.int))) ⟨same_upd np3, upd_same⟩ ?_ ?_
        · rintro m H4 hm ⟨sm4, hp3⟩
          have sm34 := sm3.trans sm4
          have hml : m < l.length := by omega
          have hip : m < (dotL l e.1).length := by rw [dotL_len]; omega
          have hb := hsm l hlm2 l[m] (List.getElem_mem hml)
          have g1 : atI (l.map V.int) ((0 : Int) + (m : Int)) = some (.int l[m]) := by
            rw [Int.zero_add]
            refine atI_nat ?_
            rw [List.getElem?_map, List.getElem?_eq_getElem hml]
            rfl
          have g2 : atI (e.1.map V.int) ((0 : Int) + (m : Int)) = some (.int e.1[m]) := by
            rw [Int.zero_add]
            refine atI_nat ?_
            rw [List.getElem?_map, List.getElem?_eq_getElem hm]
            rfl
          refine ⟨rfl, tYes_of ?_⟩
          refine ⟨_, rfl, _, rfl, q2, _, _, _, rfl, rfl, .inl (.inl (sm4 _ _ hq2)), g1, _, rfl, _, rfl, pe, _, _, _, rfl, rfl, .inl (.inl (sm34 _ _ hpe)), g2, _, _, rfl, rfl, .inl hb, _, hp3, ?_, same_mut sm4 np3, ?_⟩
          · rw [List.length_map, List.length_take]
            exact small1000 (by omega)
          · rw [upd_same, take_map_succ V.int hip, dotL_get hip hml hm]
        · rintro H4 ⟨sm4, hp3⟩
          have hmin : e.1.length = (dotL l e.1).length := by rw [dotL_len]; omega
          rw [hmin, List.take_length] at hp3
          have hD := sm4 _ _ hp2
          have him : j < (imgP Ms e.1).length := by rw [imgP_len]; exact hj
          have hge : (imgP Ms e.1)[j] = dotP l e.1 := (List.getElem_map (fun l => dotP l e.1)).trans (congrArg (fun l => dotP l e.1) (List.getElem?_eq_some_iff.mp hlm).2)
          refine ⟨p3, dotL l e.1, rfl, .inl (.inl hp3), _, hD, ?_, same_mut (sm3.trans sm4) np2, ?_⟩
          · rw [List.length_map, List.length_take]
            exact small1000 (by omega)
          · rw [upd_same, take_map_succ V.int him, hge]
            rfl
      · rintro H3 ⟨sm3, hp2⟩
        have hmin : us.length = (imgP Ms e.1).length := by rw [imgP_len, hul]
        rw [hmin, List.take_length] at hp2
        have hpe3 := sm3 _ _ hpe
        have hp3 := sm3 _ _ hp
        refine ⟨_, rfl, .inl ⟨rfl, _, .inl (.inl hp3)⟩, _, rfl, p2, _, rfl, .inl ⟨.inl (.inl hp2), fun p4 np4 => ?_⟩⟩
        have s4 : Same H3 (upd H3 p4 (.tup ((imgP Ms e.1).map V.int))) := same_upd np4
        have hp4 : (upd H3 p4 (.tup ((imgP Ms e.1).map V.int))) p4 = some (.tup ((imgP Ms e.1).map V.int)) := upd_same
        generalize upd H3 p4 (.tup ((imgP Ms e.1).map V.int)) = H4 at s4 hp4 ⊢
        refine ⟨_, rfl, (by show 2 ≤ sizeLine; decide), fun t5 nt5 => ?_⟩
        have s5 : Same H4 (upd H4 t5 (.tup [.ref p4, .int e.2])) := same_upd nt5
        have s45 := s4.trans s5
        have hD := s45 _ _ hp3
        have hwl := hW.len
        have smX := sm3.trans s45
        have hv : EntAt (upd H4 t5 (.tup [.ref p4, .int e.2])) (.ref t5) (imgP Ms e.1, e.2) := ⟨t5, p4, rfl, upd_same, s5 _ _ hp4⟩
        refine ⟨p, ws, _, rfl, rfl, hD, ?_, ?_⟩
        · rw [mapL_len, List.length_take] at hwl
          exact small100k (by omega)
        · refine ⟨_, _, _, _, _, _, rfl, same_mut (sm.trans smX) np, upd_same, ?_⟩
          rw [mapL_snoc hee]
          exact ((hW.mono smX).app (.cons hv .nil)).updL hD
    · rintro σ H2 ⟨ws, y3, y4, y5, y6, y7, rfl, sm, hp, hW⟩
      rw [hx, List.take_length] at hW
      exact ⟨_, rfl, p, ws, mapL Ms es, rfl, ⟨.inl (.inl hp), hW, by rw [mapL_len]; exact small100k (by omega)⟩, mapL_ne hM1, wantRow.mono sm q⟩
end
end OT

set_option Elab.async false
set_option linter.all false
set_option maxRecDepth 100000
set_option maxHeartbeats 4000000
namespace OT
open PySem PySem.Spec PyProof.Rows L2
/-- the half of a step, a digit, and what is left -/
def halfS (s : Int) : Int := (s - 1) / 2
def dig (v s : Int) : Int := (v + halfS s) % s - halfS s
def nxt (v s : Int) : Int := (v - dig v s) / s
def unpK : Nat → Int → Int → Pl
  | 0, v, _ => [v]
  | k + 1, v, s => dig v s :: unpK k (nxt v s) s
theorem unpK_len : ∀ (k : Nat) (v s : Int), (unpK k v s).length = k + 1
  | 0, _, _ => rfl
  | k + 1, v, s => by
    show (unpK k (nxt v s) s).length + 1 = _
    rw [unpK_len k]
/-- the first digits, and what is left behind them -/
def digsN (v s : Int) : Nat → Pl
  | 0 => []
  | k + 1 => digsN v s k ++ [dig (restN v s k) s]
where restN (v s : Int) : Nat → Int
  | 0 => v
  | k + 1 => nxt (restN v s k) s
theorem digsN_len (v s : Int) : ∀ k, (digsN v s k).length = k
  | 0 => rfl
  | k + 1 => by
    show (digsN v s k ++ [_]).length = _
    rw [List.length_append, digsN_len v s k]
    rfl
theorem restN_shift (v s : Int) : ∀ k, digsN.restN v s (k + 1) = digsN.restN (nxt v s) s k
  | 0 => rfl
  | k + 1 => by
    show nxt (digsN.restN v s (k + 1)) s = nxt (digsN.restN (nxt v s) s k) s
    rw [restN_shift v s k]
theorem digsN_shift (v s : Int) : ∀ k, digsN v s (k + 1) = dig v s :: digsN (nxt v s) s k
  | 0 => rfl
  | k + 1 => by
    show digsN v s (k + 1) ++ [dig (digsN.restN v s (k + 1)) s] = dig v s :: (digsN (nxt v s) s k ++ [dig (digsN.restN (nxt v s) s k) s])
    rw [digsN_shift v s k, restN_shift]
    rfl
theorem unpK_eq : ∀ (k : Nat) (v s : Int), unpK k v s = digsN v s k ++ [digsN.restN v s k]
  | 0, _, _ => rfl
  | k + 1, v, s => by
    show dig v s :: unpK k (nxt v s) s = _
    rw [unpK_eq k, digsN_shift, restN_shift]
    rfl
def errO (n : Nat) : List (Str × V) := [("dimension", .int (n : Nat)), ("word", .str "OneDirectionOnly")]
section
variable {P : Program} {w : World} {K : PySem.W.Frag} {mg : Str → Option Value} {base : Heap}
def spSplit : Sp := fun vs H Q _ => ∃ (v s : Int), vs = [.int v, .int s] ∧ 1 ≤ s ∧ s ≤ 1000 ∧ ∀ p H', Same H H' → H' p = some (.tup [.int (dig v s), .int (nxt v s)]) → Q (.ref p) H'
theorem c_split_digit {f : Addr} {fd : FuncData} (D : C8.Def K mg "split_digit" s_split_digit f fd) (b : Binds K fd ["value", "step"] []) (T : Bi mg) : C8.Cal P w K mg base 1 "split_digit" spSplit [] := by
  refine C8.cal0 D b .nil sc_split_digit (fun vs H Q E h => ?_) (fun cdv A outer s H vs Q E hr h => ?_)
  · obtain ⟨v, s, rfl, _⟩ := h
    rfl
  · obtain ⟨v, st, rfl, h1, h2, q⟩ := h
    refine ⟨_, (pss_cons (ps_set (i := 2) sc_split_digit.nd rfl (Or.inl rfl) (pe_op op_fdiv (pe_op op_sub (pv 1) pe_int) pe_int))
  (pss_cons (ps_set (i := 3) sc_split_digit.nd rfl (Or.inl rfl) (pe_op op_sub (pe_op op_mod (pe_op op_add (pv 0) (pv 2)) (pv 1)) (pv 2)))
  (pss_one (ps_ret (pe_tup (pa_cons (pv 3) (pa_cons (pe_op op_fdiv (pe_op op_sub (pv 0) (pv 3)) (pv 1)) pa_nil))))))), ?_⟩
    refine ⟨_, rfl, _, _, rfl, rfl, _, _, rfl, rfl, ⟨by decide, by decide⟩, ?_⟩
    refine ⟨_, rfl, _, rfl, _, _, rfl, rfl, _, rfl, _, _, rfl, rfl, (by show (0 : Int) < st; omega), _, rfl, _, _, rfl, rfl, ?_⟩
    refine ⟨_, rfl, _, rfl, _, rfl, _, _, rfl, rfl, _, rfl, _, _, rfl, rfl, ⟨by omega, by omega⟩, (by show 2 ≤ sizeLine; decide), fun t nt => ?_⟩
    exact q t _ (same_upd nt) upd_same
def spUP : Sp := fun vs H Q _ => ∃ (v s : Int) (k : Nat), vs = [.int v, .int s, .int ((k : Int) + 1)] ∧ 1 ≤ s ∧ s ≤ 1000 ∧ k ≤ 1000 ∧ ∀ p H', Same H H' → H' p = some (.tup ((unpK k v s).map V.int)) → Q (.ref p) H'
theorem c_unpacked_place {f : Addr} {fd : FuncData} (D : C8.Def K mg "unpacked_place" s_unpacked_place f fd) (b : Binds K fd ["value", "step", "dimension"] []) (T : Bi mg) (c_split_digit : C8.Cal P w K mg base 1 "split_digit" spSplit []) : C8.Cal P w K mg base 2 "unpacked_place" spUP [] := by
  refine C8.cal0 D b .nil sc_unpacked_place (fun vs H Q E h => ?_) (fun cdv A outer s H vs Q E hr h => ?_)
  · obtain ⟨v, s, k, rfl, _⟩ := h
    rfl
  · obtain ⟨v, st, k, rfl, h1, h2, hk, q⟩ := h
    refine ⟨_, (pss_cons (ps_set (i := 3) sc_unpacked_place.nd rfl (Or.inl rfl) (pe_lst pa_nil))
  (pss_cons (ps_for PassesOwn.never rfl (pi_range1 rfl T.n_range (pa_cons (pe_op op_sub (pv 2) pe_int) pa_nil)) (pg_name (i := 4) sc_unpacked_place.nd rfl (Or.inl rfl)) (pss_cons (ps_asg (C8.pe_c c_split_digit hr (by decide) (by rfl) (pa_cons (pv 0) (pa_cons (pv 1) pa_nil))) (pg_tup rfl (pgs_cons (pg_name (i := 5) sc_unpacked_place.nd rfl (Or.inl rfl)) (pgs_cons (pg_name (i := 0) sc_unpacked_place.nd rfl (Or.inl rfl)) pgs_nil))))
  (pss_one (ps_expr (pe_bm PySem.F.plainAttrs_list PySem.F.slot_list_append PySem.F.type_list_append mt_append (pv 3) (pa_cons (pv 5) pa_nil))))))
  (pss_cons (ps_expr (pe_bm PySem.F.plainAttrs_list PySem.F.slot_list_append PySem.F.type_list_append mt_append (pv 3) (pa_cons (pv 0) pa_nil)))
  (pss_one (ps_ret (pe_callTy call_tuple_of (by rfl) T.n_tuple OT.b_tuple (pa_cons (pv 3) pa_nil))))))), ?_⟩
    refine ⟨by decide, fun c nc => ?_⟩
    refine ⟨_, rfl, _, _, rfl, rfl, _, rfl, by omega, by omega, ?_⟩
    rw [show ((k : Int) + 1 - 1).toNat = k by omega]
    refine for_range (lo := 0) (n := k) (fun i σ H2 => ∃ y4 y5 : Option V, σ = [some (.int (digsN.restN v st i)), some (.int st), some (.int ((k : Int) + 1)), some (.ref c), y4, y5] ∧ Same H H2 ∧ H2 c = some (.lst ((digsN v st i).map V.int))) ⟨none, none, rfl, same_upd nc, upd_same⟩ ?_ ?_
    · rintro i σ H2 hi ⟨y4, y5, rfl, sm, hc⟩
      refine ⟨_, rfl, _, rfl, _, _, rfl, h1, h2, fun p H3 s3 hp => ?_⟩
      refine ⟨p, _, rfl, .inl (.inl hp), rfl, _, _, rfl, _, _, rfl, rfl, ?_⟩
      have hc3 := s3 _ _ hc
      refine ⟨_, rfl, .inl ⟨rfl, _, .inl (.inl hc3)⟩, _, rfl, c, _, _, rfl, rfl, hc3, ?_, ?_⟩
      · rw [List.length_map, digsN_len]
        exact small1000 (by omega)
      · refine ⟨_, _, rfl, same_mut (sm.trans s3) nc, ?_⟩
        rw [upd_same]
        show _ = some (HO.lst (List.map V.int (digsN v st i ++ [dig (digsN.restN v st i) st])))
        rw [List.map_append]
        rfl
    · rintro σ H2 ⟨y4, y5, rfl, sm, hc⟩
      refine ⟨_, rfl, .inl ⟨rfl, _, .inl (.inl hc)⟩, _, rfl, c, _, _, rfl, rfl, hc, ?_, ?_⟩
      · rw [List.length_map, digsN_len]
        exact small1000 (by omega)
      · refine ⟨_, rfl, c, _, rfl, .inl ⟨.inl (.inl upd_same), fun l nl => ?_⟩⟩
        refine q l _ ((same_mut sm nc).trans (same_upd nl)) ?_
        rw [upd_same, unpK_eq, List.map_append]
        rfl
/-- OneDirectionOnly.__init__ -/
def spOE (K : PySem.W.Frag) : Sp := fun vs H Q _ => ∃ (a C : Addr) (nm : Str) (v : V), vs = [.ref a, v] ∧ H a = some (exo a C none) ∧ OtErr K C nm ∧ PySem.W.findIn K (.ref C) "dimension" = some none ∧
  ∀ d, H d = none → d ≠ a → Q .non (upd (upd (upd H d (exd d [("word", .str nm)])) a (exo a C (some d))) d (exd d [("dimension", v), ("word", .str nm)]))
theorem ok_oe {f B fB : Addr} {fd fdB : FuncData} (F : C8.Fun K "__init__" "OneDirectionOnly.__init__" s_OneDirectionOnly___init__ f fd) (GB : FnOk P w K mg base L2.CX0 1 fB fdB ["self"] (spTE K)) (bB : Binds K fdB ["self"] []) (R : OtRead K B "__init__" fB) (gB : mg "TableError" = some (.ref B)) :
    FnOk P w K mg base L2.CX0 2 f fd ["self", "dimension"] (spOE K) := by
  refine C8.fn0 F sc_OneDirectionOnly___init__ (fun vs H Q E h => ?_) (fun cdv A outer s H vs Q E hr h => ?_)
  · obtain ⟨a, C, nm, x, rfl, _⟩ := h
    rfl
  · obtain ⟨a, C, nm, x, rfl, ha, T, hnd, k⟩ := h
    refine ⟨_, pss_cons (ps_expr (pe_otcall (pe_glob (v := .ref B) (by rfl) gB rfl) R GB hr bB pass0 (pa_cons (pv 0) pa_nil)))
      (pss_one (ps_ost (pv 0) (pv 1))), ?_⟩
    refine ⟨rfl, _, rfl, a, C, nm, rfl, ha, T, fun d nd ne => ?_⟩
    refine ⟨_, rfl, _, rfl, a, C, rfl, T.ox, hnd, Or.inr ⟨d, _, upd_same, ?_, (by show 1 ≤ 900; decide), k d nd ne⟩⟩
    rw [upd_ne ne, upd_same]
theorem mix1 (es : List Ent) : mixL ((dims [es]).filter nz) = false := by
  show mixL ([((dimE es : Nat) : Int)].filter nz) = false
  cases h : nz ((dimE es : Nat) : Int) with
  | true =>
    rw [List.filter_cons, if_pos h]
    simp [mixL]
  | false =>
    rw [List.filter_cons, if_neg (by rw [h]; decide)]
    rfl
def spOD (K : PySem.W.Frag) (O : Addr) : Sp := fun vs H Q E => ∃ (a r : Addr) (xs : List V) (es : List Ent), vs = [.ref a] ∧ H a = some (.lst [.ref r]) ∧ H r = some (.lst xs) ∧ Ents H xs es ∧
  (1 < dimE es → ∀ d H', Same H H' → H' d = some (.xd (errO (dimE es))) → E (.ref O) (some d) H') ∧ (dimE es ≤ 1 → ∀ H', Same H H' → Q .non H')
theorem ok_one_direction {f M O fI fD A0 : Addr} {fd fdI fdD : FuncData} {ds : List Value} (D : C8.Def K mg "one_direction" s_one_direction f fd) (T : Bi mg) (X : ErrI K mg "OneDirectionOnly" O fI) (hnd : PySem.W.findIn K (.ref O) "dimension" = some none) (GI : FnOk P w K mg base L2.CX0 2 fI fdI ["self", "dimension"] (spOE K)) (bI : Binds K fdI ["self", "dimension"] [])
    (DD : C8.Def K mg "same_dimension" s_same_dimension fD fdD) (bD : Binds K fdD ["rows", "places"] ds) (hdv : Vals [V.ref A0] ds) (hA0 : ∀ H, SqT K H A0 [])
    (GD : FnOk P w K mg base (L2.CX P w) 4 fD fdD ["rows", "places"] (spSDT K M)) (c_places_length : C8.Cal P w K mg base 1 "places_length" (spPLen K) []) : FnOk P w K mg base (L2.CX P w) 5 f fd ["rows"] (spOD K O) := by
  obtain ⟨oc, od, dV, kV, doc, pm, an, cdv, ct, osl, rfl, lk, hcd⟩ := D.fn.ex
  refine fn_of lk hcd sc_one_direction (fun vs H Q E h => ?_) fun A outer s H vs Q E hr h => ?_
  · obtain ⟨a, r, xs, es, rfl, _⟩ := h
    rfl
  · obtain ⟨a, r, xs, es, rfl, ha, hx, hE, qE, qN⟩ := h
    refine ⟨_, (pss_cons (ps_expr (pe_callSD GD hr rfl DD.mgf DD.kp bD hdv (fun σ => passAt (takes_of rfl rfl rfl rfl) σ) (pa_cons (pv 0) pa_nil)))
  (pss_one (ps_for (passes_of rfl) rfl (pi_list (pv 0)) (pg_name (i := 1) sc_one_direction.nd rfl (Or.inl rfl)) (pss_one (ps_if (pt_cmpR op_gt (C8.pe_c c_places_length hr (by decide) (by rfl) (pa_cons (pv 1) pa_nil)) pe_int (nomark _)) (pss_one (ps_raise rfl (takes_of rfl rfl rfl rfl) (pmk_oex X.t.ox X.i X.ty (GI.mono (by decide : 2 ≤ 3)) hr bI .nil pass0 (by rfl) X.g (pa_cons (C8.pe_c c_places_length hr (by decide) (by rfl) (pa_cons (pv 1) pa_nil)) pa_nil)))) pss_nil))))), ?_⟩
    refine ⟨_, rfl, a, A0, [.ref r], [es], rfl, .inl (.inl ha), .cons hx hE .nil, hA0 _, (by show 1 ≤ 1000; decide), fun hm => ?_, fun _ H3 sm3 => ?_⟩
    · rw [mix1] at hm
      cases hm
    refine ⟨_, rfl, a, rfl, ⟨_, sm3.seq (.inl (.inl ha))⟩, ?_⟩
    refine for_list (K := K) (xs := [V.ref r]) (fun i σ H2 => ∃ y1 : Option V, σ = [some (.ref a), y1] ∧ Same H H2 ∧ (i = 1 → dimE es ≤ 1)) ⟨none, rfl, sm3, fun z => by cases z⟩ ?_ ?_ ?_
    · rintro i σ H2 _ ⟨_, _, sm, _⟩
      exact sm.seq (.inl (.inl ha))
    · rintro i x σ H2 hx2 ⟨y1, rfl, sm, _⟩
      have hi0 : i = 0 := by
        have := (List.getElem?_eq_some_iff.mp hx2).1
        have : i < 1 := this
        omega
      subst hi0
      cases hx2
      refine ⟨_, rfl, r, xs, es, rfl, .inl (.inl (sm _ _ hx)), hE.mono sm, _, _, rfl, rfl, _, rfl, iteD (fun h => ?_) (fun h => ?_)⟩
      · have hd : 1 < dimE es := by omega
        refine ⟨_, rfl, r, xs, es, rfl, .inl (.inl (sm _ _ hx)), hE.mono sm, (by show 1 ≤ 1000; decide), fun a na => ⟨a, O, _, _, rfl, upd_same, X.t, hnd, fun d nd ne => ?_⟩⟩
        have nd2 : H2 d = none := by
          rw [upd_ne ne] at nd
          exact nd
        refine ⟨rfl, d, _, ?_, upd_same, nd2, qE hd d _ ?_ upd_same⟩
        · rw [upd_ne ne.symm, upd_same]
        · intro b o hb
          have hb2 := sm b o hb
          have nba : b ≠ a := ne_of_none hb2 na
          have nbd : b ≠ d := ne_of_none hb2 nd2
          rw [upd_ne nbd, del_ne nba, upd_ne nbd, upd_ne nba, upd_ne nbd, upd_ne nba]
          exact hb2
      · exact ⟨_, rfl, sm, fun _ => by omega⟩
    · rintro σ H2 ⟨y1, rfl, sm, h1⟩
      exact qN (h1 rfl) _ sm
end
end OT

set_option Elab.async false
set_option linter.all false
set_option maxRecDepth 100000
set_option maxHeartbeats 4000000
namespace OT
open PySem PySem.Spec PyProof.Rows L2
theorem mixN (x y : Nat) : mixL ([(x : Int), (y : Int)].filter nz) = decide (x ≠ 0 ∧ y ≠ 0 ∧ x ≠ y) := by
  have nzT : ∀ {z : Nat}, z ≠ 0 → nz (z : Int) = true := fun h => decide_eq_true (by omega)
  have nzF : ∀ {z : Nat}, z = 0 → nz (z : Int) = false := fun h => decide_eq_false (by omega)
  by_cases hx : x = 0
  · rw [List.filter_cons, if_neg (by rw [nzF hx]; decide), decide_eq_false (fun h => h.1 hx)]
    by_cases hy : y = 0
    · rw [List.filter_cons, if_neg (by rw [nzF hy]; decide)]
      rfl
    · rw [List.filter_cons, if_pos (nzT hy)]
      simp [mixL]
  · rw [List.filter_cons, if_pos (nzT hx)]
    by_cases hy : y = 0
    · rw [List.filter_cons, if_neg (by rw [nzF hy]; decide), decide_eq_false (fun h => h.2.1 hy)]
      simp [mixL]
    · rw [List.filter_cons, if_pos (nzT hy)]
      by_cases h : x = y
      · subst h
        rw [decide_eq_false (fun h => h.2.2 rfl)]
        simp [mixL]
      · rw [decide_eq_true ⟨hx, hy, h⟩]
        have : ¬ ((y : Int) = (x : Int)) := fun z => h (by omega)
        simp [mixL, this]
/-- the weights of a step -/
def wts (s : Int) (n : Nat) : Pl := [1, s, s * s].take n
theorem wts_len {s : Int} {n : Nat} (h : n ≤ 3) : (wts s n).length = n := by
  unfold wts
  rw [List.length_take]
  show min n 3 = n
  omega
theorem wts_small {s : Int} {n : Nat} (h1 : 1 ≤ s) (h2 : s ≤ 1000) : Small [wts s n] := fun l hl x hx => by
  rw [List.mem_singleton.mp hl] at hx
  have hx := List.mem_of_mem_take hx
  have hss : s * s ≤ 1000 * 1000 := Int.mul_le_mul h2 h2 (by omega) (by omega)
  have hs0 : 0 ≤ s * s := Int.mul_nonneg (by omega) (by omega)
  simp only [List.mem_cons, List.not_mem_nil, or_false] at hx
  rcases hx with rfl | rfl | rfl <;> omega
theorem cut_take' {xs : List Int} {n : Nat} (h : n ≤ xs.length) : cutV (xs.map V.int) none (some (n : Int)) = (xs.take n).map V.int := by
  unfold cutV
  rw [show HT.sIx (xs.map V.int).length 0 none = 0 from rfl, HT.sIx_nat, List.drop_zero, Nat.sub_zero, List.length_map, Nat.min_eq_left h, List.map_take]
theorem slice_wts {K : PySem.W.Frag} {H : Hp} {Q : VK} {t : Addr} {s : Int} {n : Nat} (ht : H t = some (.tup [.int 1, .int s, .int (s * s)])) (hn : n ≤ 3) (q : ∀ p H', Same H H' → H' p = some (.tup ((wts s n).map V.int)) → Q (.ref p) H') : rSlA K (.ref t) none (some (n : Int)) H Q := by
  refine ⟨t, _, rfl, .inl (.inl ht), fun hw => ?_, fun hw t3 nt3 => ?_⟩
  · have h3 : n = 3 := by
      have h2 := hw.2
      rw [HT.sIx_nat] at h2
      have h4 : min n 3 = 3 := h2
      omega
    subst h3
    exact q t _ (Same.refl _) ht
  · refine q t3 _ (same_upd nt3) ?_
    rw [upd_same]
    exact congrArg (fun l => some (HO.tup l)) (cut_take' (xs := [1, s, s * s]) hn)
section
variable {P : Program} {w : World} {K : PySem.W.Frag} {mg : Str → Option Value} {base : Heap}
def spPack : Sp := fun vs H Q E => ∃ (a : Addr) (s : Int) (xs : List V) (es : List Ent) (n : Nat), vs = [.ref a, .int s] ∧ 1 ≤ s ∧ s ≤ 1000 ∧ H a = some (.lst xs) ∧ Ents H xs es ∧ es.length ≤ 1000 ∧ n = dimE es ∧ n ≤ 3 ∧ (∀ e ∈ es, e.1.length = n) ∧ wantRow H (mapL [wts s n] es) Q
theorem ok_pack {f M fD : Addr} {fd fdD : FuncData} (D : C8.Def K mg "pack" s_pack f fd) (T : Bi mg) (DD : C8.Def K mg "map_places" s_map_places fD fdD) (bD : Binds K fdD ["row", "matrix"] []) (GD : FnOk P w K mg base (L2.CX P w) 5 fD fdD ["row", "matrix"] (spMapP K M))
    (c_places_length : C8.Cal P w K mg base 1 "places_length" (spPLen K) []) : FnOk P w K mg base (L2.CX P w) 6 f fd ["row", "step"] spPack := by
  obtain ⟨oc, od, dV, kV, doc, pm, an, cdv, ct, osl, rfl, lk, hcd⟩ := D.fn.ex
  refine fn_of lk hcd sc_pack (fun vs H Q E h => ?_) fun A outer s H vs Q E hr h => ?_
  · obtain ⟨a, s, xs, es, n, rfl, _⟩ := h
    rfl
  · obtain ⟨a, st, xs, es, n, rfl, h1, h2, ha, hE, hz, hn, hn3, hd, q⟩ := h
    refine ⟨_, (pss_cons (ps_set (i := 2) sc_pack.nd rfl (Or.inl rfl) (pe_tup (pa_cons pe_int (pa_cons (pv 1) (pa_cons (pe_op op_mul (pv 1) (pv 1)) pa_nil)))))
  (pss_one (ps_ret (pe_callS GD hr rfl DD.mgf DD.kp bD (fun σ => passAt (takes_of rfl rfl rfl rfl) σ) (pa_cons (pv 0) (pa_cons (pe_lst (pa_cons (pe_slice sl_tupA (pv 2) po_none (po_some (C8.pe_c c_places_length hr (by decide) (by rfl) (pa_cons (pv 0) pa_nil)))) pa_nil)) pa_nil)))))), ?_⟩
    have hst : -(2 : Int) ^ 64 < st ∧ st < 2 ^ 64 := by
      constructor <;> omega
    refine ⟨_, rfl, _, rfl, _, rfl, _, _, rfl, rfl, .inl hst, (by show 3 ≤ sizeLine; decide), fun t nt => ?_⟩
    have s1 : Same H (upd H t (.tup [.int 1, .int st, .int (st * st)])) := same_upd nt
    have ht : (upd H t (.tup [.int 1, .int st, .int (st * st)])) t = some (.tup [.int 1, .int st, .int (st * st)]) := upd_same
    generalize upd H t (.tup [.int 1, .int st, .int (st * st)]) = H1 at s1 ht ⊢
    refine ⟨_, rfl, _, rfl, _, rfl, a, xs, es, rfl, .inl (.inl (s1 _ _ ha)), hE.mono s1, ?_⟩
    refine ⟨_, rfl, ?_⟩
    rw [← hn]
    refine slice_wts ht hn3 fun p2 H2 s2 hp2 => ?_
    refine ⟨(by show 1 ≤ sizeLine; decide), fun p3 np3 => ?_⟩
    have s3 : Same H2 (upd H2 p3 (.lst [.ref p2])) := same_upd np3
    have sA := (s1.trans s2).trans s3
    refine ⟨a, p3, xs, es, [.ref p2], [wts st n], rfl, sA _ _ ha, hE.mono sA, hz, fun e he => by rw [hd e he]; omega, upd_same, .cons (s3 _ _ hp2) .nil, (by show 1 ≤ 1; decide), (by show 1 ≤ 1000; decide), wts_small h1 h2, fun hm => ?_, fun _ => wantRow.mono sA q⟩
    have hm2 : mixL ([((dimE es : Nat) : Int), ((wts st n).length : Int)].filter nz) = true := hm
    rw [mixN, wts_len hn3, ← hn] at hm2
    exact absurd rfl (of_decide_eq_true hm2).2.2
def spPackQ : Sp := spPack
/-- unpacked entries -/
def unpL (s : Int) (k : Nat) (es : List Ent) : List Ent := mapF (fun p => unpK k (p.headD 0) s) es
theorem unpL_len (s : Int) (k : Nat) (es : List Ent) : (unpL s k es).length = es.length := List.length_map _
theorem unpL_snoc {s : Int} {k : Nat} {es : List Ent} {i : Nat} {e : Ent} (h : es[i]? = some e) : unpL s k (es.take (i + 1)) = unpL s k (es.take i) ++ [(unpK k (e.1.headD 0) s, e.2)] := by
  unfold unpL mapF
  rw [take_snoc h, List.map_append]
  rfl
theorem unpL_ne {s : Int} {k : Nat} {es : List Ent} : ∀ e ∈ unpL s k es, e.1 ≠ [] := fun e he z => by
  obtain ⟨y, hy, rfl⟩ := List.mem_map.mp he
  have := unpK_len k (y.1.headD 0) s
  have z2 : unpK k (y.1.headD 0) s = [] := z
  rw [z2] at this
  cases this
theorem head_at {k : Pl} (h : k.length = 1) : atI (k.map V.int) 0 = some (.int (k.headD 0)) := by
  match k, h with
  | [x], _ => rfl
def spUnpP (O : Addr) : Sp := fun vs H Q E => ∃ (a : Addr) (s : Int) (k : Nat) (xs : List V) (es : List Ent), vs = [.ref a, .int s, .int ((k : Int) + 1)] ∧ 1 ≤ s ∧ s ≤ 1000 ∧ k ≤ 1000 ∧ H a = some (.lst xs) ∧ Ents H xs es ∧ es.length ≤ 1000 ∧
  (1 < dimE es → ∀ d H', Same H H' → H' d = some (.xd (errO (dimE es))) → E (.ref O) (some d) H') ∧ (dimE es ≤ 1 → (∀ e ∈ es, e.1.length = 1) ∧ wantRow H (unpL s k es) Q)
theorem ok_unpack {f O fD : Addr} {fd fdD : FuncData} (D : C8.Def K mg "unpack" s_unpack f fd) (T : Bi mg) (DD : C8.Def K mg "one_direction" s_one_direction fD fdD) (bD : Binds K fdD ["rows"] []) (GD : FnOk P w K mg base (L2.CX P w) 5 fD fdD ["rows"] (spOD K O))
    (c_unpacked_place : C8.Cal P w K mg base 2 "unpacked_place" spUP []) (c_gather : C8.Cal P w K mg base 2 "gather" (spGather K) []) : FnOk P w K mg base (L2.CX P w) 6 f fd ["row", "step", "dimension"] (spUnpP O) := by
  obtain ⟨oc, od, dV, kV, doc, pm, an, cdv, ct, osl, rfl, lk, hcd⟩ := D.fn.ex
  refine fn_of lk hcd sc_unpack (fun vs H Q E h => ?_) fun A outer s H vs Q E hr h => ?_
  · obtain ⟨a, s, k, xs, es, rfl, _⟩ := h
    rfl
  · obtain ⟨a, st, k, xs, es, rfl, h1, h2, hk, ha, hE, hz, qE, qN⟩ := h
    refine ⟨_, (pss_cons (ps_expr (pe_callS GD hr rfl DD.mgf DD.kp bD (fun σ => passAt (takes_of rfl rfl rfl rfl) σ) (pa_cons (pe_lst (pa_cons (pv 0) pa_nil)) pa_nil)))
  (pss_one (ps_ret (C8.pe_c c_gather hr (by decide) (by rfl) (pa_cons (pe_lc (own := [("place", 3), ("number", 4)]) (g := (gTup K 2 (gCons (gName 3) (gCons (gName 4) gNil)))) (tt := tYes) rfl sc_unpack.nd (pi_list (pv 0)) (blkOk_by (N := ["row", "step", "dimension", "place", "number"]) (sc := C8.fnScope s_unpack) (by decide +kernel)) (fun _ _ _ _ _ => (pg_tup rfl (pgs_cons (pg_name (i := 3) sc_unpack.nd rfl (Or.inl rfl)) (pgs_cons (pg_name (i := 4) sc_unpack.nd rfl (Or.inl rfl)) pgs_nil)))) (fun _ _ _ _ _ => pts_nil) (fun _ _ _ _ _ => (pe_tup (pa_cons (C8.pe_c c_unpacked_place hr (by decide) (by rfl) (pa_cons (pe_ix (show IxR _ (rIxT K) from ix_tup) (pv 3) pe_int (fun _ _ => rfl)) (pa_cons (pv 1) (pa_cons (pv 2) pa_nil)))) (pa_cons (pv 4) pa_nil))))) pa_nil))))), ?_⟩
    have hx := hE.len
    refine ⟨_, rfl, (by show 1 ≤ sizeLine; decide), fun p1 np1 => ?_⟩
    have s1 : Same H (upd H p1 (.lst [.ref a])) := same_upd np1
    refine ⟨p1, a, xs, es, rfl, upd_same, s1 _ _ ha, hE.mono s1, fun hd d H3 sm hdd => qE hd d H3 (s1.trans sm) hdd, fun hd H3 sm3 => ?_⟩
    obtain ⟨hl1, q⟩ := qN hd
    have sB := s1.trans sm3
    have hS3 : SqL K H3 a xs := .inl (.inl (sB _ _ ha))
    refine ⟨_, rfl, a, rfl, ⟨_, hS3⟩, fun p np => ?_⟩
    refine lc_list (K := K) (xs := xs) (fun i H4 => Same H3 H4 ∧ ∃ ws, H4 p = some (.lst ws) ∧ Ents H4 ws (unpL st k (es.take i))) ?_ ?_ ?_ ?_
    · exact ⟨same_upd np, [], upd_same, .nil⟩
    · rintro i H4 _ ⟨sm, _⟩
      exact sm.seq hS3
    · rintro i x H4 hxi ⟨sm, ws, hp, hW⟩
      have sC := sB.trans sm
      obtain ⟨e, he, t, pe, rfl, ht, hpe⟩ := (hE.mono sC).get hxi
      obtain ⟨hi, hee⟩ := List.getElem?_eq_some_iff.mp he
      have hm := List.mem_of_getElem? he
      refine ⟨t, _, rfl, .inl (.inl ht), rfl, _, _, rfl, _, _, rfl, rfl, rfl, tYes_of ?_⟩
      refine ⟨_, rfl, pe, _, 0, _, rfl, rfl, .inl (.inl hpe), head_at (hl1 e hm), _, rfl, _, rfl, _, st, k, rfl, h1, h2, hk, fun p5 H5 sm5 hp5 => ?_⟩
      refine ⟨_, rfl, (by show 2 ≤ sizeLine; decide), fun t6 nt6 => ?_⟩
      have sm6 : Same H5 (upd H5 t6 (.tup [.ref p5, .int e.2])) := same_upd nt6
      have smX := sm5.trans sm6
      have hv : EntAt (upd H5 t6 (.tup [.ref p5, .int e.2])) (.ref t6) (unpK k (e.1.headD 0) st, e.2) := ⟨t6, p5, rfl, upd_same, sm6 _ _ hp5⟩
      have hD := smX _ _ hp
      have hwl := hW.len
      refine ⟨ws, hD, ?_, same_mut (sm.trans smX) np, ws ++ [.ref t6], upd_same, ?_⟩
      · rw [unpL_len, List.length_take] at hwl
        exact small100k (by omega)
      · rw [unpL_snoc he]
        exact ((hW.mono smX).app (.cons hv .nil)).updL hD
    · rintro H4 ⟨sm, ws, hp, hW⟩
      rw [hx, List.take_length] at hW
      exact ⟨p, ws, unpL st k es, rfl, ⟨.inl (.inl hp), hW, by rw [unpL_len]; exact small100k (by omega)⟩, unpL_ne, wantRow.mono (sB.trans sm) q⟩
end
end OT

set_option Elab.async false
set_option linter.all false
set_option maxRecDepth 100000
set_option maxHeartbeats 4000000
namespace OT
open PySem PySem.Spec PyProof.Rows L2
def rTupOf (K : PySem.W.Frag) : List V → Hp → VK → Prop := fun args H Q => ∃ (b : Addr) (items : List V), args = [.ref b] ∧ ((SqL K H b items ∧ ∀ l, H l = none → Q (.ref l) (upd H l (.tup items))) ∨ (SqT K H b items ∧ Q (.ref b) H))
section
variable {P : Program} {w : World} {K : PySem.W.Frag} {mg : Str → Option Value} {base : Heap}
def spIntE : SpE := fun _ _ _ vs H Q _ => ∃ i : Int, vs = [.int i] ∧ Q (.bl true) H
theorem h__law_is_integer {f : Addr} {fd : FuncData} (D : C8.Def K mg "_law_is_integer" s__law_is_integer f fd) (T : Bi mg) : FnE P w K mg base 1 f fd ["_law_actual"] spIntE := by
  refine fnE_of D.fn sc__law_is_integer (fun a c d vs H Q E h => ?_) (fun cdv A outer s H vs Q p c d zc fld hr h => ?_)
  · obtain ⟨i, rfl, _⟩ := h
    rfl
  · obtain ⟨i, rfl, q⟩ := h
    refine ⟨_, (pss_one (ps_ret (pe_and (pe_callB call_isi (by rfl) T.n_isinstance OT.b_isinstance (pa_cons (pv 0) (pa_cons (pe_bltn (v := .ty "int") (by rfl) T.n_int OT.b_int rfl) pa_nil))) (pe_one (pe_not (pe_callB call_isi (by rfl) T.n_isinstance OT.b_isinstance (pa_cons (pv 0) (pa_cons (pe_bltn (v := .ty "bool") (by rfl) T.n_bool OT.b_bool rfl) pa_nil)))))))), ?_⟩
    refine ⟨_, rfl, _, _, _, _, _, rfl, .ty _, .base (.int i), kit_ty kb_ii, _, rfl, ?_⟩
    refine iteT ?_
    exact ⟨_, rfl, _, _, _, _, _, rfl, .ty _, .base (.int i), kit_ty kb_ib, _, rfl, q⟩
/-- an error of more than one direction, held -/
structure WidF (K : PySem.W.Frag) (M Z O : Addr) : Prop where
  m : PySem.W.kitOne K (.ref O) (.ref M) = some false
  z : PySem.W.kitOne K (.ref O) (.ref Z) = some false
  o : PySem.W.kitOne K (.ref O) (.ref O) = some true
def spWdE (K : PySem.W.Frag) (O : Addr) : SpE := fun a c d vs H Q _ => ∃ (dd : Addr) (n : Nat), vs = [.ref a, .int (n : Int)] ∧ HeldF K H O dd c d (errO n) ∧ Q (.bl true) H
theorem h__law_is_wide {f B M Z O f1 f2 : Addr} {fd fd1 fd2 : FuncData} (D : C8.Def K mg "_law_is_wide" s__law_is_wide f fd) (T : Bi mg) (tO : OtErr K O "OneDirectionOnly") (hnd : PySem.W.findIn K (.ref O) "dimension" = some none) (kO : KitE K B O)
    (gM : mg "MixedDimensions" = some (.ref M)) (gO : mg "OneDirectionOnly" = some (.ref O)) (gZ : mg "ZeroRow" = some (.ref Z)) (k : WidF K M Z O)
    (D1 : C8.Def K mg "_law_is_error" s__law_is_error f1 fd1) (b1 : Binds K fd1 ["_law_e", "_law_word"] []) (F1 : FnE P w K mg base 1 f1 fd1 ["_law_e", "_law_word"] (spErrE K B))
    (D2 : C8.Def K mg "_law_is_integer" s__law_is_integer f2 fd2) (b2 : Binds K fd2 ["_law_actual"] []) (F2 : FnE P w K mg base 1 f2 fd2 ["_law_actual"] spIntE) : FnE P w K mg base 2 f fd ["_law_e", "_law_size"] (spWdE K O) := by
  refine fnE_of D.fn sc__law_is_wide (fun a c d vs H Q E h => ?_) (fun cdv A outer s H vs Q p c d zc fld hr h => ?_)
  · obtain ⟨dd, n, rfl, _⟩ := h
    rfl
  · obtain ⟨dd, n, rfl, hh, q⟩ := h
    have hp : p ∈ (L2H.cxH L2.CX0 P w K mg base ["_law_e", "_law_size"] "_law_is_wide" (C8.fnScope s__law_is_wide) f cdv A outer s H E0 p).pn := List.mem_cons_self
    refine ⟨_, pss_cons (ps_if (PW.pt (pw_or (pt_val (pe_callB (call_isX hp zc fld) (by rfl) T.n_isinstance OT.b_isinstance (pa_cons (pv 0) (pa_cons (pe_glob (v := .ref M) (by rfl) gM rfl) pa_nil))))
        (pw_or (pt_val (pe_callB (call_isX hp zc fld) (by rfl) T.n_isinstance OT.b_isinstance (pa_cons (pv 0) (pa_cons (pe_glob (v := .ref Z) (by rfl) gZ rfl) pa_nil))))
        (pw_or1 (pt_not (pt_val (pe_callB (call_isX hp zc fld) (by rfl) T.n_isinstance OT.b_isinstance (pa_cons (pv 0) (pa_cons (pe_glob (v := .ref O) (by rfl) gO rfl) pa_nil))))))))) (pss_one (ps_ret pe_bl)) pss_nil)
      (pss_one (ps_ret (pe_and (pe_callE F1 hr hp zc fld (by rfl) D1.mgf D1.kp b1 (pa_cons (pv 0) (pa_cons pe_str pa_nil)))
        (pe_and (pe_callE F2 hr hp zc fld (by rfl) D2.mgf D2.kp b2 (pa_cons (pe_fX hp zc fld (pv 0)) pa_nil))
        (pe_one (pe_cmpR op_eq (pe_fX hp zc fld (pv 0)) (pv 1) (nomark _))))))), ?_⟩
    refine ⟨_, rfl, O, dd, _, _, _, _, rfl, hh.c, hh.d, hh.t, hh.h, .own M, k.m, _, rfl, ?_⟩
    refine iteF ?_
    refine ⟨_, rfl, O, dd, _, _, _, _, rfl, hh.c, hh.d, hh.t, hh.h, .own Z, k.z, _, rfl, ?_⟩
    refine iteF ?_
    refine ⟨_, rfl, O, dd, _, _, _, _, rfl, hh.c, hh.d, hh.t, hh.h, .own O, k.o, _, rfl, ?_⟩
    refine iteF ?_
    refine ⟨_, rfl, O, dd, _, "OneDirectionOnly", rfl, hh, tO.nw, rfl, kO.b, kO.v, _, rfl, ?_⟩
    refine iteT ?_
    refine ⟨_, rfl, O, dd, _, _, rfl, hh.c, hh.d, hh.t, hnd, hh.h, rfl, _, rfl, _, rfl, ?_⟩
    refine iteT ?_
    refine ⟨_, rfl, O, dd, _, _, rfl, hh.c, hh.d, hh.t, hnd, hh.h, rfl, _, rfl, rfl, ?_⟩
    rw [decide_eq_true rfl]
    exact q
/-- kept: a told row, what is due, and what was handed in, as data -/
def spKeptD (K : PySem.W.Frag) : Sp := fun vs H Q _ => ∃ (H0 : Hp) (p q0 hd rw0 : Addr) (ws ws2 us : List V) (g : List Ent) (n : Nat) (ds : List PyData), vs = [.ref p, .ref q0, .ref hd, .ref rw0] ∧ Same H0 H ∧ H0 p = none ∧ H p = some (.lst ws) ∧ Ents H ws g ∧ H q0 = some (.lst ws2) ∧ Ents H ws2 g ∧
  RowN n g ∧ g.length ≤ 10000 ∧ Dp K H0 (.ref hd) (.list ds) ∧ H rw0 = some (.lst us) ∧ DpAll K H0 us ds ∧ rw0 ≠ p ∧ SeqAt.shaped (.list ds) = true ∧ ∀ H', Same H0 H' → Q (.bl true) H'
theorem c__law_kept {f : Addr} {fd : FuncData} (D : C8.Def K mg "_law_kept" s__law_kept f fd) (b : Binds K fd ["_law_actual", "_law_expected", "_law_handed", "_law_rows"] []) (T : Bi mg) (c__law_same : C8.Cal P w K mg base 4 "_law_same" (spSame K) []) : C8.Cal P w K mg base 5 "_law_kept" (spKeptD K) [] := by
  refine C8.cal0 D b .nil sc__law_kept (fun vs H Q E h => ?_) (fun cdv A outer s H vs Q E hr h => ?_)
  · obtain ⟨H0, p, q0, hd, rw0, ws, ws2, us, g, n, ds, rfl, _⟩ := h
    rfl
  · obtain ⟨H0, p, q0, hd, rw0, ws, ws2, us, g, n, ds, rfl, s0, np, hp, hE, hq, hF, hN, hz, hH, hrw, hR, hpn, hsh, q⟩ := h
    refine ⟨_, (pss_cons (ps_if (PW.pt (pw_or (pt_not (pt_val (C8.pe_c c__law_same hr (by decide) (by rfl) (pa_cons (pv 0) (pa_cons (pv 1) pa_nil))))) (pw_or1 (pt_cmpR (op_neD hr.units) (pv 2) (pv 3) (nomark _))))) (pss_one (ps_ret pe_bl)) pss_nil)
  (pss_cons (ps_expr (pe_bm PySem.F.plainAttrs_list PySem.F.slot_list_append PySem.F.type_list_append mt_append (pv 0) (pa_cons (pe_tup (pa_cons (pe_tup (pa_cons pe_int pa_nil)) (pa_cons pe_int pa_nil))) pa_nil)))
  (pss_one (ps_ret (pe_cmpR (op_eqD hr.units) (pv 2) (pv 3) (nomark _)))))), ?_⟩
    refine ⟨_, rfl, _, rfl, p, q0, ws, ws2, g, n, rfl, hp, hE, hq, hF, hN, by omega, _, rfl, ?_⟩
    refine iteF ?_
    refine ⟨_, rfl, _, rfl, _, _, Dp.mono s0 hH, (Dp.lst (.inl (.inl hrw)) (DpAll.mono s0 hR)), hsh, hsh, _, rfl, ?_⟩
    rw [eqvD hsh]
    refine iteF ?_
    refine ⟨_, rfl, .inl ⟨rfl, _, .inl (.inl hp)⟩, (by show 1 ≤ sizeLine; decide), fun t1 nt1 => ⟨(by show 2 ≤ sizeLine; decide), fun t2 nt2 => ?_⟩⟩
    have sm1 : Same H (upd H t1 (.tup [.int 0])) := same_upd nt1
    have sm2 : Same (upd H t1 (.tup [.int 0])) (upd (upd H t1 (.tup [.int 0])) t2 (.tup [.ref t1, .int 1])) := same_upd nt2
    have hwl := hE.len
    refine ⟨p, ws, _, rfl, rfl, (sm1.trans sm2) _ _ hp, small100k (by omega), ?_⟩
    have sM : Same H0 (upd (upd (upd H t1 (.tup [.int 0])) t2 (.tup [.ref t1, .int 1])) p (.lst (ws ++ [.ref t2]))) := same_mut ((s0.trans sm1).trans sm2) np
    have hrw6 : (upd (upd (upd H t1 (.tup [.int 0])) t2 (.tup [.ref t1, .int 1])) p (.lst (ws ++ [.ref t2]))) rw0 = some (.lst us) := by
      rw [upd_ne hpn]
      exact (sm1.trans sm2) _ _ hrw
    generalize upd (upd (upd H t1 (.tup [.int 0])) t2 (.tup [.ref t1, .int 1])) p (.lst (ws ++ [.ref t2])) = H6 at sM hrw6 ⊢
    refine ⟨_, rfl, _, rfl, _, _, Dp.mono sM hH, (Dp.lst (.inl (.inl hrw6)) (DpAll.mono sM hR)), hsh, hsh, ?_⟩
    rw [eqvD hsh]
    exact q _ sM
end
end OT

set_option Elab.async false
set_option linter.all false
set_option maxRecDepth 100000
set_option maxHeartbeats 4000000
namespace OT
open PySem PySem.Spec PyProof.Rows L2
theorem dig_range {v s : Int} (h : 1 ≤ s) : -halfS s ≤ dig v s ∧ dig v s < s - halfS s := by
  unfold dig
  have h1 := Int.emod_nonneg (v + halfS s) (show s ≠ 0 by omega)
  have h2 := Int.emod_lt_of_pos (v + halfS s) (show 0 < s by omega)
  omega
theorem dig_hit {v s : Int} {i : Nat} (h : 1 ≤ s) (hi : (i : Int) < s) : (v - (-halfS s + (i : Int))) % s = 0 ↔ (i : Int) = (v + halfS s) % s := by
  have e : v - (-halfS s + (i : Int)) = (v + halfS s) - (i : Int) := by omega
  rw [e]
  have h1 := Int.emod_nonneg (v + halfS s) (show s ≠ 0 by omega)
  have h2 := Int.emod_lt_of_pos (v + halfS s) (show 0 < s by omega)
  have h3 : (i : Int) % s = (i : Int) := Int.emod_eq_of_lt (by omega) hi
  rw [← Int.emod_eq_emod_iff_emod_sub_eq_zero, h3]
  exact ⟨fun z => z.symm, fun z => z.symm⟩
theorem cut_mid {xs : List Int} {i n : Nat} (h : i + n ≤ xs.length) : cutV (xs.map V.int) (some (i : Int)) (some ((i + n : Nat) : Int)) = ((xs.drop i).take n).map V.int := by
  unfold cutV
  rw [HT.sIx_nat, HT.sIx_nat, List.length_map, Nat.min_eq_left h, Nat.min_eq_left (by omega), List.map_take, List.map_drop, show i + n - i = n by omega]
def zsM : List Int := [4, 5, 5, 5, 5, 5, 5, 5, 5, 5, 81, 81, 81, 81, 81, 81, 81, 81, 81]
theorem zsM_at (i : Nat) (h1 : 1 ≤ i) (h2 : i < 19) : ∃ z, zsM[i]? = some z ∧ z ≤ (if i < 10 then 5 else 81) := by
  have : ∀ i : Fin 19, 1 ≤ i.1 → ∃ z, zsM[i.1]? = some z ∧ z ≤ (if i.1 < 10 then 5 else 81) := by decide +kernel
  exact this ⟨i, h2⟩ h1
section
variable {P : Program} {w : World} {K : PySem.W.Frag} {mg : Str → Option Value} {base : Heap}
def spLow : Sp := fun vs H Q _ => ∃ (v s : Int), vs = [.int v, .int s] ∧ 1 ≤ s ∧ s ≤ 1000 ∧ Q (.int (dig v s)) H
theorem c__law_low {f : Addr} {fd : FuncData} (D : C8.Def K mg "_law_low" s__law_low f fd) (b : Binds K fd ["_law_at", "_law_step"] []) (T : Bi mg) : C8.Cal P w K mg base 1 "_law_low" spLow [] := by
  refine C8.cal0 D b .nil sc__law_low (fun vs H Q E h => ?_) (fun cdv A outer s H vs Q E hr h => ?_)
  · obtain ⟨v, s, rfl, _⟩ := h
    rfl
  · obtain ⟨v, st, rfl, h1, h2, q⟩ := h
    refine ⟨_, (pss_cons (ps_set (i := 2) sc__law_low.nd rfl (Or.inl rfl) (pe_op op_fdiv (pe_op op_sub (pv 1) pe_int) pe_int))
  (pss_cons (ps_for PassesOwn.never rfl (pi_range2 rfl T.n_range (pa_cons (pe_un un_neg (pv 2)) (pa_cons (pe_op op_sub (pv 1) (pv 2)) pa_nil))) (pg_name (i := 3) sc__law_low.nd rfl (Or.inl rfl)) (pss_one (ps_if (pt_cmpR op_eq (pe_op op_mod (pe_callTy call_int1 (by rfl) T.n_int OT.b_int (pa_cons (pe_op op_sub (pv 0) (pv 3)) pa_nil)) (pv 1)) pe_int (nomark _)) (pss_one (ps_ret (pv 3))) pss_nil)))
  (pss_one (ps_ret pe_int)))), ?_⟩
    refine ⟨_, rfl, _, _, rfl, rfl, _, _, rfl, rfl, ⟨by decide, by decide⟩, ?_⟩
    have hh : halfS st = (st - 1) / 2 := rfl
    show tSeq _ _ _ _ _
    have hb : -(2 : Int) ^ 62 ≤ -halfS st ∧ -halfS st < 2 ^ 62 ∧ -(2 : Int) ^ 62 ≤ st - halfS st ∧ st - halfS st < 2 ^ 62 := by
      rw [hh]
      refine ⟨?_, ?_, ?_, ?_⟩ <;> omega
    refine ⟨_, rfl, _, rfl, _, rfl, _, rfl, _, _, rfl, rfl, _, _, rfl, hb, ?_⟩
    rw [show (st - (st - 1) / 2 - -((st - 1) / 2)).toNat = st.toNat by omega]
    have m0 := Int.emod_nonneg (v + halfS st) (show st ≠ 0 by omega)
    have m1 := Int.emod_lt_of_pos (v + halfS st) (show 0 < st by omega)
    refine for_range (lo := -((st - 1) / 2)) (n := st.toNat) (fun i σ H2 => ∃ y : Option V, σ = [some (.int v), some (.int st), some (.int (halfS st)), y] ∧ H2 = H ∧ (i : Int) ≤ (v + halfS st) % st) ⟨none, rfl, rfl, by omega⟩ ?_ ?_
    · rintro i σ H2 hi ⟨y, rfl, rfl, hle⟩
      refine ⟨_, rfl, _, rfl, _, _, rfl, rfl, .inl ⟨_, rfl, _, rfl, _, _, rfl, rfl, (by show (0 : Int) < st; omega), rfl, _, rfl, ?_⟩⟩
      refine iteD (fun h => ?_) (fun h => ?_)
      · have h3 := (dig_hit h1 (show (i : Int) < st by omega)).mp (V.int.inj h)
        refine ⟨_, rfl, ?_⟩
        have e : -((st - 1) / 2) + (i : Int) = dig v st := by
          unfold dig
          rw [h3, hh]
          omega
        rw [e]
        exact q
      · refine ⟨_, rfl, rfl, ?_⟩
        have h3 : ¬ (i : Int) = (v + halfS st) % st := fun z => h (congrArg V.int ((dig_hit h1 (show (i : Int) < st by omega)).mpr z))
        omega
    · rintro σ H2 ⟨y, rfl, rfl, hle⟩
      omega
def spMatrix (K : PySem.W.Frag) : Sp := fun vs H Q _ => ∃ (c : Int) (ln sz : Nat), vs = [.int c, .int (ln : Int), .int (sz : Int)] ∧ 1 ≤ ln ∧ ln ≤ 3 ∧ 1 ≤ sz ∧ sz ≤ 3 ∧ ∀ p us Ms H', Same H H' → H' p = some (.lst us) → Pls H' us Ms → Ms.length = ln → (∀ l ∈ Ms, l.length = sz ∧ ∀ x ∈ l, x.natAbs ≤ 40) → Q (.ref p) H'
theorem c__law_matrix {f : Addr} {fd : FuncData} (D : C8.Def K mg "_law_matrix" s__law_matrix f fd) (b : Binds K fd ["_law_cell_here", "_law_lines", "_law_size"] []) (T : Bi mg) (c__law_draws : C8.Cal P w K mg base 1 "_law_draws" (spDraws K) []) : C8.Cal P w K mg base 2 "_law_matrix" (spMatrix K) [] := by
  refine C8.cal0 D b .nil sc__law_matrix (fun vs H Q E h => ?_) (fun cdv A outer s H vs Q E hr h => ?_)
  · obtain ⟨c, ln, sz, rfl, _⟩ := h
    rfl
  · obtain ⟨c, ln, sz, rfl, hl1, hl3, hs1, hs3, q⟩ := h
    refine ⟨_, (pss_cons (ps_set (i := 3) sc__law_matrix.nd rfl (Or.inr rfl) (C8.pe_c c__law_draws hr (by decide) (by rfl) (pa_cons (pv 0) (pa_cons (pe_op op_cat (pe_lst (pa_cons pe_int (pa_cons pe_int (pa_cons pe_int (pa_cons pe_int (pa_cons pe_int (pa_cons pe_int (pa_cons pe_int (pa_cons pe_int (pa_cons pe_int (pa_cons pe_int pa_nil))))))))))) (pe_lc (own := [("_law_k", 5)]) (g := (gName 5)) (tt := tYes) rfl sc__law_matrix.nd (pi_range1 rfl T.n_range (pa_cons pe_int pa_nil)) (blkOk_by (N := ["_law_cell_here", "_law_lines", "_law_size", "_law_draws_here", "_law_numbers", "_law_k"]) (sc := C8.fnScope s__law_matrix) (by decide +kernel)) (fun _ _ _ _ _ => (pg_name (i := 5) sc__law_matrix.nd rfl (Or.inl rfl))) (fun _ _ _ _ _ => pts_nil) (fun _ _ _ _ _ => pe_int))) pa_nil))))
  (pss_cons (ps_set (i := 4) sc__law_matrix.nd rfl (Or.inr rfl) (pe_lc (own := [("_law_k", 5)]) (g := (gName 5)) (tt := tYes) rfl sc__law_matrix.nd (pi_range1 rfl T.n_range (pa_cons pe_int pa_nil)) (blkOk_by (N := ["_law_cell_here", "_law_lines", "_law_size", "_law_draws_here", "_law_numbers", "_law_k"]) (sc := C8.fnScope s__law_matrix) (by decide +kernel)) (fun _ _ _ _ _ => (pg_name (i := 5) sc__law_matrix.nd rfl (Or.inl rfl))) (fun _ _ _ _ _ => pts_nil) (fun _ _ _ _ _ => (pe_op op_sub (pe_ix (show IxR _ (rIxL K) from ix_list) (pv 3) (pe_op op_add pe_int (pv 5)) (fun _ _ => rfl)) pe_int))))
  (C8.pss_cut (ps_if (pt_cmpR op_eq (pe_ix ix_list (pv 3) pe_int (fun _ _ => rfl)) pe_int (nomark _)) (pss_one (ps_set (i := 4) sc__law_matrix.nd rfl (Or.inr rfl) (pe_lc (own := [("_law_k", 5)]) (g := (gName 5)) (tt := tYes) rfl sc__law_matrix.nd (pi_range1 rfl T.n_range (pa_cons pe_int pa_nil)) (blkOk_by (N := ["_law_cell_here", "_law_lines", "_law_size", "_law_draws_here", "_law_numbers", "_law_k"]) (sc := C8.fnScope s__law_matrix) (by decide +kernel)) (fun _ _ _ _ _ => (pg_name (i := 5) sc__law_matrix.nd rfl (Or.inl rfl))) (fun _ _ _ _ _ => pts_nil) (fun _ _ _ _ _ => (pe_op op_sub (pe_ix (show IxR _ (rIxL K) from ix_list) (pv 3) (pe_op op_add pe_int (pv 5)) (fun _ _ => rfl)) pe_int))))) pss_nil)
  (pss_one (ps_ret (pe_lc (own := [("_law_k", 5)]) (g := (gName 5)) (tt := tYes) rfl sc__law_matrix.nd (pi_range1 rfl T.n_range (pa_cons (pv 1) pa_nil)) (blkOk_by (N := ["_law_cell_here", "_law_lines", "_law_size", "_law_draws_here", "_law_numbers", "_law_k"]) (sc := C8.fnScope s__law_matrix) (by decide +kernel)) (fun _ _ _ _ _ => (pg_name (i := 5) sc__law_matrix.nd rfl (Or.inl rfl))) (fun _ _ _ _ _ => pts_nil) (fun _ _ _ _ _ => (pe_callTy (show CallR _ _ (rTupOf K) from call_tuple_of) (by rfl) T.n_tuple OT.b_tuple (pa_cons (pe_slice (show SlR _ (rSlL K) from sl_list) (pv 4) (po_some (pe_op op_mul pe_int (pv 5))) (po_some (pe_op op_add (pe_op op_mul pe_int (pv 5)) (pv 2)))) pa_nil))))))))), ?_⟩
    refine ⟨_, rfl, by decide, fun p np => ?_⟩
    have s1 : Same H (upd H p (.lst [.int 4, .int 5, .int 5, .int 5, .int 5, .int 5, .int 5, .int 5, .int 5, .int 5])) := same_upd np
    have hp : (upd H p (.lst [.int 4, .int 5, .int 5, .int 5, .int 5, .int 5, .int 5, .int 5, .int 5, .int 5])) p = some (.lst [.int 4, .int 5, .int 5, .int 5, .int 5, .int 5, .int 5, .int 5, .int 5, .int 5]) := upd_same
    generalize upd H p (.lst [.int 4, .int 5, .int 5, .int 5, .int 5, .int 5, .int 5, .int 5, .int 5, .int 5]) = H1 at s1 hp ⊢
    refine ⟨9, rfl, by decide, by decide, fun p2 np2 => ?_⟩
    refine lc_range (lo := 0) (n := 9) (fun i H3 => Same H1 H3 ∧ H3 p2 = some (.lst (List.replicate i (V.int 81)))) ⟨same_upd np2, upd_same⟩ ?_ ?_
    · rintro i H3 hi ⟨sm, hD⟩
      refine ⟨rfl, tYes_of ?_⟩
      refine ⟨_, hD, ?_, same_mut sm np2, ?_⟩
      · rw [List.length_replicate]
        exact small1000 (by omega)
      · rw [upd_same, List.replicate_succ']
    rintro H3 ⟨sm3, hp2⟩
    refine ⟨p, p2, _, _, rfl, rfl, sm3 _ _ hp, hp2, by decide, fun p3 np3 => ?_⟩
    have s4 : Same H3 (upd H3 p3 (.lst (zsM.map V.int))) := same_upd np3
    have sA := (s1.trans sm3).trans s4
    refine ⟨p3, zsM, c, rfl, .inl (.inl upd_same), by decide, by decide, fun ds H5 p5 hin sm5 np5 hp5 => ?_⟩
    have sB := sA.trans sm5
    clear hp hp2 np np2 np3 s1 sm3 s4 sA sm5
    have L5 : SqL K H5 p5 (ds.map V.int) := .inl (.inl hp5)
    have num : ∀ (o : Nat) (m : Int), (o = 1 ∧ m = 2) ∨ (o = 10 ∧ m = 40) → ∀ i : Nat, i < 9 → ∃ d : Int, (ds.map V.int)[o + i]? = some (.int d) ∧ (d - m).natAbs ≤ 40 := fun o m hom i hi => by
      obtain ⟨z, hz, hz2⟩ := zsM_at (o + i) (by omega) (by omega)
      obtain ⟨d, g, ga, gb⟩ := hin.get hz
      refine ⟨d, g, ?_⟩
      rcases hom with ⟨rfl, rfl⟩ | ⟨rfl, rfl⟩
      · rw [if_pos (by omega)] at hz2
        omega
      · rw [if_neg (by omega)] at hz2
        omega
    obtain ⟨d0, g0, g0a, g0b⟩ := hin.get (i := 0) (z := 4) rfl
    refine ⟨9, rfl, by decide, by decide, fun p6 np6 => ?_⟩
    refine lc_range (lo := 0) (n := 9) (fun i H3 => Same H5 H3 ∧ ∃ ns : List Int, ns.length = i ∧ (∀ x ∈ ns, x.natAbs ≤ 40) ∧ H3 p6 = some (.lst (ns.map V.int))) ⟨same_upd np6, [], rfl, fun x hx => (by cases hx), upd_same⟩ ?_ ?_
    · rintro i H3 hi ⟨sm, ns, hnl, hns, hD⟩
      obtain ⟨d, g, gb⟩ := num 1 2 (.inl ⟨rfl, rfl⟩) i hi
      have hix : atI (ds.map V.int) ((1 : Int) + ((0 : Int) + (i : Int))) = some (.int d) := by
        rw [show (1 : Int) + ((0 : Int) + (i : Int)) = ((1 + i : Nat) : Int) by omega]
        exact atI_nat g
      refine ⟨rfl, tYes_of ?_⟩
      refine ⟨_, rfl, _, rfl, _, _, rfl, rfl, p5, _, _, _, rfl, rfl, sm.seq L5, hix, _, _, rfl, rfl, _, hD, ?_, same_mut sm np6, ns ++ [d - 2], by rw [List.length_append, hnl]; rfl, ?_, ?_⟩
      · rw [List.length_map]
        exact small1000 (by omega)
      · intro x hx
        rcases List.mem_append.mp hx with hx | hx
        · exact hns x hx
        · rw [List.mem_singleton.mp hx]
          exact gb
      · rw [upd_same, List.map_append]
        rfl
    rintro H6 ⟨sm6, ns, hnl, hns, hp6⟩
    have sC := sB.trans sm6
    refine ⟨fun σ H7 => ∃ (q6 : Addr) (ns : List Int) (y5 : Option V), σ = [some (.int c), some (.int (ln : Int)), some (.int (sz : Int)), some (.ref p5), some (.ref q6), y5] ∧ Same H H7 ∧ ns.length = 9 ∧ (∀ x ∈ ns, x.natAbs ≤ 40) ∧ H7 q6 = some (.lst (ns.map V.int)), ?_, ?_⟩
    · refine ⟨_, rfl, p5, _, 0, _, rfl, rfl, sm6.seq L5, atI_nat (j := 0) g0, rfl, _, rfl, iteD (fun _ => ?_) (fun _ => ?_)⟩
      · refine ⟨9, rfl, by decide, by decide, fun p7 np7 => ?_⟩
        refine lc_range (lo := 0) (n := 9) (fun i H3 => Same H6 H3 ∧ ∃ ns : List Int, ns.length = i ∧ (∀ x ∈ ns, x.natAbs ≤ 40) ∧ H3 p7 = some (.lst (ns.map V.int))) ⟨same_upd np7, [], rfl, fun x hx => (by cases hx), upd_same⟩ ?_ ?_
        · rintro i H3 hi ⟨sm, ns, hnl, hns, hD⟩
          obtain ⟨d, g, gb⟩ := num 10 40 (.inr ⟨rfl, rfl⟩) i hi
          have hix : atI (ds.map V.int) ((10 : Int) + ((0 : Int) + (i : Int))) = some (.int d) := by
            rw [show (10 : Int) + ((0 : Int) + (i : Int)) = ((10 + i : Nat) : Int) by omega]
            exact atI_nat g
          refine ⟨rfl, tYes_of ?_⟩
          refine ⟨_, rfl, _, rfl, _, _, rfl, rfl, p5, _, _, _, rfl, rfl, (sm6.trans sm).seq L5, hix, _, _, rfl, rfl, _, hD, ?_, same_mut sm np7, ns ++ [d - 40], by rw [List.length_append, hnl]; rfl, ?_, ?_⟩
          · rw [List.length_map]
            exact small1000 (by omega)
          · intro x hx
            rcases List.mem_append.mp hx with hx | hx
            · exact hns x hx
            · rw [List.mem_singleton.mp hx]
              exact gb
          · rw [upd_same, List.map_append]
            rfl
        · rintro H7 ⟨sm7, ns, hnl, hns, hp7⟩
          exact ⟨p7, ns, _, rfl, sC.trans sm7, hnl, hns, hp7⟩
      · exact ⟨p6, ns, _, rfl, sC, hnl, hns, hp6⟩
    · rintro σ H7 ⟨q6, ns, y5, rfl, s7, hnl, hns, hq6⟩
      refine ⟨_, rfl, _, rfl, by omega, by omega, fun p8 np8 => ?_⟩
      rw [Int.toNat_natCast]
      have hl3' : (2 : Nat) ^ 64 > 0 := by decide
      refine lc_range (lo := 0) (n := ln) (fun i H8 => Same H7 H8 ∧ ∃ (us : List V) (Ms : List Pl), Ms.length = i ∧ H8 p8 = some (.lst us) ∧ Pls H8 us Ms ∧ ∀ l ∈ Ms, l.length = sz ∧ ∀ x ∈ l, x.natAbs ≤ 40) ⟨same_upd np8, [], [], rfl, upd_same, .nil, fun l hl => (by cases hl)⟩ ?_ ?_
      · rintro i H8 hi ⟨sm, us, Ms, hMl, hD, hP, hM⟩
        refine ⟨rfl, tYes_of ?_⟩
        have e1 : (3 : Int) * ((0 : Int) + (i : Int)) = ((3 * i : Nat) : Int) := by omega
        have e2 : ((3 * i : Nat) : Int) + (sz : Int) = ((3 * i + sz : Nat) : Int) := by omega
        have hcl : 3 * i + sz ≤ ns.length := by omega
        refine ⟨_, rfl, _, rfl, _, _, rfl, rfl, .inl ⟨by decide, by decide⟩, _, rfl, _, rfl, _, _, rfl, rfl, .inl ⟨by decide, by decide⟩, _, rfl, _, _, rfl, rfl, _, rfl, q6, _, rfl, .inl (.inl (sm _ _ hq6)), fun p9 np9 => ?_⟩
        rw [e1, e2, cut_mid hcl]
        have s9 : Same H8 (upd H8 p9 (.lst (((ns.drop (3 * i)).take sz).map V.int))) := same_upd np9
        have hp9 : (upd H8 p9 (.lst (((ns.drop (3 * i)).take sz).map V.int))) p9 = some (.lst (((ns.drop (3 * i)).take sz).map V.int)) := upd_same
        generalize upd H8 p9 (.lst (((ns.drop (3 * i)).take sz).map V.int)) = H9 at s9 hp9 ⊢
        refine ⟨p9, _, rfl, .inl ⟨.inl (.inl hp9), fun l nl => ?_⟩⟩
        have s10 : Same H9 (upd H9 l (.tup (((ns.drop (3 * i)).take sz).map V.int))) := same_upd nl
        have hl : (upd H9 l (.tup (((ns.drop (3 * i)).take sz).map V.int))) l = some (.tup (((ns.drop (3 * i)).take sz).map V.int)) := upd_same
        generalize upd H9 l (.tup (((ns.drop (3 * i)).take sz).map V.int)) = H10 at s10 hl ⊢
        have sX := s9.trans s10
        have hD' := sX _ _ hD
        have hul := hP.len
        refine ⟨us, hD', small1000 (by omega), same_mut (sm.trans sX) np8, us ++ [.ref l], Ms ++ [(ns.drop (3 * i)).take sz], by rw [List.length_append, hMl]; rfl, upd_same, ((hP.mono sX).app (.cons hl .nil)).updL hD', fun k hk => ?_⟩
        rcases List.mem_append.mp hk with hk | hk
        · exact hM k hk
        · rw [List.mem_singleton.mp hk]
          refine ⟨by rw [List.length_take, List.length_drop]; omega, fun x hx => hns x (List.mem_of_mem_drop (List.mem_of_mem_take hx))⟩
      · rintro H8 ⟨sm, us, Ms, hMl, hD, hP, hM⟩
        exact q p8 us Ms H8 (s7.trans sm) hD hP hMl hM
end
end OT

set_option Elab.async false
set_option linter.all false
set_option maxRecDepth 100000
set_option maxHeartbeats 4000000
namespace OT
open PySem PySem.Spec PyProof.Rows L2
/-- the dimension that a row and a matrix ask for -/
def szOf (es : List Ent) (Ms : List Pl) : Nat := if es = [] then (Ms.headD []).length else dimE es
def mixM (es : List Ent) (Ms : List Pl) : Bool := decide (∃ l ∈ Ms, l.length ≠ szOf es Ms)
theorem mixL_all {n : Int} {ns : List Int} : mixL (n :: ns) = decide (∃ m ∈ ns, m ≠ n) := by
  unfold mixL
  show ((!decide (V.int n = V.int n)) :: ns.map fun m => !decide (V.int m = V.int n)).any id = _
  rw [List.any_cons, decide_eq_true rfl]
  show (false || (ns.map fun m => !decide (V.int m = V.int n)).any id) = _
  rw [Bool.false_or, List.any_map]
  by_cases h : ∃ m ∈ ns, m ≠ n
  · rw [decide_eq_true h]
    obtain ⟨m, hm, hn⟩ := h
    refine List.any_eq_true.mpr ⟨m, hm, ?_⟩
    show (!decide (V.int m = V.int n)) = true
    rw [decide_eq_false fun z => hn (V.int.inj z)]
    rfl
  · rw [decide_eq_false h]
    refine List.any_eq_false.mpr fun m hm => ?_
    show ¬ (!decide (V.int m = V.int n)) = true
    rw [decide_eq_true (congrArg V.int (Decidable.byContradiction fun z => h ⟨m, hm, z⟩))]
    decide
theorem nz_plens : ∀ {Ms : List Pl}, (∀ l ∈ Ms, 1 ≤ l.length) → (plens Ms).filter nz = plens Ms
  | [], _ => rfl
  | l :: r, h => by
    have h1 := h l List.mem_cons_self
    show ((l.length : Int) :: plens r).filter nz = (l.length : Int) :: plens r
    rw [List.filter_cons, if_pos (show nz (l.length : Int) = true from decide_eq_true (by omega)), nz_plens fun x hx => h x (List.mem_cons_of_mem _ hx)]
theorem mixM_eq {es : List Ent} {Ms : List Pl} (hM : ∀ l ∈ Ms, 1 ≤ l.length) (h1 : 1 ≤ Ms.length) (he : ∀ e ∈ es, 1 ≤ e.1.length) : mixL ((dims [es] ++ plens Ms).filter nz) = mixM es Ms := by
  have hex : ∀ {n : Nat} {L : List Pl}, (∃ m ∈ plens L, m ≠ (n : Int)) ↔ ∃ l ∈ L, l.length ≠ n := fun {n L} => by
    unfold plens
    constructor
    · rintro ⟨m, hm, hn⟩
      obtain ⟨l, hl, rfl⟩ := List.mem_map.mp hm
      exact ⟨l, hl, by omega⟩
    · rintro ⟨l, hl, hn⟩
      exact ⟨_, List.mem_map_of_mem hl, by omega⟩
  rw [List.filter_append, nz_plens hM]
  unfold mixM szOf
  cases es with
  | nil =>
    rw [if_pos rfl]
    show mixL ([] ++ plens Ms) = _
    rw [List.nil_append]
    cases Ms with
    | nil => simp at h1
    | cons l r =>
      show mixL ((l.length : Int) :: plens r) = decide (∃ k ∈ l :: r, k.length ≠ l.length)
      rw [mixL_all]
      refine decide_eq_decide.mpr ?_
      rw [hex]
      constructor
      · rintro ⟨k, hk, hn⟩
        exact ⟨k, List.mem_cons_of_mem _ hk, hn⟩
      · rintro ⟨k, hk, hn⟩
        rcases List.mem_cons.mp hk with rfl | hk
        · exact absurd rfl hn
        · exact ⟨k, hk, hn⟩
  | cons e r =>
    have hd : 1 ≤ e.1.length := he e List.mem_cons_self
    rw [if_neg (by simp)]
    show mixL ([((e.1.length : Nat) : Int)].filter nz ++ plens Ms) = decide (∃ l ∈ Ms, l.length ≠ e.1.length)
    rw [List.filter_cons, if_pos (show nz ((e.1.length : Nat) : Int) = true from decide_eq_true (by omega))]
    show mixL (((e.1.length : Nat) : Int) :: plens Ms) = _
    rw [mixL_all]
    exact decide_eq_decide.mpr hex
section
variable {P : Program} {w : World} {K : PySem.W.Frag} {mg : Str → Option Value} {base : Heap}
def spMixM (K : PySem.W.Frag) : Sp := fun vs H Q _ => ∃ (a b : Addr) (xs : List V) (es : List Ent) (us : List V) (Ms : List Pl), vs = [.ref a, .ref b] ∧ H a = some (.lst xs) ∧ Ents H xs es ∧ es.length ≤ 1000 ∧ H b = some (.lst us) ∧ Pls H us Ms ∧ 1 ≤ Ms.length ∧ Q (.bl (mixM es Ms)) H
theorem c__law_mixed {f : Addr} {fd : FuncData} (D : C8.Def K mg "_law_mixed" s__law_mixed f fd) (b : Binds K fd ["_law_row_here", "_law_matrix_here"] []) (T : Bi mg) : C8.Cal P w K mg base 1 "_law_mixed" (spMixM K) [] := by
  refine C8.cal0 D b .nil sc__law_mixed (fun vs H Q E h => ?_) (fun cdv A outer s H vs Q E hr h => ?_)
  · obtain ⟨a, b, xs, es, us, Ms, rfl, _⟩ := h
    rfl
  · obtain ⟨a, b, xs, es, us, Ms, rfl, ha, hE, hz, hb, hP, hM1, q⟩ := h
    refine ⟨_, (pss_cons (ps_set (i := 2) sc__law_mixed.nd rfl (Or.inl rfl) (pe_callB call_len_seq (by rfl) T.n_len OT.b_len (pa_cons (pe_ix ix_list (pv 1) pe_int (fun _ _ => rfl)) pa_nil)))
  (C8.pss_cut (ps_if (pt_cmpR op_gt (pe_callB call_len_seq (by rfl) T.n_len OT.b_len (pa_cons (pv 0) pa_nil)) pe_int (nomark _)) (pss_one (ps_set (i := 2) sc__law_mixed.nd rfl (Or.inl rfl) (pe_callB call_len_seq (by rfl) T.n_len OT.b_len (pa_cons (pe_ix ix_tup (pe_ix ix_list (pv 0) pe_int (fun _ _ => rfl)) pe_int (fun _ _ => rfl)) pa_nil)))) pss_nil)
  (pss_cons (ps_for PassesOwn.never rfl (pi_list (pv 1)) (pg_name (i := 3) sc__law_mixed.nd rfl (Or.inl rfl)) (pss_one (ps_if (pt_cmpR op_ne (pe_callB call_len_seq (by rfl) T.n_len OT.b_len (pa_cons (pv 3) pa_nil)) (pv 2) (nomark _)) (pss_one (ps_ret pe_bl)) pss_nil)))
  (pss_one (ps_ret pe_bl))))), ?_⟩
    have hx := hE.len
    have hul := hP.len
    have hS : SqL K H b us := .inl (.inl hb)
    have hu0 : 0 < us.length := by omega
    obtain ⟨p0, k0, he0, hk0, hp0⟩ := hP.get (i := 0) (v := us[0]) (List.getElem?_eq_getElem hu0)
    have hv0 : us[0]? = some (.ref p0) := by rw [List.getElem?_eq_getElem hu0, he0]
    have hhd : Ms.headD [] = k0 := by
      cases Ms with
      | nil => cases hk0
      | cons l r => exact Option.some.inj hk0
    refine ⟨_, rfl, b, _, 0, _, rfl, rfl, hS, atI_nat (j := 0) hv0, p0, _, rfl, .inr (.inl (.inl hp0)), ?_⟩
    rw [List.length_map]
    refine ⟨fun σ H2 => ∃ y : Option V, σ = [some (.ref a), some (.ref b), some (.int (szOf es Ms : Nat)), y] ∧ H2 = H, ?_, ?_⟩
    · refine ⟨_, rfl, a, _, rfl, .inl (.inl (.inl ha)), _, _, rfl, rfl, _, rfl, iteD (fun c => ?_) (fun c => ?_)⟩
      · have p1 : 0 < es.length := by omega
        obtain ⟨v1, hv1, t1, q1, rfl, ht1, hq1⟩ := hE.at (i := 0) p1
        refine ⟨_, rfl, a, _, 0, _, rfl, rfl, .inl (.inl ha), atI_nat (j := 0) hv1, t1, _, 0, _, rfl, rfl, .inl (.inl ht1), atI_nat (j := 0) rfl, q1, _, rfl, .inr (.inl (.inl hq1)), ?_⟩
        refine ⟨none, ?_, rfl⟩
        have hne : es ≠ [] := fun z => by rw [z] at p1; cases p1
        have hd : szOf es Ms = (es[0]'p1).1.length := by
          unfold szOf
          rw [if_neg hne]
          cases es with
          | nil => exact absurd rfl hne
          | cons e r => rfl
        rw [hd, List.length_map]
        rfl
      · have hf : es = [] := List.length_eq_zero_iff.mp (by omega)
        refine ⟨none, ?_, rfl⟩
        unfold szOf
        rw [if_pos hf, hhd]
        rfl
    · rintro σ H2 ⟨y, rfl, rfl⟩
      refine ⟨_, rfl, b, rfl, ⟨_, hS⟩, ?_⟩
      refine for_list (K := K) (xs := us) (fun i σ H3 => ∃ y : Option V, σ = [some (.ref a), some (.ref b), some (.int (szOf es Ms : Nat)), y] ∧ H3 = H2 ∧ ∀ l ∈ Ms.take i, l.length = szOf es Ms) ⟨y, rfl, rfl, fun l hl => (by cases hl)⟩ ?_ ?_ ?_
      · rintro i σ H3 _ ⟨_, _, rfl, _⟩
        exact hS
      · rintro i x σ H3 hx3 ⟨y, rfl, rfl, hall⟩
        obtain ⟨p1, k1, rfl, hk1, hp1⟩ := hP.get hx3
        refine ⟨_, rfl, p1, _, rfl, .inr (.inl (.inl hp1)), _, rfl, rfl, _, rfl, iteND (fun h => ?_) (fun h => ?_)⟩
        · have hm : mixM es Ms = true := decide_eq_true ⟨k1, List.mem_of_getElem? hk1, fun z => h (by rw [List.length_map, z])⟩
          rw [hm] at q
          exact q
        · refine ⟨_, rfl, rfl, fun l hl => ?_⟩
          rw [List.take_add_one, hk1] at hl
          rcases List.mem_append.mp hl with hl | hl
          · exact hall l hl
          · have : l = k1 := List.mem_singleton.mp hl
            rw [this]
            have h2 := V.int.inj h
            rw [List.length_map] at h2
            omega
      · rintro σ H3 ⟨y, rfl, rfl, hall⟩
        rw [hul, List.take_length] at hall
        have hm : mixM es Ms = false := decide_eq_false fun ⟨l, hl, hn⟩ => hn (hall l hl)
        rw [hm] at q
        exact q
def spUnpd : Sp := fun vs H Q _ => ∃ (a : Addr) (s : Int) (k : Nat) (xs : List V) (es : List Ent), vs = [.ref a, .int s, .int ((k : Int) + 1)] ∧ 1 ≤ s ∧ s ≤ 1000 ∧ k ≤ 1000 ∧ H a = some (.lst xs) ∧ Ents H xs es ∧ es.length ≤ 1000 ∧ (∀ e ∈ es, e.1.length = 1) ∧ wantRow H (unpL s k es) Q
theorem c__law_unpacked {f : Addr} {fd : FuncData} (D : C8.Def K mg "_law_unpacked" s__law_unpacked f fd) (b : Binds K fd ["_law_row_here", "_law_step", "_law_count"] []) (T : Bi mg) (c__law_low : C8.Cal P w K mg base 1 "_law_low" spLow []) (c__law_row : C8.Cal P w K mg base 1 "_law_row" (spGather K) []) : C8.Cal P w K mg base 2 "_law_unpacked" spUnpd [] := by
  refine C8.cal0 D b .nil sc__law_unpacked (fun vs H Q E h => ?_) (fun cdv A outer s H vs Q E hr h => ?_)
  · obtain ⟨a, s, k, xs, es, rfl, _⟩ := h
    rfl
  · obtain ⟨a, st, k, xs, es, rfl, h1, h2, hk, ha, hE, hz, hl1, q⟩ := h
    refine ⟨_, (pss_cons (ps_set (i := 3) sc__law_unpacked.nd rfl (Or.inl rfl) (pe_lst pa_nil))
  (pss_cons (ps_for PassesOwn.never rfl (pi_list (pv 0)) (pg_tup rfl (pgs_cons (pg_name (i := 4) sc__law_unpacked.nd rfl (Or.inl rfl)) (pgs_cons (pg_name (i := 5) sc__law_unpacked.nd rfl (Or.inl rfl)) pgs_nil))) (pss_cons (ps_set (i := 6) sc__law_unpacked.nd rfl (Or.inl rfl) (pe_ix ix_tup (pv 4) pe_int (fun _ _ => rfl)))
  (pss_cons (ps_set (i := 7) sc__law_unpacked.nd rfl (Or.inl rfl) (pe_lst pa_nil))
  (pss_cons (ps_for PassesOwn.never rfl (pi_range1 rfl T.n_range (pa_cons (pe_op op_sub (pv 2) pe_int) pa_nil)) (pg_name (i := 8) sc__law_unpacked.nd rfl (Or.inl rfl)) (pss_cons (ps_set (i := 9) sc__law_unpacked.nd rfl (Or.inl rfl) (C8.pe_c c__law_low hr (by decide) (by rfl) (pa_cons (pv 6) (pa_cons (pv 1) pa_nil))))
  (pss_cons (ps_expr (pe_bm PySem.F.plainAttrs_list PySem.F.slot_list_append PySem.F.type_list_append mt_append (pv 7) (pa_cons (pv 9) pa_nil)))
  (pss_one (ps_set (i := 6) sc__law_unpacked.nd rfl (Or.inl rfl) (pe_op op_fdiv (pe_op op_sub (pv 6) (pv 9)) (pv 1)))))))
  (pss_one (ps_expr (pe_bm PySem.F.plainAttrs_list PySem.F.slot_list_append PySem.F.type_list_append mt_append (pv 3) (pa_cons (pe_tup (pa_cons (pe_callTy call_tuple_of (by rfl) T.n_tuple OT.b_tuple (pa_cons (pe_op op_cat (pv 7) (pe_lst (pa_cons (pv 6) pa_nil))) pa_nil)) (pa_cons (pv 5) pa_nil))) pa_nil))))))))
  (pss_one (ps_ret (C8.pe_c c__law_row hr (by decide) (by rfl) (pa_cons (pv 3) pa_nil)))))), ?_⟩
    have hx := hE.len
    have hS : SqL K H a xs := .inl (.inl ha)
    refine ⟨by decide, fun p np => ?_⟩
    have s1 : Same H (upd H p (.lst [])) := same_upd np
    refine ⟨_, rfl, a, rfl, ⟨_, s1.seq hS⟩, ?_⟩
    refine for_list (K := K) (xs := xs) (fun i σ H2 => ∃ (ws : List V) (y4 y5 y6 y7 y8 y9 : Option V), σ = [some (.ref a), some (.int st), some (.int ((k : Int) + 1)), some (.ref p), y4, y5, y6, y7, y8, y9] ∧ Same H H2 ∧ H2 p = some (.lst ws) ∧ Ents H2 ws (unpL st k (es.take i))) ⟨[], none, none, none, none, none, none, rfl, s1, upd_same, .nil⟩ ?_ ?_ ?_
    · rintro i σ H2 _ ⟨_, _, _, _, _, _, _, _, sm, _⟩
      exact sm.seq hS
    · rintro i x σ H2 hx ⟨ws, y4, y5, y6, y7, y8, y9, rfl, sm, hp, hW⟩
      obtain ⟨e, hee, t, pe, rfl, ht, hpe⟩ := (hE.mono sm).get hx
      have hi := (List.getElem?_eq_some_iff.mp hee).1
      have hem : e ∈ es := List.mem_of_getElem? hee
      refine ⟨t, _, rfl, .inl (.inl ht), rfl, _, _, rfl, _, _, rfl, rfl, ?_⟩
      refine ⟨_, rfl, pe, _, 0, _, rfl, rfl, .inl (.inl hpe), head_at (hl1 e hem), ?_⟩
      refine ⟨by decide, fun c nc => ?_⟩
      have s3 : Same H2 (upd H2 c (.lst [])) := same_upd nc
      refine ⟨_, rfl, _, _, rfl, rfl, _, rfl, by omega, by omega, ?_⟩
      rw [show ((k : Int) + 1 - 1).toNat = k by omega]
      generalize hv : e.1.headD 0 = v at *
      refine for_range (lo := 0) (n := k) (fun j σ H3 => ∃ y8 y9 : Option V, σ = [some (.ref a), some (.int st), some (.int ((k : Int) + 1)), some (.ref p), some (.ref pe), some (.int e.2), some (.int (digsN.restN v st j)), some (.ref c), y8, y9] ∧ Same H2 H3 ∧ H3 c = some (.lst ((digsN v st j).map V.int))) ⟨y8, y9, rfl, s3, upd_same⟩ ?_ ?_
      · rintro j σ H3 hj ⟨y8, y9, rfl, sm3, hc⟩
        refine ⟨_, rfl, _, rfl, _, st, rfl, h1, h2, ?_⟩
        refine ⟨_, rfl, .inl ⟨rfl, _, .inl (.inl hc)⟩, _, rfl, c, _, _, rfl, rfl, hc, ?_, ?_⟩
        · rw [List.length_map, digsN_len]
          exact small1000 (by omega)
        · refine ⟨_, rfl, _, rfl, _, _, rfl, rfl, _, rfl, _, _, rfl, rfl, ⟨by omega, by omega⟩, ?_⟩
          refine ⟨_, _, rfl, same_mut sm3 nc, ?_⟩
          rw [upd_same]
          show _ = some (HO.lst (List.map V.int (digsN v st j ++ [dig (digsN.restN v st j) st])))
          rw [List.map_append]
          rfl
      · rintro σ H3 ⟨y8, y9, rfl, sm3, hc⟩
        have hp3 := sm3 _ _ hp
        refine ⟨_, rfl, .inl ⟨rfl, _, .inl (.inl hp3)⟩, ?_⟩
        refine ⟨_, rfl, _, rfl, (by show 1 ≤ sizeLine; decide), fun p4 np4 => ?_⟩
        have s4 : Same H3 (upd H3 p4 (.lst [.int (digsN.restN v st k)])) := same_upd np4
        have hp4 : (upd H3 p4 (.lst [.int (digsN.restN v st k)])) p4 = some (.lst [.int (digsN.restN v st k)]) := upd_same
        generalize upd H3 p4 (.lst [.int (digsN.restN v st k)]) = H4 at s4 hp4 ⊢
        refine ⟨c, p4, _, _, rfl, rfl, s4 _ _ hc, hp4, ?_, fun p5 np5 => ?_⟩
        · rw [List.length_map, digsN_len]
          exact Nat.le_of_lt (small100k (by show k + 1 ≤ 100000; omega))
        have e5 : (digsN v st k).map V.int ++ [V.int (digsN.restN v st k)] = (unpK k v st).map V.int := by
          rw [unpK_eq, List.map_append]
          rfl
        rw [e5]
        have s5 : Same H4 (upd H4 p5 (.lst ((unpK k v st).map V.int))) := same_upd np5
        have hp5 : (upd H4 p5 (.lst ((unpK k v st).map V.int))) p5 = some (.lst ((unpK k v st).map V.int)) := upd_same
        generalize upd H4 p5 (.lst ((unpK k v st).map V.int)) = H5 at s5 hp5 ⊢
        refine ⟨p5, _, rfl, .inl ⟨.inl (.inl hp5), fun l nl => ?_⟩⟩
        have s6 : Same H5 (upd H5 l (.tup ((unpK k v st).map V.int))) := same_upd nl
        have hl : (upd H5 l (.tup ((unpK k v st).map V.int))) l = some (.tup ((unpK k v st).map V.int)) := upd_same
        generalize upd H5 l (.tup ((unpK k v st).map V.int)) = H6 at s6 hl ⊢
        refine ⟨_, rfl, (by show 2 ≤ sizeLine; decide), fun t7 nt7 => ?_⟩
        have s7 : Same H6 (upd H6 t7 (.tup [.ref l, .int e.2])) := same_upd nt7
        have sX := ((s4.trans s5).trans s6).trans s7
        have hD := sX _ _ hp3
        have hwl := hW.len
        have hv7 : EntAt (upd H6 t7 (.tup [.ref l, .int e.2])) (.ref t7) (unpK k v st, e.2) := ⟨t7, l, rfl, upd_same, s7 _ _ hl⟩
        refine ⟨p, ws, _, rfl, rfl, hD, ?_, ?_⟩
        · rw [unpL_len, List.length_take] at hwl
          exact small100k (by omega)
        · refine ⟨_, _, _, _, _, _, _, rfl, same_mut (sm.trans (sm3.trans sX)) np, upd_same, ?_⟩
          rw [unpL_snoc hee, hv]
          exact ((hW.mono (sm3.trans sX)).app (.cons hv7 .nil)).updL hD
    · rintro σ H2 ⟨ws, y4, y5, y6, y7, y8, y9, rfl, sm, hp, hW⟩
      rw [hx, List.take_length] at hW
      exact ⟨_, rfl, p, ws, unpL st k es, rfl, ⟨.inl (.inl hp), hW, by rw [unpL_len]; exact small100k (by omega)⟩, unpL_ne, wantRow.mono sm q⟩
/-- all coordinates but the last ones lie in the window of the step -/
def Fits (s : Int) (es : List Ent) : Prop := ∀ e ∈ es, ∀ x ∈ e.1.dropLast, -halfS s ≤ x ∧ x ≤ s - 1 - halfS s
theorem cut_init {xs : List Int} (h : 1 ≤ xs.length) : cutV (xs.map V.int) none (some (-1)) = xs.dropLast.map V.int := by
  unfold cutV
  have e : HT.sIx (xs.map V.int).length (xs.map V.int).length (some (-1)) = xs.length - 1 := by
    rw [List.length_map]
    unfold HT.sIx
    simp
    omega
  rw [e, show HT.sIx (xs.map V.int).length 0 none = 0 from rfl, List.drop_zero, Nat.sub_zero, ← List.map_take, List.dropLast_eq_take]
def spFits : Sp := fun vs H Q _ => ∃ (a : Addr) (s : Int) (xs : List V) (es : List Ent), vs = [.ref a, .int s] ∧ 1 ≤ s ∧ s ≤ 1000 ∧ H a = some (.lst xs) ∧ Ents H xs es ∧ es.length ≤ 1000 ∧ (∀ e ∈ es, 1 ≤ e.1.length) ∧ ∀ b H', (b = true → Fits s es) → Same H H' → Q (.bl b) H'
theorem c__law_fits {f : Addr} {fd : FuncData} (D : C8.Def K mg "_law_fits" s__law_fits f fd) (b : Binds K fd ["_law_row_here", "_law_step"] []) (T : Bi mg) : C8.Cal P w K mg base 1 "_law_fits" spFits [] := by
  refine C8.cal0 D b .nil sc__law_fits (fun vs H Q E h => ?_) (fun cdv A outer s H vs Q E hr h => ?_)
  · obtain ⟨a, s, xs, es, rfl, _⟩ := h
    rfl
  · obtain ⟨a, st, xs, es, rfl, h1, h2, ha, hE, hz, hl1, q⟩ := h
    refine ⟨_, (pss_cons (ps_set (i := 2) sc__law_fits.nd rfl (Or.inl rfl) (pe_op op_fdiv (pe_op op_sub (pv 1) pe_int) pe_int))
  (pss_cons (ps_for PassesOwn.never rfl (pi_list (pv 0)) (pg_tup rfl (pgs_cons (pg_name (i := 3) sc__law_fits.nd rfl (Or.inl rfl)) (pgs_cons (pg_name (i := 4) sc__law_fits.nd rfl (Or.inl rfl)) pgs_nil))) (pss_one (ps_for PassesOwn.never rfl (pi_tup (pe_slice sl_tupA (pv 3) po_none (po_some (pe_un un_neg pe_int)))) (pg_name (i := 5) sc__law_fits.nd rfl (Or.inl rfl)) (pss_one (ps_if (PW.pt (pw_or (pt_cmpR op_lt (pv 5) (pe_un un_neg (pv 2)) (nomark _)) (pw_or1 (pt_cmpR op_gt (pv 5) (pe_op op_sub (pe_op op_sub (pv 1) pe_int) (pv 2)) (nomark _))))) (pss_one (ps_ret pe_bl)) pss_nil)))))
  (pss_one (ps_ret pe_bl)))), ?_⟩
    have hx := hE.len
    have hS : SqL K H a xs := .inl (.inl ha)
    refine ⟨_, rfl, _, _, rfl, rfl, _, _, rfl, rfl, ⟨by decide, by decide⟩, ?_⟩
    refine ⟨_, rfl, a, rfl, ⟨_, hS⟩, ?_⟩
    refine for_list (K := K) (xs := xs) (fun i σ H2 => ∃ (y3 y4 y5 : Option V), σ = [some (.ref a), some (.int st), some (.int (halfS st)), y3, y4, y5] ∧ Same H H2 ∧ Fits st (es.take i)) ⟨none, none, none, rfl, Same.refl _, fun e he => (by cases he)⟩ ?_ ?_ ?_
    · rintro i σ H2 _ ⟨_, _, _, _, sm, _⟩
      exact sm.seq hS
    · rintro i x σ H2 hx ⟨y3, y4, y5, rfl, sm, hF⟩
      obtain ⟨e, hee, t, pe, rfl, ht, hpe⟩ := (hE.mono sm).get hx
      have hi := (List.getElem?_eq_some_iff.mp hee).1
      have hem : e ∈ es := List.mem_of_getElem? hee
      refine ⟨t, _, rfl, .inl (.inl ht), rfl, _, _, rfl, _, _, rfl, rfl, ?_⟩
      have hlen := hl1 e hem
      have htk : ∀ g ∈ es.take (i + 1), g ∈ es.take i ∨ g = e := fun g hg => by
        rw [take_snoc hee] at hg
        rcases List.mem_append.mp hg with hg | hg
        · exact .inl hg
        · exact .inr (List.mem_singleton.mp hg)
      refine ⟨_, rfl, _, rfl, _, rfl, pe, _, rfl, .inl (.inl hpe), fun hw => ?_, fun _ p5 np5 => ?_⟩
      · have h3 := hw.2
        rw [List.length_map] at h3
        unfold HT.sIx at h3
        simp at h3
        omega
      rw [cut_init hlen]
      have s5 : Same H2 (upd H2 p5 (.tup (e.1.dropLast.map V.int))) := same_upd np5
      have hp5 : (upd H2 p5 (.tup (e.1.dropLast.map V.int))) p5 = some (.tup (e.1.dropLast.map V.int)) := upd_same
      generalize upd H2 p5 (.tup (e.1.dropLast.map V.int)) = H5 at s5 hp5 ⊢
      have hT : SqT K H5 p5 (e.1.dropLast.map V.int) := .inl (.inl hp5)
      refine ⟨p5, rfl, ⟨_, hT⟩, ?_⟩
      refine for_tup (K := K) (xs := e.1.dropLast.map V.int) (fun j σ H3 => ∃ y5 : Option V, σ = [some (.ref a), some (.int st), some (.int (halfS st)), some (.ref pe), some (.int e.2), y5] ∧ H3 = H5 ∧ ∀ x ∈ e.1.dropLast.take j, -halfS st ≤ x ∧ x ≤ st - 1 - halfS st) ⟨y5, rfl, rfl, fun x hx => (by cases hx)⟩ ?_ ?_ ?_
      · rintro j σ H3 _ ⟨_, _, rfl, _⟩
        exact hT
      · rintro j x σ H3 hx ⟨y5, rfl, rfl, hall⟩
        obtain ⟨hj, rfl⟩ := getm hx
        refine ⟨_, rfl, _, rfl, _, rfl, _, _, rfl, rfl, _, rfl, ?_⟩
        refine iteD (fun h => ?_) (fun hA => ?_)
        · exact q false _ (fun z => by cases z) (sm.trans s5)
        · refine ⟨_, rfl, _, rfl, _, _, rfl, rfl, _, rfl, _, _, rfl, rfl, _, _, rfl, rfl, _, rfl, ?_⟩
          refine iteD (fun h => ?_) (fun hB => ?_)
          · exact q false _ (fun z => by cases z) (sm.trans s5)
          · refine ⟨_, rfl, rfl, fun x hx => ?_⟩
            rw [List.take_add_one, List.getElem?_eq_getElem hj] at hx
            rcases List.mem_append.mp hx with hx | hx
            · exact hall x hx
            · rw [List.mem_singleton.mp hx]
              omega
      · rintro σ H3 ⟨y5, rfl, rfl, hall⟩
        rw [List.length_map, List.take_length] at hall
        refine ⟨_, _, _, rfl, sm.trans s5, fun g hg => ?_⟩
        rcases htk g hg with hg | rfl
        · exact hF g hg
        · exact hall
    · rintro σ H2 ⟨y3, y4, y5, rfl, sm, hF⟩
      rw [hx, List.take_length] at hF
      exact q true _ (fun _ => hF) sm
end
end OT

set_option Elab.async false
set_option linter.all false
set_option maxRecDepth 100000
set_option maxHeartbeats 4000000
namespace OT
open PySem PySem.Spec PyProof.Rows L2
/-- a row in the heap, of places of n coordinates -/
structure RQ (H : Hp) (p : Addr) (xs : List V) (es : List Ent) (n : Nat) : Prop where
  l : H p = some (.lst xs)
  e : Ents H xs es
  v : Valid es
  d : ∀ e ∈ es, e.1.length = n
  n1 : 1 ≤ n
  n3 : n ≤ 3
  z : es.length ≤ 100
theorem RQ.mono {H H' : Hp} {p : Addr} {xs : List V} {es : List Ent} {n : Nat} (s : Same H H') (h : RQ H p xs es n) : RQ H' p xs es n := ⟨s _ _ h.l, h.e.mono s, h.v, h.d, h.n1, h.n3, h.z⟩
theorem RQ.dp {K : PySem.W.Frag} {H : Hp} {p : Addr} {xs : List V} {es : List Ent} {n : Nat} (h : RQ H p xs es n) : Dp K H (.ref p) (dRow es) := h.e.dp (.inl (.inl h.l))
theorem RQ.rn {H : Hp} {p : Addr} {xs : List V} {es : List Ent} {n : Nat} (h : RQ H p xs es n) : RowN n es := ⟨h.v, h.n1, h.n3, h.d⟩
theorem RQ.lst {H : Hp} {p : Addr} {xs : List V} {es : List Ent} {n : Nat} (h : RQ H p xs es n) : Lst H p xs es := ⟨h.l, h.e, by have := h.z; omega, fun e he z => by
  have := h.d e he
  rw [z] at this
  have h0 : (0 : Nat) = n := this
  have := h.n1
  omega⟩
theorem RQ.le1000 {H : Hp} {p : Addr} {xs : List V} {es : List Ent} {n : Nat} (h : RQ H p xs es n) : ∀ e ∈ es, e.1.length ≤ 1000 := fun e he => by
  rw [h.d e he]
  have := h.n3
  omega
theorem RQ.nil {H : Hp} {p : Addr} {n : Nat} (h : H p = some (.lst [])) (n1 : 1 ≤ n) (n3 : n ≤ 3) : RQ H p [] [] n := ⟨h, .nil, ⟨.nil, fun e h => (by cases h)⟩, fun e h => (by cases h), n1, n3, Nat.zero_le _⟩
/-- a matrix in the heap -/
structure MatH (H : Hp) (b : Addr) (us : List V) (Ms : List Pl) : Prop where
  l : H b = some (.lst us)
  p : Pls H us Ms
  m1 : 1 ≤ Ms.length
  m3 : Ms.length ≤ 3
  k1 : ∀ l ∈ Ms, 1 ≤ l.length
  k3 : ∀ l ∈ Ms, l.length ≤ 3
  x : ∀ l ∈ Ms, ∀ x ∈ l, x.natAbs ≤ 4000
theorem MatH.mono {H H' : Hp} {b : Addr} {us : List V} {Ms : List Pl} (s : Same H H') (h : MatH H b us Ms) : MatH H' b us Ms := ⟨s _ _ h.l, h.p.mono s, h.m1, h.m3, h.k1, h.k3, h.x⟩
theorem dp_pls {K : PySem.W.Frag} {H : Hp} {vs : List V} {ks : List Pl} (h : Pls H vs ks) : DpAll K H vs (ks.map fun l => .tuple (l.map PyData.int)) := by
  induction h with
  | nil => exact .nil
  | cons h1 _ ih => exact .cons (.tup (.inl (.inl h1)) (dp_ints _)) ih
theorem MatH.dp {K : PySem.W.Frag} {H : Hp} {b : Addr} {us : List V} {Ms : List Pl} (h : MatH H b us Ms) : Dp K H (.ref b) (dMat Ms) := .lst (.inl (.inl h.l)) (dp_pls h.p)
theorem MatH.small {H : Hp} {b : Addr} {us : List V} {Ms : List Pl} (h : MatH H b us Ms) : Small Ms := fun l hl x hx => by
  have := h.x l hl x hx
  have h0 : (2 : Int) ^ 64 = 18446744073709551616 := by decide
  omega
theorem mixM_dim {H : Hp} {a b : Addr} {xs us : List V} {es : List Ent} {Ms : List Pl} {n : Nat} (R : RQ H a xs es n) (hm : mixM es Ms = false) : ∀ e ∈ es, ∀ l ∈ Ms, e.1.length = l.length := fun e he l hl => by
  have h1 : ¬ ∃ l ∈ Ms, l.length ≠ szOf es Ms := of_decide_eq_false hm
  have h2 : l.length = szOf es Ms := Decidable.byContradiction fun z => h1 ⟨l, hl, z⟩
  have hne : es ≠ [] := fun z => by rw [z] at he; cases he
  rw [h2, R.d e he]
  unfold szOf
  rw [if_neg hne, dimE_eq R.d hne]
/-- the moved row -/
theorem map_rn {H : Hp} {a b : Addr} {xs us : List V} {es g : List Ent} {Ms : List Pl} {n : Nat} (R : RQ H a xs es n) (h1 : 1 ≤ Ms.length) (h3 : Ms.length ≤ 3) (hg : RowIs g (mapL Ms es)) : RowN Ms.length g ∧ g.length ≤ 100 := by
  refine ⟨⟨hg.v, h1, h3, fun e he => ?_⟩, ?_⟩
  · obtain ⟨x, hx, ex⟩ := hg.mem he
    obtain ⟨y, hy, rfl⟩ := List.mem_map.mp hx
    rw [← ex]
    exact imgP_len _ _
  · have := hg.len
    rw [mapL_len] at this
    exact Nat.le_trans this R.z
section
variable {P : Program} {w : World} {K : PySem.W.Frag} {mg : Str → Option Value} {base : Heap}
def spMapA : Sp := fun vs H Q _ => ∃ (a b : Addr) (xs : List V) (es : List Ent) (n : Nat) (us : List V) (Ms : List Pl), vs = [.ref a, .ref b] ∧ RQ H a xs es n ∧ MatH H b us Ms ∧ ∀ H', Same H H' → Q (.bl true) H'
theorem c__law_map_asked {f B M fA fX : Addr} {fd fdA fdX : FuncData} (D : C8.Def K mg "_law_map_asked" s__law_map_asked f fd) (b : Binds K fd ["_law_row_here", "_law_matrix_here"] []) (T : Bi mg) (gB : mg "TableError" = some (.ref B)) (tM : OtErr K M "MixedDimensions") (eM : PySem.W.exmOne K (.ref M) (.ref B) = some true)
    (DA : C8.Def K mg "map_places" s_map_places fA fdA) (bA : Binds K fdA ["row", "matrix"] []) (GA : FnOk P w K mg base (L2.CX P w) 5 fA fdA ["row", "matrix"] (spMapP K M))
    (DX : C8.Def K mg "_law_is_mixed" s__law_is_mixed fX fdX) (bX : Binds K fdX ["_law_e"] []) (GX : FnE P w K mg base 2 fX fdX ["_law_e"] (spMxE K M))
    (c__law_mixed : C8.Cal P w K mg base 1 "_law_mixed" (spMixM K) []) (c__law_kept : C8.Cal P w K mg base 5 "_law_kept" (spKeptD K) []) (c__law_mapped : C8.Cal P w K mg base 2 "_law_mapped" (spMapd K) []) : C8.Cal P w K mg base 7 "_law_map_asked" spMapA [] := by
  refine C8.cal0 D b .nil sc__law_map_asked (fun vs H Q E h => ?_) (fun cdv A outer s H vs Q E hr h => ?_)
  · obtain ⟨a, b, xs, es, n, us, Ms, rfl, _⟩ := h
    rfl
  · obtain ⟨a, b, xs, es, n, us, Ms, rfl, R, N, q⟩ := h
    refine ⟨_, (pss_cons (ps_set (i := 2) sc__law_map_asked.nd rfl (Or.inl rfl) (pe_lst (pa_cons (pe_callTy call_list_of (by rfl) T.n_list OT.b_list (pa_cons (pv 0) pa_nil)) (pa_cons (pe_callTy call_list_of (by rfl) T.n_list OT.b_list (pa_cons (pv 1) pa_nil)) pa_nil))))
  (pss_cons (ps_set (i := 3) sc__law_map_asked.nd rfl (Or.inl rfl) (C8.pe_c c__law_mixed hr (by decide) (by rfl) (pa_cons (pv 0) (pa_cons (pv 1) pa_nil))))
  (pss_cons (ps_try_as (i := 4) (tb := fun W => _) (ts := fun a cls d => _) (Wout := fun _ _ _ _ => False) rfl rfl sc__law_map_asked.nd rfl rfl ⟨rfl, by decide, Or.inl gB⟩ takes0 (fun W pn xe tk _ => (pss_one (ps_set (i := 5) sc__law_map_asked.nd rfl (Or.inl rfl) (pe_callS (GA.mono (by decide : 5 ≤ 6)) hr rfl DA.mgf DA.kp bA (fun σ => passAt tk σ) (pa_cons (pe_ix (show IxR _ (rIxL K) from ix_list) (pv 2) pe_int (fun _ _ => rfl)) (pa_cons (pe_ix (show IxR _ (rIxL K) from ix_list) (pv 2) pe_int (fun _ _ => rfl)) pa_nil)))))) (fun a oe cls d pn hz hf => by exact (pss_one (ps_ret (pe_and (by exact (pv 3)) (pe_and (by exact pe_callA GX (roomH_m (hr.mono (by decide : 2 ≤ 6))) List.mem_cons_self hz hf (by rfl) DX.mgf DX.kp bX (pa_cons (pv 4) pa_nil)) (pe_one (by exact (pe_cmpR (show OpR _ _ (rEqD K) from op_eqD hr.units) (pv 2) (pe_lst (pa_cons (pv 0) (pa_cons (pv 1) pa_nil))) (nomark _))))))))))
  (pss_one (ps_ret (pe_and (pe_not (pv 3)) (pe_one (C8.pe_c c__law_kept hr (by decide) (by rfl) (pa_cons (pv 5) (pa_cons (C8.pe_c c__law_mapped hr (by decide) (by rfl) (pa_cons (pv 0) (pa_cons (pv 1) pa_nil))) (pa_cons (pv 2) (pa_cons (pe_lst (pa_cons (pv 0) (pa_cons (pv 1) pa_nil))) pa_nil)))))))))))), ?_⟩
    have hz := R.z
    have hxl := R.e.len
    have hul := N.p.len
    have hM3 := N.m3
    have hM1 := N.m1
    refine ⟨_, rfl, a, _, rfl, .inl (.inl (.inl R.l)), fun la nla => ?_⟩
    have s1 : Same H (upd H la (.lst xs)) := same_upd nla
    have hla : (upd H la (.lst xs)) la = some (.lst xs) := upd_same
    generalize upd H la (.lst xs) = H1 at s1 hla ⊢
    refine ⟨_, rfl, b, _, rfl, .inl (.inl (.inl (s1 _ _ N.l))), fun lb nlb => ?_⟩
    have s2 : Same H1 (upd H1 lb (.lst us)) := same_upd nlb
    have hlb : (upd H1 lb (.lst us)) lb = some (.lst us) := upd_same
    generalize upd H1 lb (.lst us) = H2 at s2 hlb ⊢
    refine ⟨(by show 2 ≤ sizeLine; decide), fun hd nhd => ?_⟩
    have s3 : Same H2 (upd H2 hd (.lst [.ref la, .ref lb])) := same_upd nhd
    have hhd : (upd H2 hd (.lst [.ref la, .ref lb])) hd = some (.lst [.ref la, .ref lb]) := upd_same
    generalize upd H2 hd (.lst [.ref la, .ref lb]) = H3 at s3 hhd ⊢
    have s03 := (s1.trans s2).trans s3
    have R3 := R.mono s03
    have N3 := N.mono s03
    have hla3 := (s2.trans s3) _ _ hla
    have hlb3 := s3 _ _ hlb
    have LA : RQ H3 la xs es n := ⟨hla3, R3.e, R.v, R.d, R.n1, R.n3, R.z⟩
    have LB : MatH H3 lb us Ms := ⟨hlb3, N3.p, N.m1, N.m3, N.k1, N.k3, N.x⟩
    have hDs : DpAll K H3 [.ref la, .ref lb] [dRow es, dMat Ms] := .cons LA.dp (.cons LB.dp .nil)
    have hDr : DpAll K H3 [.ref a, .ref b] [dRow es, dMat Ms] := .cons R3.dp (.cons N3.dp .nil)
    have hsh : SeqAt.shaped (.list [dRow es, dMat Ms]) = true := (DOk.list (n := 4) fun d hd => by
      rcases List.mem_cons.mp hd with rfl | hd
      · exact DOk.row es
      · rw [List.mem_singleton.mp hd]
        exact (DOk.mat Ms).le (by decide)).shaped (by decide)
    have hH : Dp K H3 (.ref hd) (.list [dRow es, dMat Ms]) := .lst (.inl (.inl hhd)) hDs
    have hS : SqL K H3 hd [.ref la, .ref lb] := .inl (.inl hhd)
    have hmx := mixM_eq (es := es) N.k1 N.m1 fun e he => by rw [R.d e he]; exact R.n1
    refine ⟨_, rfl, _, rfl, a, b, xs, es, us, Ms, rfl, R3.l, R3.e, by omega, N3.l, N3.p, N.m1, ?_⟩
    refine ⟨_, rfl, hd, _, 0, _, rfl, rfl, hS, atI_nat (j := 0) rfl, _, rfl, hd, _, 1, _, rfl, rfl, hS, atI_nat (j := 1) rfl, la, lb, xs, es, us, Ms, rfl, LA.l, LA.e, by omega, R.le1000, LB.l, LB.p, N.m1, by omega, N.small, fun hm dd H6 s6 hdd => ?_, fun hm => ?_⟩
    all_goals rw [hmx] at hm
    · rw [hm]
      refine ⟨true, eM, fun _ ea nea => ?_, fun h => by cases h⟩
      refine ⟨_, rfl, _, rfl, ?_⟩
      refine iteT ?_
      refine ⟨_, rfl, dd, rfl, ⟨rfl, rfl, tM.oc, hdd⟩, _, rfl, ?_⟩
      refine iteT ?_
      refine ⟨_, rfl, _, rfl, _, rfl, (by show 2 ≤ sizeLine; decide), fun p7 np7 => ?_⟩
      have s7 : Same H6 (upd H6 p7 (.lst [.ref a, .ref b])) := same_upd np7
      have s67 := s6.trans s7
      refine ⟨.list [dRow es, dMat Ms], .list [dRow es, dMat Ms], Dp.mono s67 hH, .lst (.inl (.inl upd_same)) (DpAll.mono s67 hDr), hsh, hsh, ?_⟩
      rw [eqvD hsh]
      exact q _ (s03.trans s67)
    · rw [hm]
      have hdl := mixM_dim (b := b) (us := us) R hm
      intro g p6 ws6 H6 hg s6 np6 hp6 hE6
      obtain ⟨hgn, hgl⟩ := map_rn (b := b) (us := us) R N.m1 N.m3 hg
      refine ⟨_, rfl, _, rfl, _, rfl, ?_⟩
      refine iteT ?_
      have R6 := R3.mono s6
      have N6 := N3.mono s6
      refine ⟨_, rfl, _, rfl, _, rfl, a, b, xs, es, us, Ms, rfl, .inl (.inl R6.l), R6.e, by omega, R.le1000, .inl (.inl N6.l), N6.p, N.m1, by omega, N.small, fun e he l hl => Nat.le_of_eq (hdl e he l hl), fun g2 p7 ws7 H7 hg2 s7 np7 hp7 hE7 => ?_⟩
      have e2 := hg2.one hg
      subst e2
      refine ⟨_, rfl, _, rfl, _, rfl, (by show 2 ≤ sizeLine; decide), fun p8 np8 => ?_⟩
      have s8 : Same H7 (upd H7 p8 (.lst [.ref a, .ref b])) := same_upd np8
      have s78 := s7.trans s8
      have hne : p8 ≠ p6 := fun z => by
        have := s7 _ _ hp6
        rw [← z, np8] at this
        cases this
      exact ⟨H3, p6, p7, hd, p8, ws6, ws7, _, g2, Ms.length, [dRow es, dMat Ms], rfl, s6.trans s78, np6, s78 _ _ hp6, hE6.mono s78, s8 _ _ hp7, hE7.mono s8, hgn, by omega, hH, upd_same, hDr, hne, hsh, fun H9 s9 => q _ (s03.trans s9)⟩
end
end OT

set_option Elab.async false
set_option linter.all false
set_option maxRecDepth 100000
set_option maxHeartbeats 4000000
namespace OT
open PySem PySem.Spec PyProof.Rows L2
theorem dig_of {a m s : Int} (h : 1 ≤ s) (h1 : -halfS s ≤ a) (h2 : a ≤ s - 1 - halfS s) : dig (a + s * m) s = a ∧ nxt (a + s * m) s = m := by
  have e : dig (a + s * m) s = a := by
    unfold dig
    have : a + s * m + halfS s = (a + halfS s) + s * m := by omega
    rw [this, Int.add_mul_emod_self_left, Int.emod_eq_of_lt (by omega) (by omega)]
    omega
  refine ⟨e, ?_⟩
  unfold nxt
  rw [e, show a + s * m - a = s * m by omega, Int.mul_ediv_cancel_left _ (by omega)]
theorem unp_pack {s : Int} (hs : 1 ≤ s) : ∀ {p : Pl} {n : Nat}, p.length = n + 1 → n + 1 ≤ 3 → (∀ x ∈ p.dropLast, -halfS s ≤ x ∧ x ≤ s - 1 - halfS s) → unpK n (dotP (wts s (n + 1)) p) s = p
  | [a], 0, _, _, _ => by
    show [dotP [1] [a]] = [a]
    have : dotP [1] [a] = a := by
      show 1 * a + 0 = a
      omega
    rw [this]
  | [a, b], 1, _, _, h => by
    obtain ⟨w1, w2⟩ := h a List.mem_cons_self
    have e : dotP (wts s 2) [a, b] = a + s * b := by
      show 1 * a + (s * b + 0) = a + s * b
      omega
    obtain ⟨d1, d2⟩ := dig_of (m := b) hs w1 w2
    show unpK 1 (dotP (wts s 2) [a, b]) s = [a, b]
    rw [e]
    show [dig (a + s * b) s, nxt (a + s * b) s] = [a, b]
    rw [d1, d2]
  | [a, b, c], 2, _, _, h => by
    obtain ⟨w1, w2⟩ := h a List.mem_cons_self
    obtain ⟨v1, v2⟩ := h b (List.mem_cons_of_mem _ List.mem_cons_self)
    have e : dotP (wts s 3) [a, b, c] = a + s * (b + s * c) := by
      show 1 * a + (s * b + (s * s * c + 0)) = a + s * (b + s * c)
      rw [Int.mul_add, Int.mul_assoc]
      omega
    obtain ⟨d1, d2⟩ := dig_of (m := b + s * c) hs w1 w2
    obtain ⟨c1, c2⟩ := dig_of (m := c) hs v1 v2
    show unpK 2 (dotP (wts s 3) [a, b, c]) s = [a, b, c]
    rw [e]
    show [dig (a + s * (b + s * c)) s, dig (nxt (a + s * (b + s * c)) s) s, nxt (nxt (a + s * (b + s * c)) s) s] = [a, b, c]
    rw [d1, d2, c1, c2]
/-- packed and unpacked again -/
theorem pack_back {H : Hp} {a : Addr} {xs : List V} {es g u : List Ent} {n : Nat} {s : Int} (hs : 1 ≤ s) (R : RQ H a xs es (n + 1)) (hF : Fits s es) (hg : RowIs g (mapL [wts s (n + 1)] es)) (hu : RowIs u (unpL s n g)) : u = es := by
  have h1 : RowIs u (mapF (fun p => unpK n (p.headD 0) s) (mapL [wts s (n + 1)] es)) := RowIs.mapped hg hu
  have h2 : mapF (fun p => unpK n (p.headD 0) s) (mapL [wts s (n + 1)] es) = es := by
    unfold mapL mapF
    rw [List.map_map]
    have : es.map id = es := List.map_id es
    conv => rhs; rw [← this]
    refine List.map_congr_left fun e he => ?_
    show (unpK n (dotP (wts s (n + 1)) e.1) s, e.2) = e
    rw [unp_pack hs (R.d e he) R.n3 (hF e he)]
  rw [h2] at h1
  exact h1.one (RowIs.self R.v)
theorem unp_rn {es g : List Ent} {s : Int} {k : Nat} (hk : k ≤ 2) (hz : es.length ≤ 100) (hg : RowIs g (unpL s k es)) : RowN (k + 1) g ∧ g.length ≤ 100 := by
  refine ⟨⟨hg.v, by omega, by omega, fun e he => ?_⟩, ?_⟩
  · obtain ⟨x, hx, ex⟩ := hg.mem he
    obtain ⟨y, hy, rfl⟩ := List.mem_map.mp hx
    rw [← ex]
    exact unpK_len _ _ _
  · have := hg.len
    rw [unpL_len] at this
    omega
def spUnpQ : Sp := fun vs H Q E => ∃ (a : Addr) (s : Int) (k : Nat) (xs : List V) (es : List Ent), vs = [.ref a, .int s, .int ((k : Int) + 1)] ∧ 1 ≤ s ∧ s ≤ 1000 ∧ k ≤ 1000 ∧ H a = some (.lst xs) ∧ Ents H xs es ∧ es.length ≤ 1000 ∧ (∀ e ∈ es, e.1.length = 1) ∧ wantRow H (unpL s k es) Q
theorem unpQ {O : Addr} : ∀ vs H Q E, spUnpQ vs H Q E → spUnpP O vs H Q E0 := fun vs H Q E ⟨a, s, k, xs, es, e, h1, h2, hk, ha, hE, hz, hl, q⟩ => by
  refine ⟨a, s, k, xs, es, e, h1, h2, hk, ha, hE, hz, fun hd => ?_, fun _ => ⟨hl, q⟩⟩
  cases es with
  | nil => exact absurd hd (by decide)
  | cons x r =>
    have := hl x List.mem_cons_self
    have hd' : 1 < x.1.length := hd
    omega
section
variable {P : Program} {w : World} {K : PySem.W.Frag} {mg : Str → Option Value} {base : Heap}
def spUnpA : Sp := fun vs H Q _ => ∃ (a : Addr) (s : Int) (k : Nat) (xs : List V) (es : List Ent) (n : Nat), vs = [.ref a, .int s, .int ((k : Int) + 1)] ∧ 1 ≤ s ∧ s ≤ 1000 ∧ k ≤ 2 ∧ RQ H a xs es n ∧ ∀ H', Same H H' → Q (.bl true) H'
theorem c__law_unpack_asked {f B O fA fX : Addr} {fd fdA fdX : FuncData} (D : C8.Def K mg "_law_unpack_asked" s__law_unpack_asked f fd) (b : Binds K fd ["_law_row_here", "_law_step", "_law_count"] []) (T : Bi mg) (gB : mg "TableError" = some (.ref B)) (tO : OtErr K O "OneDirectionOnly") (eO : PySem.W.exmOne K (.ref O) (.ref B) = some true)
    (DA : C8.Def K mg "unpack" s_unpack fA fdA) (bA : Binds K fdA ["row", "step", "dimension"] []) (GA : FnOk P w K mg base (L2.CX P w) 6 fA fdA ["row", "step", "dimension"] (spUnpP O))
    (DX : C8.Def K mg "_law_is_wide" s__law_is_wide fX fdX) (bX : Binds K fdX ["_law_e", "_law_size"] []) (GX : FnE P w K mg base 2 fX fdX ["_law_e", "_law_size"] (spWdE K O))
    (c__law_kept : C8.Cal P w K mg base 5 "_law_kept" (spKeptD K) []) (c__law_unpacked : C8.Cal P w K mg base 2 "_law_unpacked" spUnpd []) : C8.Cal P w K mg base 7 "_law_unpack_asked" spUnpA [] := by
  refine C8.cal0 D b .nil sc__law_unpack_asked (fun vs H Q E h => ?_) (fun cdv A outer s H vs Q E hr h => ?_)
  · obtain ⟨a, s, k, xs, es, n, rfl, _⟩ := h
    rfl
  · obtain ⟨a, st, k, xs, es, n, rfl, h1, h2, hk, R, q⟩ := h
    refine ⟨_, (pss_cons (ps_set (i := 3) sc__law_unpack_asked.nd rfl (Or.inl rfl) (pe_lst (pa_cons (pe_callTy call_list_of (by rfl) T.n_list OT.b_list (pa_cons (pv 0) pa_nil)) pa_nil)))
  (pss_cons (ps_set (i := 4) sc__law_unpack_asked.nd rfl (Or.inl rfl) pe_int)
  (C8.pss_cut (ps_if (pt_cmpR op_gt (pe_callB call_len_seq (by rfl) T.n_len OT.b_len (pa_cons (pv 0) pa_nil)) pe_int (nomark _)) (pss_one (ps_set (i := 4) sc__law_unpack_asked.nd rfl (Or.inl rfl) (pe_callB call_len_seq (by rfl) T.n_len OT.b_len (pa_cons (pe_ix ix_tup (pe_ix ix_list (pv 0) pe_int (fun _ _ => rfl)) pe_int (fun _ _ => rfl)) pa_nil)))) pss_nil)
  (pss_cons (ps_try_as (i := 5) (tb := fun W => _) (ts := fun a cls d => _) (Wout := fun _ _ _ _ => False) rfl rfl sc__law_unpack_asked.nd rfl rfl ⟨rfl, by decide, Or.inl gB⟩ takes0 (fun W pn xe tk _ => (pss_one (ps_set (i := 6) sc__law_unpack_asked.nd rfl (Or.inl rfl) (pe_callS (GA.mono (by decide : 6 ≤ 6)) hr rfl DA.mgf DA.kp bA (fun σ => passAt tk σ) (pa_cons (pe_ix (show IxR _ (rIxL K) from ix_list) (pv 3) pe_int (fun _ _ => rfl)) (pa_cons (pv 1) (pa_cons (pv 2) pa_nil))))))) (fun a oe cls d pn hz hf => by exact (pss_one (ps_ret (pe_and (by exact (pe_cmpR op_gt (pv 4) pe_int (nomark _))) (pe_and (by exact pe_callA GX (roomH_m (hr.mono (by decide : 2 ≤ 6))) List.mem_cons_self hz hf (by rfl) DX.mgf DX.kp bX (pa_cons (pv 5) (pa_cons (pv 4) pa_nil))) (pe_one (by exact (pe_cmpR (show OpR _ _ (rEqD K) from op_eqD hr.units) (pv 3) (pe_lst (pa_cons (pv 0) pa_nil)) (nomark _))))))))))
  (pss_one (ps_ret (pe_and (pe_cmpR op_lt (pv 4) pe_int (nomark _)) (pe_one (C8.pe_c c__law_kept hr (by decide) (by rfl) (pa_cons (pv 6) (pa_cons (C8.pe_c c__law_unpacked hr (by decide) (by rfl) (pa_cons (pv 0) (pa_cons (pv 1) (pa_cons (pv 2) pa_nil)))) (pa_cons (pv 3) (pa_cons (pe_lst (pa_cons (pv 0) pa_nil)) pa_nil))))))))))))), ?_⟩
    have hz := R.z
    have hxl := R.e.len
    refine ⟨_, rfl, a, _, rfl, .inl (.inl (.inl R.l)), fun la nla => ?_⟩
    have s1 : Same H (upd H la (.lst xs)) := same_upd nla
    have hla : (upd H la (.lst xs)) la = some (.lst xs) := upd_same
    generalize upd H la (.lst xs) = H1 at s1 hla ⊢
    refine ⟨(by show 1 ≤ sizeLine; decide), fun hd nhd => ?_⟩
    have s3 : Same H1 (upd H1 hd (.lst [.ref la])) := same_upd nhd
    have hhd : (upd H1 hd (.lst [.ref la])) hd = some (.lst [.ref la]) := upd_same
    generalize upd H1 hd (.lst [.ref la]) = H3 at s3 hhd ⊢
    have s03 := s1.trans s3
    have R3 := R.mono s03
    have LA : RQ H3 la xs es n := ⟨s3 _ _ hla, R3.e, R.v, R.d, R.n1, R.n3, R.z⟩
    have hDs : DpAll K H3 [.ref la] [dRow es] := .cons LA.dp .nil
    have hDr : DpAll K H3 [.ref a] [dRow es] := .cons R3.dp .nil
    have hsh : SeqAt.shaped (.list [dRow es]) = true := (DOk.list (n := 4) fun d hd => by
      rw [List.mem_singleton.mp hd]
      exact DOk.row es).shaped (by decide)
    have hH : Dp K H3 (.ref hd) (.list [dRow es]) := .lst (.inl (.inl hhd)) hDs
    have hS : SqL K H3 hd [.ref la] := .inl (.inl hhd)
    refine ⟨fun σ H2 => ∃ y5 y6 : Option V, σ = [some (.ref a), some (.int st), some (.int ((k : Int) + 1)), some (.ref hd), some (.int (dimE es : Nat)), y5, y6] ∧ H2 = H3, ?_, ?_⟩
    · refine ⟨_, rfl, a, _, rfl, .inl (.inl (.inl R3.l)), _, _, rfl, rfl, _, rfl, iteD (fun c => ?_) (fun c => ?_)⟩
      · have p1 : 0 < es.length := by omega
        obtain ⟨v1, hv1, t1, q1, rfl, ht1, hq1⟩ := R3.e.at (i := 0) p1
        refine ⟨_, rfl, a, _, 0, _, rfl, rfl, .inl (.inl R3.l), atI_nat (j := 0) hv1, t1, _, 0, _, rfl, rfl, .inl (.inl ht1), atI_nat (j := 0) rfl, q1, _, rfl, .inr (.inl (.inl hq1)), ?_⟩
        refine ⟨none, none, ?_, rfl⟩
        have hd : dimE es = (es[0]'p1).1.length := by
          cases es with
          | nil => cases p1
          | cons e r => rfl
        rw [hd, List.length_map]
        rfl
      · have hf : es = [] := List.length_eq_zero_iff.mp (by omega)
        refine ⟨none, none, ?_, rfl⟩
        rw [hf]
        rfl
    · rintro σ H2 ⟨y5, y6, rfl, rfl⟩
      refine ⟨_, rfl, hd, _, 0, _, rfl, rfl, hS, atI_nat (j := 0) rfl, _, rfl, _, rfl, la, st, k, xs, es, rfl, h1, h2, by omega, LA.l, LA.e, by omega, fun hd1 dd H6 s6 hdd => ?_, fun hd1 => ?_⟩
      · refine ⟨true, eO, fun _ ea nea => ?_, fun h => by cases h⟩
        refine ⟨_, rfl, _, _, rfl, rfl, _, rfl, ?_⟩
        refine iteD (fun _ => ?_) (fun z => absurd (by show (1 : Int) < (dimE es : Nat); omega) z)
        refine ⟨_, rfl, _, rfl, dd, dimE es, rfl, ⟨rfl, rfl, tO.oc, hdd⟩, _, rfl, ?_⟩
        refine iteT ?_
        refine ⟨_, rfl, _, rfl, (by show 1 ≤ sizeLine; decide), fun p7 np7 => ?_⟩
        have s7 : Same H6 (upd H6 p7 (.lst [.ref a])) := same_upd np7
        have s67 := s6.trans s7
        refine ⟨.list [dRow es], .list [dRow es], Dp.mono s67 hH, .lst (.inl (.inl upd_same)) (DpAll.mono s67 hDr), hsh, hsh, ?_⟩
        rw [eqvD hsh]
        exact q _ (s03.trans s67)
      · have hl1 : ∀ e ∈ es, e.1.length = 1 := fun e he => by
          have hne : es ≠ [] := fun z => by rw [z] at he; cases he
          have := dimE_eq R.d hne
          have := R.n1
          rw [R.d e he]
          omega
        refine ⟨hl1, ?_⟩
        intro g p6 ws6 H6 hg s6 np6 hp6 hE6
        obtain ⟨hgn, hgl⟩ := unp_rn hk hz hg
        have R6 := R3.mono s6
        refine ⟨_, rfl, _, _, rfl, rfl, _, rfl, ?_⟩
        refine iteD (fun _ => ?_) (fun z => absurd (by show ((dimE es : Nat) : Int) < 2; omega) z)
        refine ⟨_, rfl, _, rfl, _, rfl, _, rfl, a, st, k, xs, es, rfl, h1, h2, by omega, R6.l, R6.e, by omega, hl1, fun g2 p7 ws7 H7 hg2 s7 np7 hp7 hE7 => ?_⟩
        have e2 := hg2.one hg
        subst e2
        refine ⟨_, rfl, _, rfl, (by show 1 ≤ sizeLine; decide), fun p8 np8 => ?_⟩
        have s8 : Same H7 (upd H7 p8 (.lst [.ref a])) := same_upd np8
        have s78 := s7.trans s8
        have hne : p8 ≠ p6 := fun z => by
          have := s7 _ _ hp6
          rw [← z, np8] at this
          cases this
        exact ⟨H2, p6, p7, hd, p8, ws6, ws7, _, g2, k + 1, [dRow es], rfl, s6.trans s78, np6, s78 _ _ hp6, hE6.mono s78, s8 _ _ hp7, hE7.mono s8, hgn, by omega, hH, upd_same, hDr, hne, hsh, fun H9 s9 => q _ (s03.trans s9)⟩
end
end OT

set_option Elab.async false
set_option linter.all false
set_option maxRecDepth 100000
set_option maxHeartbeats 4000000
namespace OT
open PySem PySem.Spec PyProof.Rows L2
section
variable {P : Program} {w : World} {K : PySem.W.Frag} {mg : Str → Option Value} {base : Heap}
def spPackA : Sp := fun vs H Q _ => ∃ (a : Addr) (s : Int) (xs : List V) (es : List Ent) (n : Nat), vs = [.ref a, .int s] ∧ 1 ≤ s ∧ s ≤ 60 ∧ RQ H a xs es (n + 1) ∧ ∀ H', Same H H' → Q (.bl true) H'
theorem c__law_pack_asked {f : Addr} {fd : FuncData} (D : C8.Def K mg "_law_pack_asked" s__law_pack_asked f fd) (b : Binds K fd ["_law_row_here", "_law_step"] []) (T : Bi mg)
    (c__law_mapped : C8.Cal P w K mg base 2 "_law_mapped" (spMapd K) []) (c__law_kept : C8.Cal P w K mg base 5 "_law_kept" (spKeptD K) []) (c_pack : C8.Cal P w K mg base 6 "pack" spPack []) (c__law_unpack_asked : C8.Cal P w K mg base 7 "_law_unpack_asked" spUnpA [])
    (c__law_fits : C8.Cal P w K mg base 1 "_law_fits" spFits []) (c__law_same : C8.Cal P w K mg base 4 "_law_same" (spSame K) []) (c_unpack : C8.Cal P w K mg base 6 "unpack" spUnpQ []) : C8.Cal P w K mg base 8 "_law_pack_asked" spPackA [] := by
  refine C8.cal0 D b .nil sc__law_pack_asked (fun vs H Q E h => ?_) (fun cdv A outer s H vs Q E hr h => ?_)
  · obtain ⟨a, s, xs, es, n, rfl, _⟩ := h
    rfl
  · obtain ⟨a, st, xs, es, n, rfl, h1, h2, R, q⟩ := h
    refine ⟨_, (pss_cons (ps_set (i := 2) sc__law_pack_asked.nd rfl (Or.inl rfl) pe_int)
  (C8.pss_cut (ps_if (pt_cmpR op_gt (pe_callB call_len_seq (by rfl) T.n_len OT.b_len (pa_cons (pv 0) pa_nil)) pe_int (nomark _)) (pss_one (ps_set (i := 2) sc__law_pack_asked.nd rfl (Or.inl rfl) (pe_callB call_len_seq (by rfl) T.n_len OT.b_len (pa_cons (pe_ix ix_tup (pe_ix ix_list (pv 0) pe_int (fun _ _ => rfl)) pe_int (fun _ _ => rfl)) pa_nil)))) pss_nil)
  (pss_cons (ps_set (i := 3) sc__law_pack_asked.nd rfl (Or.inl rfl) (pe_lst (pa_cons (pe_callTy call_list_of (by rfl) T.n_list OT.b_list (pa_cons (pv 0) pa_nil)) pa_nil)))
  (pss_cons (ps_set (i := 4) sc__law_pack_asked.nd rfl (Or.inl rfl) (C8.pe_c c__law_mapped hr (by decide) (by rfl) (pa_cons (pv 0) (pa_cons (pe_lst (pa_cons (pe_slice sl_tupA (pe_tup (pa_cons pe_int (pa_cons (pv 1) (pa_cons (pe_op op_mul (pv 1) (pv 1)) pa_nil)))) po_none (po_some (pv 2))) pa_nil)) pa_nil))))
  (pss_cons (ps_if (PW.pt (pw_or (pt_not (pt_val (C8.pe_c c__law_kept hr (by decide) (by rfl) (pa_cons (C8.pe_c c_pack hr (by decide) (by rfl) (pa_cons (pe_ix ix_list (pv 3) pe_int (fun _ _ => rfl)) (pa_cons (pv 1) pa_nil))) (pa_cons (pv 4) (pa_cons (pv 3) (pa_cons (pe_lst (pa_cons (pv 0) pa_nil)) pa_nil))))))) (pw_or1 (pt_not (pt_val (C8.pe_c c__law_unpack_asked hr (by decide) (by rfl) (pa_cons (pv 4) (pa_cons (pv 1) (pa_cons (pv 2) pa_nil))))))))) (pss_one (ps_ret pe_bl)) pss_nil)
  (pss_one (ps_ret (pe_or (pe_not (C8.pe_c c__law_fits hr (by decide) (by rfl) (pa_cons (pv 0) (pa_cons (pv 1) pa_nil)))) (pe_one (C8.pe_c c__law_same hr (by decide) (by rfl) (pa_cons (C8.pe_c c_unpack hr (by decide) (by rfl) (pa_cons (pe_callTy call_list_of (by rfl) T.n_list OT.b_list (pa_cons (pv 4) pa_nil)) (pa_cons (pv 1) (pa_cons (pv 2) pa_nil)))) (pa_cons (pv 0) pa_nil)))))))))))), ?_⟩
    have hz := R.z
    have hxl := R.e.len
    have hn3 := R.n3
    let m : Nat := if es = [] then 0 else n
    have hm : m ≤ 2 := by
      show (if es = [] then 0 else n) ≤ 2
      by_cases z : es = []
      · rw [if_pos z]; decide
      · rw [if_neg z]; omega
    have hmd : es ≠ [] → m = n := fun z => if_neg z
    have hme : es = [] → m = 0 := fun z => if_pos z
    clear_value m
    refine ⟨fun σ H2 => ∃ y3 y4 : Option V, σ = [some (.ref a), some (.int st), some (.int ((m : Int) + 1)), y3, y4] ∧ H2 = H, ?_, ?_⟩
    · refine ⟨_, rfl, a, _, rfl, .inl (.inl (.inl R.l)), _, _, rfl, rfl, _, rfl, iteD (fun c => ?_) (fun c => ?_)⟩
      · have p1 : 0 < es.length := by omega
        obtain ⟨v1, hv1, t1, q1, rfl, ht1, hq1⟩ := R.e.at (i := 0) p1
        refine ⟨_, rfl, a, _, 0, _, rfl, rfl, .inl (.inl R.l), atI_nat (j := 0) hv1, t1, _, 0, _, rfl, rfl, .inl (.inl ht1), atI_nat (j := 0) rfl, q1, _, rfl, .inr (.inl (.inl hq1)), ?_⟩
        refine ⟨none, none, ?_, rfl⟩
        have hne : es ≠ [] := fun z => by rw [z] at p1; cases p1
        rw [List.length_map, R.d _ (List.getElem_mem p1), hmd hne]
        rfl
      · have hf : es = [] := List.length_eq_zero_iff.mp (by omega)
        refine ⟨none, none, ?_, rfl⟩
        rw [hme hf]
        rfl
    · rintro σ H2 ⟨y3, y4, rfl, rfl⟩
      refine ⟨_, rfl, a, _, rfl, .inl (.inl (.inl R.l)), fun la nla => ?_⟩
      have s1 : Same H2 (upd H2 la (.lst xs)) := same_upd nla
      have hla : (upd H2 la (.lst xs)) la = some (.lst xs) := upd_same
      generalize upd H2 la (.lst xs) = H1 at s1 hla ⊢
      refine ⟨(by show 1 ≤ sizeLine; decide), fun hd nhd => ?_⟩
      have s3 : Same H1 (upd H1 hd (.lst [.ref la])) := same_upd nhd
      have hhd : (upd H1 hd (.lst [.ref la])) hd = some (.lst [.ref la]) := upd_same
      generalize upd H1 hd (.lst [.ref la]) = H3 at s3 hhd ⊢
      have s03 := s1.trans s3
      have hla3 := s3 _ _ hla
      have hst : -(2 : Int) ^ 64 < st ∧ st < 2 ^ 64 := by
        constructor <;> omega
      refine ⟨_, rfl, _, rfl, _, rfl, _, rfl, _, _, rfl, rfl, .inl hst, (by show 3 ≤ sizeLine; decide), fun t nt => ?_⟩
      have s4 : Same H3 (upd H3 t (.tup [.int 1, .int st, .int (st * st)])) := same_upd nt
      have ht : (upd H3 t (.tup [.int 1, .int st, .int (st * st)])) t = some (.tup [.int 1, .int st, .int (st * st)]) := upd_same
      generalize upd H3 t (.tup [.int 1, .int st, .int (st * st)]) = H4 at s4 ht ⊢
      refine ⟨_, rfl, _, rfl, ?_⟩
      refine slice_wts (n := m + 1) ht (by omega) fun p5 H5 s5 hp5 => ?_
      refine ⟨(by show 1 ≤ sizeLine; decide), fun p6 np6 => ?_⟩
      have s6 : Same H5 (upd H5 p6 (.lst [.ref p5])) := same_upd np6
      have hp6 : (upd H5 p6 (.lst [.ref p5])) p6 = some (.lst [.ref p5]) := upd_same
      have hp56 := s6 _ _ hp5
      generalize upd H5 p6 (.lst [.ref p5]) = H6 at s6 hp6 hp56 ⊢
      have s36 := (s4.trans s5).trans s6
      have s06 := s03.trans s36
      have R6 := R.mono s06
      have hne : es ≠ [] → m = n := hmd
      have hwl : (wts st (m + 1)).length = m + 1 := wts_len (by omega)
      refine ⟨a, p6, xs, es, [.ref p5], [wts st (m + 1)], rfl, .inl (.inl R6.l), R6.e, by omega, R.le1000, .inl (.inl hp6), .cons hp56 .nil, (by show 1 ≤ 1; decide), (by show 1 ≤ 1000; decide), wts_small h1 (by omega), fun e he l hl => ?_, fun g p7 ws7 H7 hg s7 np7 hp7 hE7 => ?_⟩
      · rw [List.mem_singleton.mp hl, hwl, R.d e he, hmd fun z => by rw [z] at he; cases he]
        exact Nat.le_refl _
      have s07 := s06.trans s7
      have R7 := R.mono s07
      have hla7 := (s36.trans s7) _ _ hla3
      have hhd7 := (s36.trans s7) _ _ hhd
      have LA : RQ H7 la xs es (n + 1) := ⟨hla7, R7.e, R.v, R.d, R.n1, R.n3, R.z⟩
      obtain ⟨hgn, hgl⟩ := map_rn (b := p6) (us := [V.ref p5]) R (Ms := [wts st (m + 1)]) (by show 1 ≤ 1; decide) (by show 1 ≤ 3; decide) hg
      have RP : RQ H7 p7 ws7 g 1 := ⟨hp7, hE7, hgn.v, hgn.at_, by decide, by decide, hgl⟩
      have hDs : DpAll K H7 [.ref la] [dRow es] := .cons LA.dp .nil
      have hDr : DpAll K H7 [.ref a] [dRow es] := .cons R7.dp .nil
      have hsh : SeqAt.shaped (.list [dRow es]) = true := (DOk.list (n := 4) fun d hd => by
        rw [List.mem_singleton.mp hd]
        exact DOk.row es).shaped (by decide)
      have hH : Dp K H7 (.ref hd) (.list [dRow es]) := .lst (.inl (.inl hhd7)) hDs
      have hS : SqL K H7 hd [.ref la] := .inl (.inl hhd7)
      have hdim : dimE es ≤ 3 ∧ ∀ e ∈ es, e.1.length = dimE es := by
        by_cases z : es = []
        · rw [z]
          exact ⟨Nat.zero_le _, fun e he => by cases he⟩
        · rw [dimE_eq R.d z]
          exact ⟨R.n3, R.d⟩
      have hmap : mapL [wts st (dimE es)] es = mapL [wts st (m + 1)] es := by
        by_cases z : es = []
        · rw [z]
          rfl
        · rw [dimE_eq R.d z, hmd z]
      refine ⟨_, rfl, hd, _, 0, _, rfl, rfl, hS, atI_nat (j := 0) rfl, _, rfl, la, st, xs, es, dimE es, rfl, h1, by omega, LA.l, LA.e, by omega, rfl, hdim.1, hdim.2, fun g2 p8 ws8 H8 hg2 s8 np8 hp8 hE8 => ?_⟩
      rw [hmap] at hg2
      have e2 := hg2.one hg
      subst e2
      refine ⟨_, rfl, _, rfl, _, rfl, (by show 1 ≤ sizeLine; decide), fun p9 np9 => ?_⟩
      have s9 : Same H8 (upd H8 p9 (.lst [.ref a])) := same_upd np9
      have hp9 : (upd H8 p9 (.lst [.ref a])) p9 = some (.lst [.ref a]) := upd_same
      generalize upd H8 p9 (.lst [.ref a]) = H9 at s9 hp9 ⊢
      have s89 := s8.trans s9
      have hne9 : p9 ≠ p8 := fun z => by
        rw [z] at np9
        rw [np9] at hp8
        cases hp8
      refine ⟨H7, p8, p7, hd, p9, ws8, ws7, _, g2, 1, [dRow es], rfl, s89, np8, s9 _ _ hp8, hE8.mono s9, s89 _ _ hp7, hE7.mono s89, hgn, by omega, hH, hp9, hDr, hne9, hsh, fun H10 s10 => ⟨_, rfl, ?_⟩⟩
      refine iteF ?_
      refine ⟨_, rfl, _, rfl, _, rfl, p7, st, m, ws7, g2, 1, rfl, h1, by omega, hm, RP.mono s10, fun H11 s11 => ⟨_, rfl, ?_⟩⟩
      refine iteF ?_
      have s711 := s10.trans s11
      have R11 := R7.mono s711
      refine ⟨_, rfl, _, rfl, a, st, xs, es, rfl, h1, by omega, R11.l, R11.e, by omega, fun e he => by rw [R.d e he]; omega, fun bb H12 hb s12 => ?_⟩
      have s712 := s711.trans s12
      refine ⟨_, rfl, _, rfl, ?_⟩
      cases bb with
      | false => exact iteT (q _ (s07.trans s712))
      | true =>
        refine iteF ?_
        have RP12 := RP.mono s712
        refine ⟨_, rfl, p7, _, rfl, .inl (.inl (.inl RP12.l)), fun l nl => ?_⟩
        have s13 : Same H12 (upd H12 l (.lst ws7)) := same_upd nl
        have hl : (upd H12 l (.lst ws7)) l = some (.lst ws7) := upd_same
        generalize upd H12 l (.lst ws7) = H13 at s13 hl ⊢
        have s713 := s712.trans s13
        refine ⟨_, rfl, _, rfl, l, st, m, ws7, g2, rfl, h1, by omega, by omega, hl, RP12.e.mono s13, by omega, hgn.at_, fun u p14 ws14 H14 hu s14 np14 hp14 hE14 => ?_⟩
        have s714 := s713.trans s14
        have R14 := R7.mono s714
        have hue : u = es := by
          by_cases z : es = []
          · subst z
            have hg0 : g2 = [] := by
              have := hg.len
              cases g2 with
              | nil => rfl
              | cons x r => cases this
            subst hg0
            have := hu.len
            cases u with
            | nil => rfl
            | cons x r => cases this
          · have hmn := hmd z
            rw [hmn] at hu hg
            exact pack_back h1 R (hb rfl) hg hu
        subst hue
        exact ⟨_, rfl, p14, a, ws14, xs, u, n + 1, rfl, hp14, hE14, R14.l, R14.e, R.rn, by omega, q _ (s07.trans s714)⟩
end
end OT

set_option Elab.async false
set_option linter.all false
set_option maxRecDepth 100000
set_option maxHeartbeats 4000000
namespace OT
open PySem PySem.Spec PyProof.Rows L2
theorem dotP_cons (x y : Int) (l k : Pl) : dotP (x :: l) (y :: k) = x * y + dotP l k := rfl
theorem dotP_neg : ∀ l k : Pl, dotP l (negP k) = - dotP l k
  | [], k => by cases k <;> rfl
  | x :: l, [] => rfl
  | x :: l, y :: k => by
    show dotP (x :: l) (-y :: negP k) = _
    rw [dotP_cons, dotP_cons, dotP_neg l k, Int.mul_neg]
    omega
theorem dotP_plus : ∀ (l : Pl) {k m : Pl}, k.length = m.length → dotP l (plusP k m) = dotP l k + dotP l m
  | [], k, m, _ => by
    cases k <;> cases m <;> rfl
  | x :: l, [], [], _ => rfl
  | x :: l, [], _ :: _, h => by cases h
  | x :: l, _ :: _, [], h => by cases h
  | x :: l, y :: k, z :: m, h => by
    show dotP (x :: l) ((y + z) :: plusP k m) = _
    rw [dotP_cons, dotP_cons, dotP_cons, dotP_plus l (Nat.succ.inj h), Int.mul_add]
    omega
theorem imgP_neg (Ms : List Pl) (k : Pl) : imgP Ms (negP k) = negP (imgP Ms k) := by
  unfold imgP
  rw [show negP (Ms.map fun l => dotP l k) = (Ms.map fun l => dotP l k).map (fun x => -x) from rfl, List.map_map]
  exact List.map_congr_left fun l _ => dotP_neg l k
theorem imgP_plus : ∀ (Ms : List Pl) {k m : Pl}, k.length = m.length → imgP Ms (plusP k m) = plusP (imgP Ms k) (imgP Ms m)
  | [], _, _, _ => rfl
  | l :: r, k, m, h => by
    show dotP l (plusP k m) :: imgP r (plusP k m) = (dotP l k + dotP l m) :: plusP (imgP r k) (imgP r m)
    rw [dotP_plus l h, imgP_plus r h]
theorem mapL_app (Ms : List Pl) (a b : List Ent) : mapL Ms (a ++ b) = mapL Ms a ++ mapL Ms b := List.map_append
theorem mapL_mir (Ms : List Pl) (es : List Ent) : mirL (mapL Ms es) = mapL Ms (mirL es) := by
  show (es.map _).map _ = (es.map _).map _
  rw [List.map_map, List.map_map]
  refine List.map_congr_left fun e _ => ?_
  show (negP (imgP Ms e.1), e.2) = (imgP Ms (negP e.1), e.2)
  rw [imgP_neg]
theorem mapL_rowT (Ms : List Pl) (e : Ent) : ∀ fs : List Ent, (∀ g ∈ fs, e.1.length = g.1.length) → mapL Ms (rowT e fs) = rowT (imgP Ms e.1, e.2) (mapL Ms fs)
  | [], _ => rfl
  | g :: r, h => by
    have ih := mapL_rowT Ms e r fun x hx => h x (List.mem_cons_of_mem _ hx)
    show (imgP Ms (plusP e.1 g.1), e.2 * g.2) :: mapL Ms (rowT e r) = (plusP (imgP Ms e.1) (imgP Ms g.1), e.2 * g.2) :: rowT (imgP Ms e.1, e.2) (mapL Ms r)
    rw [ih, imgP_plus Ms (h g List.mem_cons_self)]
theorem mapL_times (Ms : List Pl) : ∀ es fs : List Ent, (∀ e ∈ es, ∀ g ∈ fs, e.1.length = g.1.length) → mapL Ms (timesL es fs) = timesL (mapL Ms es) (mapL Ms fs)
  | [], _, _ => rfl
  | e :: r, fs, h => by
    have ih := mapL_times Ms r fs fun x hx => h x (List.mem_cons_of_mem _ hx)
    show mapL Ms (rowT e fs ++ timesL r fs) = rowT (imgP Ms e.1, e.2) (mapL Ms fs) ++ timesL (mapL Ms r) (mapL Ms fs)
    rw [mapL_app, ih, mapL_rowT Ms e fs (h e List.mem_cons_self)]
theorem times_congr {a b c d : List Ent} (h : ∀ q, numAt a q = numAt b q) (k : ∀ q, numAt c q = numAt d q) (q : Pl) : numAt (timesL a c) q = numAt (timesL b d) q := numAt_prodL_eq plusP h k q
theorem mir_congr {a b : List Ent} (h : ∀ q, numAt a q = numAt b q) (q : Pl) : numAt (mirL a) q = numAt (mirL b) q := numAt_mapF_eq negP h q
/-- the numbers stay within a bound -/
def NB (U : Nat) (es : List Ent) : Prop := ∀ e ∈ es, e.2.natAbs ≤ U
theorem numAt_le {U : Nat} : ∀ {es : List Ent}, NB U es → ∀ q, (numAt es q).natAbs ≤ es.length * U
  | [], _, _ => Nat.zero_le _
  | e :: r, h, q => by
    have ih := numAt_le (fun x hx => h x (List.mem_cons_of_mem _ hx)) q
    have he := h e List.mem_cons_self
    show ((if e.1 = q then e.2 else 0) + numAt r q).natAbs ≤ (r.length + 1) * U
    rw [Nat.succ_mul]
    by_cases c : e.1 = q
    · rw [if_pos c]
      omega
    · rw [if_neg c]
      omega
theorem RowIs.nb {r es : List Ent} {U : Nat} (h : RowIs r es) (hb : NB U es) : NB (es.length * U) r := fun e he => by
  have h1 := h.v.at e he
  rw [← h1, h.s]
  exact numAt_le hb _
theorem NB.le {U W : Nat} {es : List Ent} (h : NB U es) (k : U ≤ W) : NB W es := fun e he => Nat.le_trans (h e he) k
theorem NB.map {U : Nat} {es : List Ent} {f : Pl → Pl} (h : NB U es) : NB U (mapF f es) := fun e he => by
  obtain ⟨y, hy, rfl⟩ := List.mem_map.mp he
  exact h y hy
theorem NB.num {U : Nat} {es : List Ent} (h : NB U es) (k : U ≤ 1000000000000) : ∀ e ∈ es, -(2 ^ 64) < e.2 ∧ e.2 < 2 ^ 64 := fun e he => by
  have := h e he
  have h0 : (2 : Int) ^ 64 = 18446744073709551616 := by decide
  omega
section
variable {P : Program} {w : World} {K : PySem.W.Frag} {mg : Str → Option Value} {base : Heap}
def spCross (K : PySem.W.Frag) : Sp := fun vs H Q _ => ∃ (a b : Addr) (xs ys : List V) (es fs : List Ent) (n : Nat), vs = [.ref a, .ref b] ∧ RQ H a xs es n ∧ RQ H b ys fs n ∧ NB 1000000 fs ∧ wantRow H (timesL es (mirL fs)) Q
theorem c__law_cross {f : Addr} {fd : FuncData} (D : C8.Def K mg "_law_cross" s__law_cross f fd) (b : Binds K fd ["_law_first", "_law_second"] []) (T : Bi mg) (c__law_times : C8.Cal P w K mg base 2 "_law_times" (spTimes K) []) (c__law_mirror : C8.Cal P w K mg base 2 "_law_mirror" spMir []) : C8.Cal P w K mg base 3 "_law_cross" (spCross K) [] := by
  refine C8.cal0 D b .nil sc__law_cross (fun vs H Q E h => ?_) (fun cdv A outer s H vs Q E hr h => ?_)
  · obtain ⟨a, b, xs, ys, es, fs, n, rfl, _⟩ := h
    rfl
  · obtain ⟨a, b, xs, ys, es, fs, n, rfl, R, S, hb, q⟩ := h
    refine ⟨_, (pss_one (ps_ret (C8.pe_c c__law_times hr (by decide) (by rfl) (pa_cons (pv 0) (pa_cons (C8.pe_c c__law_mirror hr (by decide) (by rfl) (pa_cons (pv 1) pa_nil)) pa_nil))))), ?_⟩
    have hz := R.z
    have hz2 := S.z
    refine ⟨_, rfl, _, rfl, b, ys, fs, rfl, S.lst, S.le1000, fun m p ws H2 hm s2 np hp hE => ?_⟩
    have hmm : m = mirP fs := hm.one (mirP_is S.v S.d)
    have R2 := R.mono s2
    have hml : m.length ≤ 100 := by
      have := hm.len
      rw [show (mirL fs).length = fs.length from List.length_map _] at this
      omega
    have hmd : ∀ e ∈ m, e.1.length = n := fun e he => by
      obtain ⟨x, hx, ex⟩ := hm.mem he
      obtain ⟨y, hy, rfl⟩ := List.mem_map.mp hx
      rw [← ex]
      show (negP y.1).length = n
      rw [negP_len, S.d y hy]
    have hmb : NB 1000000 m := fun e he => by
      rw [hmm] at he
      obtain ⟨y, hy, rfl⟩ := List.mem_map.mp he
      exact hb y (List.mem_reverse.mp hy)
    refine ⟨a, p, xs, ws, es, m, rfl, .inl (.inl R2.l), .inl (.inl hp), R2.e, hE, ?_, fun e he g hg => by rw [R.d e he, hmd g hg], fun e he => ⟨R2.lst.p e he, R.le1000 e he⟩, hmb.num (by decide), ?_⟩
    · exact Nat.le_trans (Nat.mul_le_mul (show es.length ≤ 100 from hz) hml) (by decide)
    · intro r p3 ws3 H3 hr s3 np3 hp3 hE3
      exact q r p3 ws3 H3 (hr.congr (times_congr (fun _ => rfl) hm.s)) (s2.trans s3) (none_back s2 np3) hp3 hE3
def spOwn (K : PySem.W.Frag) : Sp := fun vs H Q _ => ∃ (a : Addr) (xs : List V) (es : List Ent) (n : Nat), vs = [.ref a] ∧ RQ H a xs es n ∧ NB 1000000 es ∧ wantRow H (timesL es (mirL es)) Q
theorem c__law_own {f : Addr} {fd : FuncData} (D : C8.Def K mg "_law_own" s__law_own f fd) (b : Binds K fd ["_law_row_here"] []) (T : Bi mg) (c__law_cross : C8.Cal P w K mg base 3 "_law_cross" (spCross K) []) : C8.Cal P w K mg base 4 "_law_own" (spOwn K) [] := by
  refine C8.cal0 D b .nil sc__law_own (fun vs H Q E h => ?_) (fun cdv A outer s H vs Q E hr h => ?_)
  · obtain ⟨a, xs, es, n, rfl, _⟩ := h
    rfl
  · obtain ⟨a, xs, es, n, rfl, R, hb, q⟩ := h
    refine ⟨_, (pss_one (ps_ret (C8.pe_c c__law_cross hr (by decide) (by rfl) (pa_cons (pv 0) (pa_cons (pv 0) pa_nil))))), ?_⟩
    exact ⟨_, rfl, _, rfl, a, a, xs, xs, es, es, n, rfl, R, R, hb, q⟩
def spMapQ : Sp := fun vs H Q E => ∃ (a b : Addr) (xs : List V) (es : List Ent) (us : List V) (Ms : List Pl), vs = [.ref a, .ref b] ∧ Lst H a xs es ∧ (∀ e ∈ es, e.1.length ≤ 1000) ∧ MatH H b us Ms ∧ (∀ e ∈ es, ∀ l ∈ Ms, e.1.length = l.length) ∧ (∃ n, ∀ l ∈ Ms, l.length = n) ∧ wantRow H (mapL Ms es) Q
theorem mapQ {M : Addr} : ∀ vs H Q E, spMapQ vs H Q E → spMapP K M vs H Q E0 := fun vs H Q E ⟨a, b, xs, es, us, Ms, e, L, hle, N, hd, ⟨n, hn⟩, q⟩ => by
  refine ⟨a, b, xs, es, us, Ms, e, L.l, L.e, L.z, hle, N.l, N.p, N.m1, by have := N.m3; omega, N.small, fun hm => ?_, fun _ => q⟩
  rw [mixM_eq N.k1 N.m1 (fun e he => by
    have := L.p e he
    cases h : e.1 with
    | nil => exact absurd h this
    | cons x r => simp)] at hm
  obtain ⟨l, hl, hne⟩ := of_decide_eq_true hm
  refine absurd ?_ hne
  unfold szOf
  by_cases z : es = []
  · rw [if_pos z]
    cases Ms with
    | nil => cases hl
    | cons k r => rw [hn l hl]; exact (hn k List.mem_cons_self).symm
  · rw [if_neg z]
    cases es with
    | nil => exact absurd rfl z
    | cons e r => exact (hd e List.mem_cons_self l hl).symm
end
end OT

set_option Elab.async false
set_option linter.all false
set_option maxRecDepth 100000
set_option maxHeartbeats 4000000
namespace OT
open PySem PySem.Spec PyProof.Rows L2
theorem MatH.copy {H : Hp} {b c : Addr} {us : List V} {Ms : List Pl} (h : MatH H b us Ms) (hc : H c = some (.lst us)) : MatH H c us Ms := ⟨hc, h.p, h.m1, h.m3, h.k1, h.k3, h.x⟩
/-- a row of sums of places of n coordinates -/
theorem rq_of {H : Hp} {p : Addr} {ws : List V} {g es : List Ent} {n : Nat} (hg : RowIs g es) (hd : ∀ e ∈ es, e.1.length = n) (n1 : 1 ≤ n) (n3 : n ≤ 3) (hz : es.length ≤ 100) (hp : H p = some (.lst ws)) (hE : Ents H ws g) : RQ H p ws g n := ⟨hp, hE, hg.v, fun e he => by
  obtain ⟨x, hx, ex⟩ := hg.mem he
  rw [← ex]
  exact hd x hx, n1, n3, Nat.le_trans hg.len hz⟩
theorem mapL_d {Ms : List Pl} {es : List Ent} : ∀ e ∈ mapL Ms es, e.1.length = Ms.length := fun e he => by
  obtain ⟨y, hy, rfl⟩ := List.mem_map.mp he
  exact imgP_len _ _
theorem mirL_d {es : List Ent} {n : Nat} (h : ∀ e ∈ es, e.1.length = n) : ∀ e ∈ mirL es, e.1.length = n := fun e he => by
  obtain ⟨y, hy, rfl⟩ := List.mem_map.mp he
  show (negP y.1).length = n
  rw [negP_len, h y hy]
theorem timesL_d {es fs : List Ent} {n : Nat} (h : ∀ e ∈ es, e.1.length = n) (k : ∀ e ∈ fs, e.1.length = n) : ∀ e ∈ timesL es fs, e.1.length = n := fun e he => by
  obtain ⟨x, hx, y, hy, rfl⟩ := timesL_mem he
  show (plusP x.1 y.1).length = n
  rw [plusP_len (by rw [h x hx, k y hy]; exact Nat.le_refl _), h x hx]
section
variable {P : Program} {w : World} {K : PySem.W.Frag} {mg : Str → Option Value} {base : Heap}
def spFacts : Sp := fun vs H Q _ => ∃ (a b c : Addr) (xs ys : List V) (es fs : List Ent) (n : Nat) (us : List V) (Ms : List Pl), vs = [.ref a, .ref b, .ref c] ∧ RQ H a xs es n ∧ RQ H b ys fs n ∧ es.length ≤ 8 ∧ fs.length ≤ 8 ∧ NB 1000 es ∧ NB 1000 fs ∧ MatH H c us Ms ∧ (∀ l ∈ Ms, l.length = n) ∧ ∀ H', Same H H' → Q (.bl true) H'
theorem c__law_facts_asked {f : Addr} {fd : FuncData} (D : C8.Def K mg "_law_facts_asked" s__law_facts_asked f fd) (b : Binds K fd ["_law_first", "_law_second", "_law_matrix_here"] []) (T : Bi mg)
    (c__law_mapped : C8.Cal P w K mg base 2 "_law_mapped" (spMapd K) []) (c__law_add : C8.Cal P w K mg base 2 "_law_add" spAdd []) (c_map_places : C8.Cal P w K mg base 5 "map_places" spMapQ []) (c__law_same : C8.Cal P w K mg base 4 "_law_same" (spSame K) [])
    (c__law_mirror : C8.Cal P w K mg base 2 "_law_mirror" spMir []) (c__law_own : C8.Cal P w K mg base 4 "_law_own" (spOwn K) []) : C8.Cal P w K mg base 6 "_law_facts_asked" spFacts [] := by
  refine C8.cal0 D b .nil sc__law_facts_asked (fun vs H Q E h => ?_) (fun cdv A outer s H vs Q E hr h => ?_)
  · obtain ⟨a, b, c, xs, ys, es, fs, n, us, Ms, rfl, _⟩ := h
    rfl
  · obtain ⟨a, b, c, xs, ys, es, fs, n, us, Ms, rfl, R, S, z8, y8, be, bf, N, hMn, q⟩ := h
    refine ⟨_, (pss_cons (ps_set (i := 3) sc__law_facts_asked.nd rfl (Or.inl rfl) (C8.pe_c c__law_mapped hr (by decide) (by rfl) (pa_cons (pv 0) (pa_cons (pv 2) pa_nil))))
  (pss_cons (ps_set (i := 4) sc__law_facts_asked.nd rfl (Or.inl rfl) (C8.pe_c c__law_mapped hr (by decide) (by rfl) (pa_cons (pv 1) (pa_cons (pv 2) pa_nil))))
  (pss_cons (ps_if (pt_not (pt_val (C8.pe_c c__law_same hr (by decide) (by rfl) (pa_cons (C8.pe_c c_map_places hr (by decide) (by rfl) (pa_cons (C8.pe_c c__law_add hr (by decide) (by rfl) (pa_cons (pv 0) (pa_cons (pv 1) pa_nil))) (pa_cons (pe_callTy call_list_of (by rfl) T.n_list OT.b_list (pa_cons (pv 2) pa_nil)) pa_nil))) (pa_cons (C8.pe_c c__law_add hr (by decide) (by rfl) (pa_cons (pv 3) (pa_cons (pv 4) pa_nil))) pa_nil))))) (pss_one (ps_ret pe_bl)) pss_nil)
  (pss_cons (ps_if (pt_not (pt_val (C8.pe_c c__law_same hr (by decide) (by rfl) (pa_cons (C8.pe_c c_map_places hr (by decide) (by rfl) (pa_cons (C8.pe_c c__law_mirror hr (by decide) (by rfl) (pa_cons (pv 0) pa_nil)) (pa_cons (pe_callTy call_list_of (by rfl) T.n_list OT.b_list (pa_cons (pv 2) pa_nil)) pa_nil))) (pa_cons (C8.pe_c c__law_mirror hr (by decide) (by rfl) (pa_cons (pv 3) pa_nil)) pa_nil))))) (pss_one (ps_ret pe_bl)) pss_nil)
  (pss_one (ps_ret (C8.pe_c c__law_same hr (by decide) (by rfl) (pa_cons (C8.pe_c c_map_places hr (by decide) (by rfl) (pa_cons (C8.pe_c c__law_own hr (by decide) (by rfl) (pa_cons (pv 0) pa_nil)) (pa_cons (pe_callTy call_list_of (by rfl) T.n_list OT.b_list (pa_cons (pv 2) pa_nil)) pa_nil))) (pa_cons (C8.pe_c c__law_own hr (by decide) (by rfl) (pa_cons (pv 3) pa_nil)) pa_nil))))))))), ?_⟩
    have n1 := R.n1
    have n3 := R.n3
    have m1 := N.m1
    have m3 := N.m3
    have hdl : ∀ {gs : List Ent}, (∀ e ∈ gs, e.1.length = n) → ∀ e ∈ gs, ∀ l ∈ Ms, e.1.length = l.length := fun h e he l hl => by rw [h e he, hMn l hl]
    refine ⟨_, rfl, _, rfl, a, c, xs, es, us, Ms, rfl, .inl (.inl R.l), R.e, by omega, R.le1000, .inl (.inl N.l), N.p, m1, by omega, N.small, fun e he l hl => Nat.le_of_eq (hdl R.d e he l hl), fun g1 p1 w1 H1 hg1 s1 np1 hp1 hE1 => ?_⟩
    have R1 := R.mono s1
    have S1 := S.mono s1
    have N1 := N.mono s1
    refine ⟨_, rfl, _, rfl, b, c, ys, fs, us, Ms, rfl, .inl (.inl S1.l), S1.e, by omega, S.le1000, .inl (.inl N1.l), N1.p, m1, by omega, N.small, fun e he l hl => Nat.le_of_eq (hdl S.d e he l hl), fun g2 p2 w2 H2 hg2 s2 np2 hp2 hE2 => ?_⟩
    have A2 : RQ H2 p1 w1 g1 Ms.length := (rq_of hg1 mapL_d m1 m3 (by rw [mapL_len]; omega) hp1 hE1).mono s2
    have B2 : RQ H2 p2 w2 g2 Ms.length := rq_of hg2 mapL_d m1 m3 (by rw [mapL_len]; omega) hp2 hE2
    have R2 := R1.mono s2
    have S2 := S1.mono s2
    have N2 := N1.mono s2
    have s02 := s1.trans s2
    have bg1 : NB 1000000 g1 := (hg1.nb (be.map)).le (by
      show (mapL Ms es).length * 1000 ≤ _
      rw [mapL_len]
      omega)
    clear hp1 hE1 hp2 hE2 np1 np2 R1 S1 N1 s1 s2
    refine ⟨_, rfl, _, rfl, a, b, xs, ys, es, fs, rfl, R2.lst, S2.lst, fun g3 p3 w3 H3 hg3 s3 np3 hp3 hE3 => ?_⟩
    refine ⟨_, rfl, c, _, rfl, .inl (.inl (.inl (s3 _ _ N2.l))), fun l4 nl4 => ?_⟩
    have s4 : Same H3 (upd H3 l4 (.lst us)) := same_upd nl4
    have hl4 : (upd H3 l4 (.lst us)) l4 = some (.lst us) := upd_same
    generalize upd H3 l4 (.lst us) = H4 at s4 hl4 ⊢
    have s34 := s3.trans s4
    have d3 : ∀ e ∈ es ++ fs, e.1.length = n := fun e he => by
      rcases List.mem_append.mp he with he | he
      · exact R.d e he
      · exact S.d e he
    have Q4 : RQ H4 p3 w3 g3 n := rq_of hg3 d3 n1 n3 (by rw [List.length_append]; omega) (s4 _ _ hp3) (hE3.mono s4)
    refine ⟨p3, l4, w3, g3, us, Ms, rfl, Q4.lst, Q4.le1000, (N2.mono s34).copy hl4, hdl Q4.d, ⟨n, hMn⟩, fun g5 p5 w5 H5 hg5 s5 np5 hp5 hE5 => ?_⟩
    have s25 := s34.trans s5
    refine ⟨_, rfl, _, rfl, p1, p2, w1, w2, g1, g2, rfl, (A2.mono s25).lst, (B2.mono s25).lst, fun g6 p6 w6 H6 hg6 s6 np6 hp6 hE6 => ?_⟩
    have e1 : g5 = g6 := by
      have k1 : RowIs g5 (mapL Ms (es ++ fs)) := RowIs.mapped hg3 hg5
      have k2 : RowIs g6 (mapL Ms es ++ mapL Ms fs) := RowIs.app hg1 hg2 hg6
      rw [mapL_app] at k1
      exact k1.one k2
    have rn5 : RowN Ms.length g5 := (rq_of (H := H5) hg5 mapL_d m1 m3 (by rw [mapL_len]; exact Q4.z) hp5 hE5).rn
    have l5 : g5.length ≤ 100 := by
      have := hg5.len
      rw [mapL_len] at this
      exact Nat.le_trans this Q4.z
    subst e1
    refine ⟨p5, p6, w5, w6, g5, Ms.length, rfl, s6 _ _ hp5, hE5.mono s6, hp6, hE6, rn5, by omega, _, rfl, ?_⟩
    refine iteF ?_
    have s26 := s25.trans s6
    have R6 := R2.mono s26
    have N6 := N2.mono s26
    have A6 := A2.mono s26
    have s06 := s02.trans s26
    clear hp5 hE5 hp6 hE6 hp3 hE3 np3 nl4 hl4 s3 s4 s34 s5 s25 s6 np5 np6 Q4
    refine ⟨_, rfl, a, xs, es, rfl, R6.lst, R.le1000, fun g7 p7 w7 H7 hg7 s7 np7 hp7 hE7 => ?_⟩
    refine ⟨_, rfl, c, _, rfl, .inl (.inl (.inl (s7 _ _ N6.l))), fun l8 nl8 => ?_⟩
    have s8 : Same H7 (upd H7 l8 (.lst us)) := same_upd nl8
    have hl8 : (upd H7 l8 (.lst us)) l8 = some (.lst us) := upd_same
    generalize upd H7 l8 (.lst us) = H8 at s8 hl8 ⊢
    have s78 := s7.trans s8
    have Q8 : RQ H8 p7 w7 g7 n := rq_of hg7 (mirL_d R.d) n1 n3 (by rw [show (mirL es).length = es.length from List.length_map _]; omega) (s8 _ _ hp7) (hE7.mono s8)
    refine ⟨p7, l8, w7, g7, us, Ms, rfl, Q8.lst, Q8.le1000, (N6.mono s78).copy hl8, hdl Q8.d, ⟨n, hMn⟩, fun g9 p9 w9 H9 hg9 s9 np9 hp9 hE9 => ?_⟩
    have s69 := s78.trans s9
    refine ⟨_, rfl, p1, w1, g1, rfl, (A6.mono s69).lst, A6.le1000, fun g10 p10 w10 H10 hg10 s10 np10 hp10 hE10 => ?_⟩
    have e2 : g9 = g10 := by
      have k1 : RowIs g9 (mapL Ms (mirL es)) := RowIs.mapped hg7 hg9
      have k2 : RowIs g10 (mirL (mapL Ms es)) := RowIs.mapped hg1 hg10
      rw [mapL_mir] at k2
      exact k1.one k2
    have rn9 : RowN Ms.length g9 := (rq_of (H := H9) hg9 mapL_d m1 m3 (by rw [mapL_len]; exact Q8.z) hp9 hE9).rn
    have l9 : g9.length ≤ 100 := by
      have := hg9.len
      rw [mapL_len] at this
      exact Nat.le_trans this Q8.z
    subst e2
    refine ⟨p9, p10, w9, w10, g9, Ms.length, rfl, s10 _ _ hp9, hE9.mono s10, hp10, hE10, rn9, by omega, _, rfl, ?_⟩
    refine iteF ?_
    have s610 := s69.trans s10
    have R10 := R6.mono s610
    have N10 := N6.mono s610
    have A10 := A6.mono s610
    have s010 := s06.trans s610
    clear hp9 hE9 hp10 hE10 hp7 hE7 np7 nl8 hl8 s7 s8 s78 s9 s69 s10 np9 np10 Q8
    refine ⟨_, rfl, a, xs, es, n, rfl, R10, be.le (by decide), fun g11 p11 w11 H11 hg11 s11 np11 hp11 hE11 => ?_⟩
    refine ⟨_, rfl, c, _, rfl, .inl (.inl (.inl (s11 _ _ N10.l))), fun l12 nl12 => ?_⟩
    have s12 : Same H11 (upd H11 l12 (.lst us)) := same_upd nl12
    have hl12 : (upd H11 l12 (.lst us)) l12 = some (.lst us) := upd_same
    generalize upd H11 l12 (.lst us) = H12 at s12 hl12 ⊢
    have s1112 := s11.trans s12
    have zt : (timesL es (mirL es)).length ≤ 100 := by
      rw [timesL_len, show (mirL es).length = es.length from List.length_map _]
      exact Nat.le_trans (Nat.mul_le_mul z8 z8) (by decide)
    have Q12 : RQ H12 p11 w11 g11 n := rq_of hg11 (timesL_d R.d (mirL_d R.d)) n1 n3 zt (s12 _ _ hp11) (hE11.mono s12)
    refine ⟨p11, l12, w11, g11, us, Ms, rfl, Q12.lst, Q12.le1000, (N10.mono s1112).copy hl12, hdl Q12.d, ⟨n, hMn⟩, fun g13 p13 w13 H13 hg13 s13 np13 hp13 hE13 => ?_⟩
    have s1013 := s1112.trans s13
    refine ⟨_, rfl, p1, w1, g1, Ms.length, rfl, A10.mono s1013, bg1, fun g14 p14 w14 H14 hg14 s14 np14 hp14 hE14 => ?_⟩
    have e3 : g13 = g14 := by
      have k1 : RowIs g13 (mapL Ms (timesL es (mirL es))) := RowIs.mapped hg11 hg13
      have k2 : RowIs g14 (timesL (mapL Ms es) (mirL (mapL Ms es))) := hg14.congr (times_congr hg1.s (mir_congr hg1.s))
      rw [mapL_times Ms _ _ (fun e he g hg => by rw [R.d e he, mirL_d R.d g hg]), ← mapL_mir] at k1
      exact k1.one k2
    have rn13 : RowN Ms.length g13 := (rq_of (H := H13) hg13 mapL_d m1 m3 (by rw [mapL_len]; exact Q12.z) hp13 hE13).rn
    have l13 : g13.length ≤ 100 := by
      have := hg13.len
      rw [mapL_len] at this
      exact Nat.le_trans this Q12.z
    subst e3
    exact ⟨p13, p14, w13, w14, g13, Ms.length, rfl, s14 _ _ hp13, hE13.mono s14, hp14, hE14, rn13, by omega, q _ (s010.trans (s1013.trans s14))⟩
end
end OT

set_option Elab.async false
set_option linter.all false
set_option maxRecDepth 100000
set_option maxHeartbeats 4000000
namespace OT
open PySem PySem.Spec PyProof.Rows L2
theorem pr_le {W : Nat} : ∀ (bs : List Nat) (a : Nat), (∀ n ∈ bs, n ≤ W) → bs.foldl (· * ·) a ≤ a * W ^ bs.length
  | [], a, _ => by
    show a ≤ a * W ^ 0
    rw [Nat.pow_zero, Nat.mul_one]
    exact Nat.le_refl _
  | n :: r, a, h => by
    refine Nat.le_trans (pr_le r (a * n) fun y hy => h y (List.mem_cons_of_mem _ hy)) ?_
    rw [List.length_cons, Nat.pow_succ, Nat.mul_assoc, Nat.mul_comm (W ^ r.length) W, ← Nat.mul_assoc, ← Nat.mul_assoc]
    exact Nat.mul_le_mul_right _ (Nat.mul_le_mul_left _ (h n List.mem_cons_self))
theorem boxOk {W : Nat} {bs : List Nat} (h1 : 1 ≤ W) (h2 : W ≤ 40) (hn : bs.length ≤ 3) (hw : ∀ n ∈ bs, n ≤ W) : BoxOk W bs := by
  refine ⟨hn, hw, fun i => ?_⟩
  have h3 : pr (bs.take i) ≤ 1 * W ^ (bs.take i).length := pr_le _ _ fun n hm => hw n (List.mem_of_mem_take hm)
  have h4 : (bs.take i).length ≤ 3 := by
    rw [List.length_take]
    omega
  have h5 : W ^ (bs.take i).length ≤ W ^ 3 := Nat.pow_le_pow_right h1 h4
  have h6 : W ^ 3 ≤ 40 ^ 3 := Nat.pow_le_pow_left h2 3
  have h7 : 40 ^ 3 = 64000 := by decide
  omega
theorem eqT {i : Nat} {σ : L2.St} {H : Hp} {Q : Bool → Hp → Prop} {m x : Int} (hs : σ[i]? = some (some (.int m))) (h : m = x → Q true H) (h' : m ≠ x → Q false H) : tTest (tOp rEq (tVar i) (tC (.int x))) σ H Q := by
  refine ⟨_, hs, rfl, _, rfl, ?_⟩
  by_cases c : m = x
  · rw [decide_eq_true (by rw [c])]
    exact h c
  · rw [decide_eq_false (fun z => c (V.int.inj z))]
    exact h' c
theorem drawn_rq {H : Hp} {p : Addr} {xs : List V} {es : List Ent} {n m c u : Nat} (hd : DrawnR n m c u es) (hl : H p = some (.lst xs)) (he : Ents H xs es) (n1 : 1 ≤ n) (n3 : n ≤ 3) (hm : m ≤ 100) : RQ H p xs es n := ⟨hl, he, hd.v, hd.n, n1, n3, Nat.le_trans hd.m hm⟩
theorem box_of {k : Nat} {bs : List Nat} (h : bs = [4] ∨ bs = [4, 2] ∨ bs = [2, 2, 2]) : BoxOk 4 bs ∧ pr bs ≤ 8 := by
  rcases h with rfl | rfl | rfl
  · exact ⟨boxOk (by decide) (by decide) (by decide) (by decide), by decide⟩
  · exact ⟨boxOk (by decide) (by decide) (by decide) (by decide), by decide⟩
  · exact ⟨boxOk (by decide) (by decide) (by decide) (by decide), by decide⟩
theorem Pls.set {H : Hp} {vs : List V} {ks : List Pl} (h : Pls H vs ks) {t : Addr} {k : Pl} (ht : H t = some (.tup (k.map V.int))) : ∀ j : Nat, Pls H (vs.set j (.ref t)) (ks.set j k) := by
  induction h with
  | nil => intro j; exact .nil
  | cons h1 h2 ih =>
    intro j
    cases j with
    | zero => exact .cons ht h2
    | succ j => exact .cons h1 (ih j)
def zs16 : List Int := [3, 3, 8, 9, 60, 8, 3, 3, 2]
section
variable {P : Program} {w : World} {K : PySem.W.Frag} {mg : Str → Option Value} {base : Heap}
def spLaw (K : PySem.W.Frag) : Sp := fun vs H Q _ => ∃ (a : Addr) (ns : List Int), vs = [.ref a] ∧ SqL K H a (ns.map V.int) ∧ ns.length ≤ 63 ∧ ∀ H', Q (.bl true) H'
theorem c_law {f : Addr} {fd : FuncData} (D : C8.Def K mg "law" s_law f fd) (b : Binds K fd ["_law_script"] []) (T : Bi mg) (c__law_cell : C8.Cal P w K mg base 1 "_law_cell" (spCell K) []) (c__law_draws : C8.Cal P w K mg base 1 "_law_draws" (spDraws K) []) (c__law_box : C8.Cal P w K mg base 1 "_law_box" (spBox K) []) (c__law_drawn : C8.Cal P w K mg base 3 "_law_drawn" (spDrawn K) [])
    (c__law_matrix : C8.Cal P w K mg base 2 "_law_matrix" (spMatrix K) []) (c__law_map_asked : C8.Cal P w K mg base 7 "_law_map_asked" spMapA []) (c__law_pack_asked : C8.Cal P w K mg base 8 "_law_pack_asked" spPackA []) (c__law_unpack_asked : C8.Cal P w K mg base 7 "_law_unpack_asked" spUnpA [])
    (c__law_facts_asked : C8.Cal P w K mg base 6 "_law_facts_asked" spFacts []) (c__law_times : C8.Cal P w K mg base 2 "_law_times" (spTimes K) []) (c__law_mapped : C8.Cal P w K mg base 2 "_law_mapped" (spMapd K) []) (c_map_places : C8.Cal P w K mg base 5 "map_places" spMapQ []) (c__law_same : C8.Cal P w K mg base 4 "_law_same" (spSame K) []) : FnOk P w K mg base L2.CX0 9 f fd ["_law_script"] (spLaw K) := by
  refine C8.fn0 D.fn sc_law (fun vs H Q E h => ?_) (fun cdv A outer s H vs Q E hr h => ?_)
  · obtain ⟨a, ns, rfl, _⟩ := h
    rfl
  · obtain ⟨a, ns, rfl, hS, hlen, q⟩ := h
    refine ⟨_, (pss_cons (ps_set (i := 1) sc_law.nd rfl (Or.inl rfl) (C8.pe_c c__law_draws hr (by decide) (by rfl) (pa_cons (C8.pe_c c__law_cell hr (by decide) (by rfl) (pa_cons (pv 0) (pa_cons pe_int pa_nil))) (pa_cons (pe_lst (pa_cons pe_int (pa_cons pe_int (pa_cons pe_int (pa_cons pe_int (pa_cons pe_int (pa_cons pe_int (pa_cons pe_int (pa_cons pe_int (pa_cons pe_int pa_nil)))))))))) pa_nil))))
  (pss_cons (ps_set (i := 2) sc_law.nd rfl (Or.inl rfl) (pe_op op_add (pe_ix ix_list (pv 1) pe_int (fun _ _ => rfl)) pe_int))
  (pss_cons (ps_set (i := 3) sc_law.nd rfl (Or.inl rfl) (pe_op op_add pe_int (pe_ix ix_list (pv 1) pe_int (fun _ _ => rfl))))
  (C8.pss_cut (ps_if (pt_cmpR op_eq (pe_ix ix_list (pv 1) pe_int (fun _ _ => rfl)) pe_int (nomark _)) (pss_one (ps_set (i := 3) sc_law.nd rfl (Or.inl rfl) (pe_op op_add pe_int (pe_ix ix_list (pv 1) pe_int (fun _ _ => rfl))))) pss_nil)
  (pss_cons (ps_set (i := 4) sc_law.nd rfl (Or.inl rfl) (C8.pe_c c__law_drawn hr (by decide) (by rfl) (pa_cons (C8.pe_c c__law_cell hr (by decide) (by rfl) (pa_cons (pv 0) (pa_cons pe_int pa_nil))) (pa_cons (C8.pe_c c__law_box hr (by decide) (by rfl) (pa_cons (pe_ix ix_list (pv 1) pe_int (fun _ _ => rfl)) (pa_cons pe_int pa_nil))) (pa_cons pe_int (pa_cons pe_int pa_nil))))))
  (pss_cons (ps_set (i := 5) sc_law.nd rfl (Or.inl rfl) (C8.pe_c c__law_drawn hr (by decide) (by rfl) (pa_cons (C8.pe_c c__law_cell hr (by decide) (by rfl) (pa_cons (pv 0) (pa_cons pe_int pa_nil))) (pa_cons (C8.pe_c c__law_box hr (by decide) (by rfl) (pa_cons (pe_ix ix_list (pv 1) pe_int (fun _ _ => rfl)) (pa_cons pe_int pa_nil))) (pa_cons pe_int (pa_cons pe_int pa_nil))))))
  (C8.pss_cut (ps_if (pt_cmpR op_eq (pe_ix ix_list (pv 1) pe_int (fun _ _ => rfl)) pe_int (nomark _)) (pss_one (ps_set (i := 4) sc_law.nd rfl (Or.inl rfl) (pe_lst pa_nil))) pss_nil)
  (pss_cons (ps_set (i := 6) sc_law.nd rfl (Or.inl rfl) (C8.pe_c c__law_drawn hr (by decide) (by rfl) (pa_cons (C8.pe_c c__law_cell hr (by decide) (by rfl) (pa_cons (pv 0) (pa_cons pe_int pa_nil))) (pa_cons (pe_lst (pa_cons pe_int pa_nil)) (pa_cons pe_int (pa_cons pe_int pa_nil))))))
  (pss_cons (ps_set (i := 7) sc_law.nd rfl (Or.inl rfl) (C8.pe_c c__law_matrix hr (by decide) (by rfl) (pa_cons (C8.pe_c c__law_cell hr (by decide) (by rfl) (pa_cons (pv 0) (pa_cons pe_int pa_nil))) (pa_cons (pe_op op_add pe_int (pe_ix ix_list (pv 1) pe_int (fun _ _ => rfl))) (pa_cons (pv 2) pa_nil)))))
  (pss_cons (ps_set (i := 8) sc_law.nd rfl (Or.inl rfl) (pe_callTy call_list_of (by rfl) T.n_list OT.b_list (pa_cons (pv 7) pa_nil)))
  (pss_cons (ps_asg (pe_callTy call_tuple_of (by rfl) T.n_tuple OT.b_tuple (pa_cons (pe_lc (own := [("_law_k", 12)]) (g := (gName 12)) (tt := tYes) rfl sc_law.nd (pi_range1 rfl T.n_range (pa_cons (pe_op op_add pe_int (pe_op op_mod (pe_callTy call_int1 (by rfl) T.n_int OT.b_int (pa_cons (pe_op op_add (pv 2) (pe_ix ix_list (pv 1) pe_int (fun _ _ => rfl))) pa_nil)) pe_int)) pa_nil)) (blkOk_by (N := ["_law_script", "_law_draws_here", "_law_size", "_law_step", "_law_first", "_law_second", "_law_line", "_law_matrix_here", "_law_other", "_law_turn", "_law_expected", "_law_row_here", "_law_k"]) (sc := C8.fnScope s_law) (by decide +kernel)) (fun _ _ _ _ _ => (pg_name (i := 12) sc_law.nd rfl (Or.inl rfl))) (fun _ _ _ _ _ => pts_nil) (fun _ _ _ _ _ => (pv 12))) pa_nil)) (pg_sub (pv 8) (pe_op op_mod (pe_callTy call_int1 (by rfl) T.n_int OT.b_int (pa_cons (pe_ix ix_list (pv 1) pe_int (fun _ _ => rfl)) pa_nil)) (pe_callB call_len_seq (by rfl) T.n_len OT.b_len (pa_cons (pv 7) pa_nil))) set_list))
  (pss_cons (ps_for PassesOwn.never rfl (pi_range1 rfl T.n_range (pa_cons pe_int pa_nil)) (pg_name (i := 9) sc_law.nd rfl (Or.inl rfl)) (pss_cons (ps_for PassesOwn.never rfl (pi_list (pe_lst (pa_cons (pv 4) (pa_cons (pv 5) (pa_cons (pe_lst pa_nil) pa_nil))))) (pg_name (i := 11) sc_law.nd rfl (Or.inl rfl)) (pss_cons (ps_if (PW.pt (pw_or (pt_not (pt_val (C8.pe_c c__law_map_asked hr (by decide) (by rfl) (pa_cons (pv 11) (pa_cons (pv 7) pa_nil))))) (pw_or1 (pt_not (pt_val (C8.pe_c c__law_map_asked hr (by decide) (by rfl) (pa_cons (pv 11) (pa_cons (pv 8) pa_nil)))))))) (pss_one (ps_ret pe_bl)) pss_nil)
  (pss_one (ps_if (PW.pt (pw_or (pt_not (pt_val (C8.pe_c c__law_pack_asked hr (by decide) (by rfl) (pa_cons (pv 11) (pa_cons (pv 3) pa_nil))))) (pw_or1 (pt_not (pt_val (C8.pe_c c__law_unpack_asked hr (by decide) (by rfl) (pa_cons (pv 11) (pa_cons (pv 3) (pa_cons (pe_op op_add pe_int (pe_ix ix_list (pv 1) pe_int (fun _ _ => rfl))) pa_nil))))))))) (pss_one (ps_ret pe_bl)) pss_nil))))
  (pss_one (ps_if (PW.pt (pw_or (pt_not (pt_val (C8.pe_c c__law_unpack_asked hr (by decide) (by rfl) (pa_cons (pv 6) (pa_cons (pv 3) (pa_cons (pe_op op_add pe_int (pe_ix ix_list (pv 1) pe_int (fun _ _ => rfl))) pa_nil)))))) (pw_or1 (pt_not (pt_val (C8.pe_c c__law_facts_asked hr (by decide) (by rfl) (pa_cons (pv 4) (pa_cons (pv 5) (pa_cons (pv 7) pa_nil))))))))) (pss_one (ps_ret pe_bl)) pss_nil))))
  (pss_cons (ps_set (i := 10) sc_law.nd rfl (Or.inl rfl) (C8.pe_c c__law_times hr (by decide) (by rfl) (pa_cons (C8.pe_c c__law_mapped hr (by decide) (by rfl) (pa_cons (pv 4) (pa_cons (pv 7) pa_nil))) (pa_cons (C8.pe_c c__law_mapped hr (by decide) (by rfl) (pa_cons (pv 5) (pa_cons (pv 7) pa_nil))) pa_nil))))
  (pss_one (ps_ret (C8.pe_c c__law_same hr (by decide) (by rfl) (pa_cons (C8.pe_c c_map_places hr (by decide) (by rfl) (pa_cons (C8.pe_c c__law_times hr (by decide) (by rfl) (pa_cons (pv 4) (pa_cons (pv 5) pa_nil))) (pa_cons (pe_callTy call_list_of (by rfl) T.n_list OT.b_list (pa_cons (pv 7) pa_nil)) pa_nil))) (pa_cons (pv 10) pa_nil)))))))))))))))))), ?_⟩
    refine ⟨_, rfl, a, ns, 0, rfl, hS, by decide, fun c => ?_⟩
    refine ⟨by decide, fun p np => ?_⟩
    refine ⟨p, zs16, c, rfl, .inl (.inl upd_same), by decide, by decide, fun ds H1 p1 hin sm1 np1 hp1 => ?_⟩
    have sA : Same H H1 := (same_upd np).trans sm1
    have L1 : SqL K H1 p1 (ds.map V.int) := .inl (.inl hp1)
    obtain ⟨d0, g0, g0a, g0b⟩ := hin.get (i := 0) (z := 3) rfl
    obtain ⟨d1, g1, g1a, g1b⟩ := hin.get (i := 1) (z := 3) rfl
    obtain ⟨d2, g2, g2a, g2b⟩ := hin.get (i := 2) (z := 8) rfl
    obtain ⟨d3, g3, g3a, g3b⟩ := hin.get (i := 3) (z := 9) rfl
    obtain ⟨d4, g4, g4a, g4b⟩ := hin.get (i := 4) (z := 60) rfl
    obtain ⟨d5, g5, g5a, g5b⟩ := hin.get (i := 5) (z := 8) rfl
    obtain ⟨d6, g6, g6a, g6b⟩ := hin.get (i := 6) (z := 3) rfl
    obtain ⟨d7, g7, g7a, g7b⟩ := hin.get (i := 7) (z := 3) rfl
    obtain ⟨d8, g8, g8a, g8b⟩ := hin.get (i := 8) (z := 2) rfl
    obtain ⟨k, rfl⟩ := Int.eq_ofNat_of_zero_le g0a
    obtain ⟨m1, rfl⟩ := Int.eq_ofNat_of_zero_le g1a
    obtain ⟨m7, rfl⟩ := Int.eq_ofNat_of_zero_le g7a
    refine ⟨_, rfl, p1, _, 0, _, rfl, rfl, L1, atI_nat (j := 0) g0, _, _, rfl, rfl, ?_⟩
    refine ⟨_, rfl, p1, _, 3, _, rfl, rfl, L1, atI_nat (j := 3) g3, _, _, rfl, rfl, ?_⟩
    refine ⟨fun σ H2 => ∃ st : Int, 1 ≤ st ∧ st ≤ 60 ∧ σ = [some (.ref a), some (.ref p1), some (.int ((k : Int) + 1)), some (.int st), none, none, none, none, none, none, none, none, none] ∧ H2 = H1, ?_, ?_⟩
    · refine ⟨_, rfl, p1, _, 2, _, rfl, rfl, L1, atI_nat (j := 2) g2, rfl, _, rfl, iteD (fun _ => ?_) (fun _ => ?_)⟩
      · exact ⟨_, rfl, p1, _, 4, _, rfl, rfl, L1, atI_nat (j := 4) g4, _, _, rfl, rfl, 1 + d4, by omega, by omega, rfl, rfl⟩
      · exact ⟨1 + d3, by omega, by omega, rfl, rfl⟩
    rintro σ H2 ⟨st, st1, st2, rfl, rfl⟩
    refine ⟨_, rfl, a, ns, 2, rfl, sA.seq hS, by decide, fun cA => ?_⟩
    refine ⟨_, rfl, p1, _, 0, _, rfl, rfl, L1, atI_nat (j := 0) g0, k, 4, rfl, by omega, fun b1 bs H3 hbs hbl s3 hb1 => ?_⟩
    obtain ⟨hbx, hbp⟩ := box_of (k := k) hbs
    refine ⟨cA, b1, bs, 3, 2, 4, rfl, .inl (.inl hb1), hbx, by decide, by omega, by omega, by decide, by decide, fun p4 xs es H4 s4 np4 hp4 hE4 hd4 => ?_⟩
    have F4 : RQ H4 p4 xs es (k + 1) := by
      rw [← hbl]
      exact drawn_rq hd4 hp4 hE4 (by omega) (by omega) (by omega)
    have be : NB 24 es := fun e he => Nat.le_trans (hd4.u e he) (by omega)
    have le8 : es.length ≤ 8 := Nat.le_trans hd4.m hbp
    have s14 := s3.trans s4
    clear s3 s4 hp4 hE4 hd4 hb1 np4 hbx hbp hbs hbl
    refine ⟨_, rfl, a, ns, 3, rfl, (sA.trans s14).seq hS, by decide, fun cB => ?_⟩
    refine ⟨_, rfl, p1, _, 0, _, rfl, rfl, s14.seq L1, atI_nat (j := 0) g0, k, 4, rfl, by omega, fun b5 bs5 H5 hbs hbl s5 hb5 => ?_⟩
    obtain ⟨hbx, hbp⟩ := box_of (k := k) hbs
    refine ⟨cB, b5, bs5, 3, 2, 4, rfl, .inl (.inl hb5), hbx, by decide, by omega, by omega, by decide, by decide, fun p6 ys fs H6 s6 np6 hp6 hE6 hd6 => ?_⟩
    have S6 : RQ H6 p6 ys fs (k + 1) := by
      rw [← hbl]
      exact drawn_rq hd6 hp6 hE6 (by omega) (by omega) (by omega)
    have bf : NB 24 fs := fun e he => Nat.le_trans (hd6.u e he) (by omega)
    have lf8 : fs.length ≤ 8 := Nat.le_trans hd6.m hbp
    have s46 := s5.trans s6
    have F6 := F4.mono s46
    have s16 := s14.trans s46
    clear s5 s6 hp6 hE6 hd6 hb5 np6 hbx hbp hbs hbl F4 s46 s14
    refine ⟨fun σ H7 => ∃ (p4 : Addr) (xs : List V) (es : List Ent), σ = [some (.ref a), some (.ref p1), some (.int ((k : Int) + 1)), some (.int st), some (.ref p4), some (.ref p6), none, none, none, none, none, none, none] ∧ Same H2 H7 ∧ RQ H7 p4 xs es (k + 1) ∧ NB 24 es ∧ es.length ≤ 8 ∧ RQ H7 p6 ys fs (k + 1), ?_, ?_⟩
    · refine ⟨_, rfl, p1, _, 5, _, rfl, rfl, s16.seq L1, atI_nat (j := 5) g5, rfl, _, rfl, iteD (fun _ => ?_) (fun _ => ?_)⟩
      · refine ⟨by decide, fun p7 np7 => ?_⟩
        have s7 : Same H6 (upd H6 p7 (.lst [])) := same_upd np7
        exact ⟨p7, [], [], rfl, s16.trans s7, RQ.nil upd_same F6.n1 F6.n3, fun e he => (by cases he), by decide, S6.mono s7⟩
      · exact ⟨p4, xs, es, rfl, s16, F6, be, le8, S6⟩
    clear F6 be le8 S6 s16 xs es p4
    rintro σ H7 ⟨p4, xs, es, rfl, s17, F7, be, le8, S7⟩
    refine ⟨_, rfl, a, ns, 4, rfl, (sA.trans s17).seq hS, by decide, fun cL => ?_⟩
    refine ⟨by decide, fun b8 nb8 => ?_⟩
    have s8 : Same H7 (upd H7 b8 (.lst [.int 6])) := same_upd nb8
    have hb8 : (upd H7 b8 (.lst [.int 6])) b8 = some (.lst [.int 6]) := upd_same
    generalize upd H7 b8 (.lst [.int 6]) = H8 at s8 hb8 ⊢
    refine ⟨cL, b8, [6], 3, 900, 6, rfl, .inl (.inl hb8), boxOk (by decide) (by decide) (by decide) (by decide), by decide, by decide, by decide, by decide, by decide, fun p9 zs gs H9 s9 np9 hp9 hE9 hd9 => ?_⟩
    have L9 : RQ H9 p9 zs gs 1 := drawn_rq hd9 hp9 hE9 (by decide) (by decide) (by decide)
    have s79 := s8.trans s9
    have F9 := F7.mono s79
    have S9 := S7.mono s79
    have s19 := s17.trans s79
    clear s8 s9 hp9 hE9 hd9 hb8 np9 nb8 F7 S7 s79 s17
    refine ⟨_, rfl, a, ns, 1, rfl, (sA.trans s19).seq hS, by decide, fun cM => ?_⟩
    refine ⟨_, rfl, p1, _, 1, _, rfl, rfl, s19.seq L1, atI_nat (j := 1) g1, _, _, rfl, rfl, ?_⟩
    refine ⟨_, rfl, cM, 1 + m1, k + 1, rfl, by omega, by omega, by omega, by omega, fun p10 us Ms H10 s10 hp10 hP10 hMl hM => ?_⟩
    have N10 : MatH H10 p10 us Ms := ⟨hp10, hP10, by omega, by omega, fun l hl => by rw [(hM l hl).1]; omega, fun l hl => by rw [(hM l hl).1]; omega, fun l hl x hx => Nat.le_trans ((hM l hl).2 x hx) (by decide)⟩
    have hMn : ∀ l ∈ Ms, l.length = k + 1 := fun l hl => (hM l hl).1
    have F10 := F9.mono s10
    have S10 := S9.mono s10
    have L10 := L9.mono s10
    have s110 := s19.trans s10
    have hul := N10.p.len
    have hM1 := N10.m1
    have hM3 := N10.m3
    clear F9 S9 L9 s19 s10 hp10 hP10
    refine ⟨_, rfl, p10, _, rfl, .inl (.inl (.inl N10.l)), fun p11 np11 => ?_⟩
    have s11 : Same H10 (upd H10 p11 (.lst us)) := same_upd np11
    have hp11 : (upd H10 p11 (.lst us)) p11 = some (.lst us) := upd_same
    generalize upd H10 p11 (.lst us) = H11 at s11 hp11 ⊢
    obtain ⟨m8, hm8, hm83⟩ := mod_nat (n := 3) (by decide) ((k : Int) + 1 + d8)
    have s111 := s110.trans s11
    have h01 : (0 : Int) < 3 := by decide
    have hb12 : -(2 : Int) ^ 62 ≤ 1 + ((k : Int) + 1 + d8) % ((3 : Nat) : Int) ∧ 1 + ((k : Int) + 1 + d8) % ((3 : Nat) : Int) < 2 ^ 62 := by
      rw [hm8]
      constructor <;> omega
    refine ⟨_, rfl, _, rfl, p1, _, 8, _, rfl, rfl, s111.seq L1, atI_nat (j := 8) g8, _, _, rfl, rfl, .inl ⟨_, rfl, _, _, rfl, rfl, h01, _, _, rfl, rfl, _, rfl, hb12.1, hb12.2, fun p12 np12 => ?_⟩⟩
    have e12 : (1 + ((k : Int) + 1 + d8) % 3).toNat = m8 + 1 := by
      have : ((k : Int) + 1 + d8) % 3 = (m8 : Int) := hm8
      rw [this]
      omega
    rw [e12]
    refine lc_range (lo := 0) (n := m8 + 1) (fun i H12 => Same H11 H12 ∧ H12 p12 = some (.lst (((List.range i).map fun (j : Nat) => (j : Int)).map V.int))) ⟨same_upd np12, upd_same⟩ ?_ ?_
    · rintro i H12 hi ⟨sm, hD⟩
      refine ⟨rfl, tYes_of ?_⟩
      refine ⟨_, rfl, _, hD, ?_, same_mut sm np12, ?_⟩
      · rw [List.length_map, List.length_map, List.length_range]
        exact small1000 (by omega)
      · rw [upd_same, List.range_succ, List.map_append, List.map_append, Int.zero_add]
        rfl
    rintro H12 ⟨s12, hp12⟩
    refine ⟨p12, _, rfl, .inl ⟨.inl (.inl hp12), fun t nt => ?_⟩⟩
    generalize hnl : (List.range (m8 + 1)).map (fun (j : Nat) => (j : Int)) = nl at hp12 ⊢
    have hnll : nl.length = m8 + 1 := by rw [← hnl, List.length_map, List.length_range]
    have hnlx : ∀ x ∈ nl, x.natAbs ≤ 2 := fun x hx => by
      rw [← hnl] at hx
      obtain ⟨j, hj, rfl⟩ := List.mem_map.mp hx
      have := List.mem_range.mp hj
      omega
    have s13 : Same H12 (upd H12 t (.tup (nl.map V.int))) := same_upd nt
    have ht : (upd H12 t (.tup (nl.map V.int))) t = some (.tup (nl.map V.int)) := upd_same
    generalize upd H12 t (.tup (nl.map V.int)) = H13 at s13 ht ⊢
    have s1113 := s12.trans s13
    have s1013 := s11.trans s1113
    obtain ⟨m6, hm6, hm63⟩ := mod_nat (n := Ms.length) (by omega) d6
    refine ⟨_, rfl, _, rfl, p1, _, 6, _, rfl, rfl, (s110.trans s1013).seq L1, atI_nat (j := 6) g6, .inl ⟨_, rfl, ?_⟩⟩
    have hpos : (0 : Int) < (us.length : Int) := by omega
    refine ⟨_, rfl, p10, _, rfl, .inl (.inl (.inl (s1013 _ _ N10.l))), _, _, rfl, rfl, hpos, ?_⟩
    refine ⟨p11, us, (m6 : Int), m6, rfl, congrArg V.int (by rw [hul]; exact hm6), s1113 _ _ hp11, ixN_nat (by omega), ?_⟩
    have s14 : Same H10 (upd H13 p11 (.lst (us.set m6 (.ref t)))) := same_mut s1013 np11
    have hp14 : (upd H13 p11 (.lst (us.set m6 (.ref t)))) p11 = some (.lst (us.set m6 (.ref t))) := upd_same
    have hP14 : Pls (upd H13 p11 (.lst (us.set m6 (.ref t)))) (us.set m6 (.ref t)) (Ms.set m6 nl) := (Pls.set (N10.p.mono s1013) ht m6).updL (s1113 _ _ hp11)
    generalize upd H13 p11 (.lst (us.set m6 (.ref t))) = H14 at s14 hp14 hP14 ⊢
    have hOl : ∀ l ∈ Ms.set m6 nl, 1 ≤ l.length ∧ l.length ≤ 3 ∧ ∀ x ∈ l, x.natAbs ≤ 4000 := fun l hl => by
      rcases List.mem_or_eq_of_mem_set hl with hl | rfl
      · exact ⟨N10.k1 l hl, N10.k3 l hl, N10.x l hl⟩
      · exact ⟨by omega, by omega, fun x hx => Nat.le_trans (hnlx x hx) (by decide)⟩
    have O14 : MatH H14 p11 (us.set m6 (.ref t)) (Ms.set m6 nl) := ⟨hp14, hP14, by rw [List.length_set]; exact hM1, by rw [List.length_set]; exact hM3, fun l hl => (hOl l hl).1, fun l hl => (hOl l hl).2.1, fun l hl => (hOl l hl).2.2⟩
    generalize us.set m6 (V.ref t) = us2 at O14
    generalize Ms.set m6 nl = Ms2 at O14
    have F14 := F10.mono s14
    have S14 := S10.mono s14
    have N14 := N10.mono s14
    have L14 := L10.mono s14
    have sL14 : SqL K H14 p1 (ds.map V.int) := (s110.trans s14).seq L1
    have bE : NB 1000 es := be.le (by decide)
    have bF : NB 1000 fs := bf.le (by decide)
    clear F10 S10 N10 L10 s110 s111 s11 s12 s13 s1113 s1013 s14 hp14 hP14 hOl ht nt np11 np12 hp11 hp12 be bf
    refine ⟨2, rfl, by decide, by decide, ?_⟩
    refine for_range (lo := 0) (n := 2) (fun i σ H15 => ∃ y9 y11 y12 : Option V, σ = [some (.ref a), some (.ref p1), some (.int ((k : Int) + 1)), some (.int st), some (.ref p4), some (.ref p6), some (.ref p9), some (.ref p10), some (.ref p11), y9, none, y11, y12] ∧ Same H14 H15) ⟨none, none, none, rfl, Same.refl _⟩ ?_ ?_
    · rintro i σ H15 hi ⟨y9, y11, y12, rfl, s15⟩
      refine ⟨_, rfl, _, rfl, by decide, fun e0 ne0 => ?_⟩
      have s16 : Same H15 (upd H15 e0 (.lst [])) := same_upd ne0
      have he0 : (upd H15 e0 (.lst [])) e0 = some (.lst []) := upd_same
      generalize upd H15 e0 (.lst []) = H16 at s16 he0 ⊢
      refine ⟨(by show 3 ≤ sizeLine; decide), fun q0 nq0 => ?_⟩
      have s17 : Same H16 (upd H16 q0 (.lst [.ref p4, .ref p6, .ref e0])) := same_upd nq0
      have hq0 : (upd H16 q0 (.lst [.ref p4, .ref p6, .ref e0])) q0 = some (.lst [.ref p4, .ref p6, .ref e0]) := upd_same
      generalize upd H16 q0 (.lst [.ref p4, .ref p6, .ref e0]) = H17 at s17 hq0 ⊢
      have s1417 := (s15.trans s16).trans s17
      have hS17 : SqL K H17 q0 [.ref p4, .ref p6, .ref e0] := .inl (.inl hq0)
      have E17 : RQ H17 e0 [] [] (k + 1) := RQ.nil (s17 _ _ he0) F14.n1 F14.n3
      have F17 := F14.mono s1417
      have S17 := S14.mono s1417
      have N17 := N14.mono s1417
      have O17 := O14.mono s1417
      have sl17 := s1417.seq sL14
      have row : ∀ (j : Nat) (x : V), [V.ref p4, V.ref p6, V.ref e0][j]? = some x → ∃ (pj : Addr) (us : List V) (rs : List Ent), x = .ref pj ∧ RQ H17 pj us rs (k + 1) := fun j x hx => by
        match j, hx with
        | 0, hx => exact ⟨p4, _, _, (Option.some.inj hx).symm, F17⟩
        | 1, hx => exact ⟨p6, _, _, (Option.some.inj hx).symm, S17⟩
        | 2, hx => exact ⟨e0, _, _, (Option.some.inj hx).symm, E17⟩
      refine ⟨q0, rfl, ⟨_, hS17⟩, ?_⟩
      refine for_list (K := K) (xs := [V.ref p4, V.ref p6, V.ref e0]) (fun j σ H18 => ∃ y11 : Option V, σ = [some (.ref a), some (.ref p1), some (.int ((k : Int) + 1)), some (.int st), some (.ref p4), some (.ref p6), some (.ref p9), some (.ref p10), some (.ref p11), some (.int (0 + (i : Int))), none, y11, y12] ∧ Same H17 H18) ⟨y11, rfl, Same.refl _⟩ ?_ ?_ ?_
      · rintro j σ H18 _ ⟨_, _, s18⟩
        exact s18.seq hS17
      · rintro j x σ H18 hx ⟨y11, rfl, s18⟩
        obtain ⟨pj, uj, rs, rfl, RJ⟩ := row j x hx
        refine ⟨_, rfl, _, rfl, pj, p10, uj, rs, k + 1, us, Ms, rfl, RJ.mono s18, N17.mono s18, fun H19 s19 => ⟨_, rfl, ?_⟩⟩
        refine iteF ?_
        have s1719 := s18.trans s19
        refine ⟨_, rfl, _, rfl, pj, p11, uj, rs, k + 1, us2, Ms2, rfl, RJ.mono s1719, O17.mono s1719, fun H20 s20 => ⟨_, rfl, ?_⟩⟩
        refine iteF ?_
        have s1720 := s1719.trans s20
        refine ⟨_, rfl, _, rfl, pj, st, uj, rs, k, rfl, st1, st2, RJ.mono s1720, fun H21 s21 => ⟨_, rfl, ?_⟩⟩
        refine iteF ?_
        have s1721 := s1720.trans s21
        refine ⟨_, rfl, _, rfl, _, rfl, p1, _, 7, _, rfl, rfl, s1721.seq sl17, atI_nat (j := 7) g7, _, _, rfl, rfl, pj, st, m7, uj, rs, k + 1, congrArg (fun z => [V.ref pj, V.int st, V.int z]) (Int.add_comm 1 (m7 : Int)), st1, by omega, by omega, RJ.mono s1721, fun H22 s22 => ⟨_, rfl, ?_⟩⟩
        refine iteF ?_
        exact ⟨_, rfl, s1721.trans s22⟩
      · rintro σ H18 ⟨y11', rfl, s18⟩
        have s1418 := s1417.trans s18
        refine ⟨_, rfl, _, rfl, _, rfl, p1, _, 7, _, rfl, rfl, s1418.seq sL14, atI_nat (j := 7) g7, _, _, rfl, rfl, p9, st, m7, zs, gs, 1, congrArg (fun z => [V.ref p9, V.int st, V.int z]) (Int.add_comm 1 (m7 : Int)), st1, by omega, by omega, L14.mono s1418, fun H19 s19 => ⟨_, rfl, ?_⟩⟩
        refine iteF ?_
        have s1419 := s1418.trans s19
        refine ⟨_, rfl, _, rfl, _, rfl, p4, p6, p10, xs, ys, es, fs, k + 1, us, Ms, rfl, F14.mono s1419, S14.mono s1419, le8, lf8, bE, bF, N14.mono s1419, hMn, fun H20 s20 => ⟨_, rfl, ?_⟩⟩
        refine iteF ?_
        exact ⟨_, _, _, rfl, s1419.trans s20⟩
    · rintro σ H15 ⟨y9, y11, y12, rfl, s15⟩
      have F15 := F14.mono s15
      have S15 := S14.mono s15
      have N15 := N14.mono s15
      have hN3 : Ms.length ≤ 1000 := by omega
      have hdl : ∀ {gs : List Ent}, (∀ e ∈ gs, e.1.length = k + 1) → ∀ e ∈ gs, ∀ l ∈ Ms, e.1.length = l.length := fun h e he l hl => by rw [h e he, hMn l hl]
      refine ⟨_, rfl, _, rfl, p4, p10, xs, es, us, Ms, rfl, .inl (.inl F15.l), F15.e, by omega, F15.le1000, .inl (.inl N15.l), N15.p, hM1, hN3, N15.small, fun e he l hl => Nat.le_of_eq (hdl F15.d e he l hl), fun r1 q1 w1 J1 hr1 t1 nq1 hq1 hW1 => ?_⟩
      have S16 := S15.mono t1
      have N16 := N15.mono t1
      refine ⟨_, rfl, _, rfl, p6, p10, ys, fs, us, Ms, rfl, .inl (.inl S16.l), S16.e, by omega, S16.le1000, .inl (.inl N16.l), N16.p, hM1, hN3, N16.small, fun e he l hl => Nat.le_of_eq (hdl S16.d e he l hl), fun r2 q2 w2 J2 hr2 t2 nq2 hq2 hW2 => ?_⟩
      have zr1 : r1.length ≤ 8 := by
        have := hr1.len
        rw [mapL_len] at this
        omega
      have zr2 : r2.length ≤ 8 := by
        have := hr2.len
        rw [mapL_len] at this
        omega
      have A2 : RQ J2 q1 w1 r1 Ms.length := (rq_of hr1 mapL_d hM1 hM3 (by rw [mapL_len]; omega) hq1 hW1).mono t2
      have B2 : RQ J2 q2 w2 r2 Ms.length := rq_of hr2 mapL_d hM1 hM3 (by rw [mapL_len]; omega) hq2 hW2
      have br2 : NB 1000000 r2 := (hr2.nb (bF.map)).le (by
        show (mapL Ms fs).length * 1000 ≤ _
        rw [mapL_len]
        omega)
      refine ⟨q1, q2, w1, w2, r1, r2, rfl, .inl (.inl A2.l), .inl (.inl B2.l), A2.e, B2.e, Nat.le_trans (Nat.mul_le_mul zr1 zr2) (by decide), fun e he g hg => by rw [A2.d e he, B2.d g hg], fun e he => ⟨A2.lst.p e he, A2.le1000 e he⟩, br2.num (by decide), fun r3 q3 w3 J3 hr3 t3 nq3 hq3 hW3 => ?_⟩
      have t13 := (t1.trans t2).trans t3
      have F16 := F15.mono t13
      have S17 := S15.mono t13
      have N17 := N15.mono t13
      refine ⟨_, rfl, _, rfl, p4, p6, xs, ys, es, fs, rfl, .inl (.inl F16.l), .inl (.inl S17.l), F16.e, S17.e, Nat.le_trans (Nat.mul_le_mul le8 lf8) (by decide), fun e he g hg => by rw [F16.d e he, S17.d g hg], fun e he => ⟨F16.lst.p e he, F16.le1000 e he⟩, bF.num (by decide), fun r4 q4 w4 J4 hr4 t4 nq4 hq4 hW4 => ?_⟩
      refine ⟨_, rfl, p10, _, rfl, .inl (.inl (.inl (t4 _ _ N17.l))), fun l5 nl5 => ?_⟩
      have t5 : Same J4 (upd J4 l5 (.lst us)) := same_upd nl5
      have hl5 : (upd J4 l5 (.lst us)) l5 = some (.lst us) := upd_same
      generalize upd J4 l5 (.lst us) = J5 at t5 hl5 ⊢
      have zt : (timesL es fs).length ≤ 100 := by
        rw [timesL_len]
        exact Nat.le_trans (Nat.mul_le_mul le8 lf8) (by decide)
      have Q5 : RQ J5 q4 w4 r4 (k + 1) := rq_of hr4 (timesL_d F16.d S17.d) F16.n1 F16.n3 zt (t5 _ _ hq4) (hW4.mono t5)
      refine ⟨q4, l5, w4, r4, us, Ms, rfl, Q5.lst, Q5.le1000, (N17.mono (t4.trans t5)).copy hl5, hdl Q5.d, ⟨k + 1, hMn⟩, fun r6 q6 w6 J6 hr6 t6 nq6 hq6 hW6 => ?_⟩
      have e6 : r6 = r3 := by
        have k1 : RowIs r6 (mapL Ms (timesL es fs)) := RowIs.mapped hr4 hr6
        rw [mapL_times Ms _ _ (fun e he g hg => by rw [F16.d e he, S17.d g hg])] at k1
        exact k1.one (hr3.congr (times_congr hr1.s hr2.s))
      subst e6
      have t36 := (t4.trans t5).trans t6
      have rn6 : RowN Ms.length r6 := (rq_of (H := J6) hr6 mapL_d hM1 hM3 (by rw [mapL_len]; exact Q5.z) hq6 hW6).rn
      have l6 : r6.length ≤ 100 := by
        have := hr6.len
        rw [mapL_len] at this
        exact Nat.le_trans this Q5.z
      exact ⟨_, rfl, q6, q3, w6, w3, r6, Ms.length, rfl, hq6, hW6, t36 _ _ hq3, hW3.mono t36, rn6, by omega, q _⟩
end
end OT

set_option Elab.async false
set_option linter.all false
set_option maxRecDepth 100000
set_option maxHeartbeats 4000000
namespace OT
open PySem PySem.Spec PyProof.Rows L2
/-- a def that may raise, where it does not -/
theorem quiet {P : Program} {w : World} {K : PySem.W.Frag} {mg : Str → Option Value} {base : Heap} {k : Nat} {f : Addr} {fd : FuncData} {ps : List Str} {sp sp' : Sp} (F : FnOk P w K mg base (L2.CX P w) k f fd ps sp') (h : ∀ vs H Q E, sp vs H Q E → sp' vs H Q E0) : FnOk P w K mg base CX0 k f fd ps sp := by
  refine ⟨fun vs H Q E q => F.len _ _ _ _ (h _ _ _ _ q), fun A outer s H args us vs Q E hr he hb hv q => ?_⟩
  refine codeAny_mono (F.run A outer s H args us vs Q E0 hr he hb hv (h _ _ _ _ q)) fun r s' z => ?_
  cases r with
  | ok fl => cases fl with
    | ret u => exact z
    | next => exact z
    | brk => exact z
    | cont => exact z
  | error e =>
    obtain ⟨_, _, _, _, _, _, _, _, _, _, _, _, q⟩ := z
    exact q.elim
theorem quietC {P : Program} {w : World} {K : PySem.W.Frag} {mg : Str → Option Value} {base : Heap} {k : Nat} {x : Str} {st : Stmt} {f : Addr} {fd : FuncData} {ps : List Str} {ds : List Value} {dvs : List V} {sp sp' : Sp} (D : C8.Def K mg x st f fd) (b : Binds K fd ps ds) (hd : Vals dvs ds) (F : FnOk P w K mg base (L2.CX P w) k f fd ps sp') (h : ∀ vs H Q E, sp vs H Q E → sp' vs H Q E0) : C8.Cal P w K mg base k x sp dvs :=
  ⟨f, fd, ps, ds, quiet F h, D.mgf, D.kp, b, hd⟩
theorem all_mk {l : PySem.W.OpenLaw} {w : World} {K : PySem.W.Frag} {h : Heap} {mg : Str → Option Value} {fa : Addr} {f_places_length f_same_lengths f_same_dimension f_one_direction f_row_of f_gather f_image f_map_places f_pack f_split_digit f_unpacked_place f_unpack f__law_cell f__law_draws f__law_is_integer f__law_is_place f__law_is_row f__law_same f__law_plus f__law_back f__law_row f__law_add f__law_times f__law_mirror f__law_moved f__law_cross f__law_own f__law_places f__law_drawn f__law_box f__law_is_error f__law_matrix f__law_mapped f__law_mixed f__law_is_mixed f__law_is_wide f__law_kept f__law_map_asked f__law_facts_asked f__law_low f__law_unpacked f__law_fits f__law_unpack_asked f__law_pack_asked f_law f_te f_oe B M Z O C : Addr} (X : K.In h) (G : h.Ns mainGlobals mg) (hfa : mg "law" = some (.ref fa))
    {od_places_length an_places_length : Option Addr} {sl_places_length : Array (Option Value)} {oc_places_length kV_places_length dc_places_length pm_places_length cd_places_length ct_places_length : Value}
    {od_same_lengths an_same_lengths : Option Addr} {sl_same_lengths : Array (Option Value)} {oc_same_lengths kV_same_lengths dc_same_lengths pm_same_lengths cd_same_lengths ct_same_lengths : Value}
    {od_same_dimension an_same_dimension : Option Addr} {sl_same_dimension : Array (Option Value)} {oc_same_dimension kV_same_dimension dc_same_dimension pm_same_dimension cd_same_dimension ct_same_dimension : Value}
    {TD_same_dimension A0_same_dimension : Addr} {to_same_dimension uo_same_dimension : Option Addr} {tn_same_dimension un_same_dimension : Nat} {ts_same_dimension us_same_dimension : Array (Option Value)}
    {tc_same_dimension : Value}
    {od_one_direction an_one_direction : Option Addr} {sl_one_direction : Array (Option Value)} {oc_one_direction kV_one_direction dc_one_direction pm_one_direction cd_one_direction ct_one_direction : Value}
    {od_row_of an_row_of : Option Addr} {sl_row_of : Array (Option Value)} {oc_row_of kV_row_of dc_row_of pm_row_of cd_row_of ct_row_of : Value}
    {od_gather an_gather : Option Addr} {sl_gather : Array (Option Value)} {oc_gather kV_gather dc_gather pm_gather cd_gather ct_gather : Value}
    {od_image an_image : Option Addr} {sl_image : Array (Option Value)} {oc_image kV_image dc_image pm_image cd_image ct_image : Value}
    {od_map_places an_map_places : Option Addr} {sl_map_places : Array (Option Value)} {oc_map_places kV_map_places dc_map_places pm_map_places cd_map_places ct_map_places : Value}
    {od_pack an_pack : Option Addr} {sl_pack : Array (Option Value)} {oc_pack kV_pack dc_pack pm_pack cd_pack ct_pack : Value}
    {od_split_digit an_split_digit : Option Addr} {sl_split_digit : Array (Option Value)} {oc_split_digit kV_split_digit dc_split_digit pm_split_digit cd_split_digit ct_split_digit : Value}
    {od_unpacked_place an_unpacked_place : Option Addr} {sl_unpacked_place : Array (Option Value)} {oc_unpacked_place kV_unpacked_place dc_unpacked_place pm_unpacked_place cd_unpacked_place ct_unpacked_place : Value}
    {od_unpack an_unpack : Option Addr} {sl_unpack : Array (Option Value)} {oc_unpack kV_unpack dc_unpack pm_unpack cd_unpack ct_unpack : Value}
    {od__law_cell an__law_cell : Option Addr} {sl__law_cell : Array (Option Value)} {oc__law_cell kV__law_cell dc__law_cell pm__law_cell cd__law_cell ct__law_cell : Value}
    {od__law_draws an__law_draws : Option Addr} {sl__law_draws : Array (Option Value)} {oc__law_draws kV__law_draws dc__law_draws pm__law_draws cd__law_draws ct__law_draws : Value}
    {od__law_is_integer an__law_is_integer : Option Addr} {sl__law_is_integer : Array (Option Value)} {oc__law_is_integer kV__law_is_integer dc__law_is_integer pm__law_is_integer cd__law_is_integer ct__law_is_integer : Value}
    {od__law_is_place an__law_is_place : Option Addr} {sl__law_is_place : Array (Option Value)} {oc__law_is_place kV__law_is_place dc__law_is_place pm__law_is_place cd__law_is_place ct__law_is_place : Value}
    {od__law_is_row an__law_is_row : Option Addr} {sl__law_is_row : Array (Option Value)} {oc__law_is_row kV__law_is_row dc__law_is_row pm__law_is_row cd__law_is_row ct__law_is_row : Value}
    {od__law_same an__law_same : Option Addr} {sl__law_same : Array (Option Value)} {oc__law_same kV__law_same dc__law_same pm__law_same cd__law_same ct__law_same : Value}
    {od__law_plus an__law_plus : Option Addr} {sl__law_plus : Array (Option Value)} {oc__law_plus kV__law_plus dc__law_plus pm__law_plus cd__law_plus ct__law_plus : Value}
    {od__law_back an__law_back : Option Addr} {sl__law_back : Array (Option Value)} {oc__law_back kV__law_back dc__law_back pm__law_back cd__law_back ct__law_back : Value}
    {od__law_row an__law_row : Option Addr} {sl__law_row : Array (Option Value)} {oc__law_row kV__law_row dc__law_row pm__law_row cd__law_row ct__law_row : Value}
    {od__law_add an__law_add : Option Addr} {sl__law_add : Array (Option Value)} {oc__law_add kV__law_add dc__law_add pm__law_add cd__law_add ct__law_add : Value}
    {od__law_times an__law_times : Option Addr} {sl__law_times : Array (Option Value)} {oc__law_times kV__law_times dc__law_times pm__law_times cd__law_times ct__law_times : Value}
    {od__law_mirror an__law_mirror : Option Addr} {sl__law_mirror : Array (Option Value)} {oc__law_mirror kV__law_mirror dc__law_mirror pm__law_mirror cd__law_mirror ct__law_mirror : Value}
    {od__law_moved an__law_moved : Option Addr} {sl__law_moved : Array (Option Value)} {oc__law_moved kV__law_moved dc__law_moved pm__law_moved cd__law_moved ct__law_moved : Value}
    {od__law_cross an__law_cross : Option Addr} {sl__law_cross : Array (Option Value)} {oc__law_cross kV__law_cross dc__law_cross pm__law_cross cd__law_cross ct__law_cross : Value}
    {od__law_own an__law_own : Option Addr} {sl__law_own : Array (Option Value)} {oc__law_own kV__law_own dc__law_own pm__law_own cd__law_own ct__law_own : Value}
    {od__law_places an__law_places : Option Addr} {sl__law_places : Array (Option Value)} {oc__law_places kV__law_places dc__law_places pm__law_places cd__law_places ct__law_places : Value}
    {od__law_drawn an__law_drawn : Option Addr} {sl__law_drawn : Array (Option Value)} {oc__law_drawn kV__law_drawn dc__law_drawn pm__law_drawn cd__law_drawn ct__law_drawn : Value}
    {od__law_box an__law_box : Option Addr} {sl__law_box : Array (Option Value)} {oc__law_box kV__law_box dc__law_box pm__law_box cd__law_box ct__law_box : Value}
    {od__law_is_error an__law_is_error : Option Addr} {sl__law_is_error : Array (Option Value)} {oc__law_is_error kV__law_is_error dc__law_is_error pm__law_is_error cd__law_is_error ct__law_is_error : Value}
    {od__law_matrix an__law_matrix : Option Addr} {sl__law_matrix : Array (Option Value)} {oc__law_matrix kV__law_matrix dc__law_matrix pm__law_matrix cd__law_matrix ct__law_matrix : Value}
    {od__law_mapped an__law_mapped : Option Addr} {sl__law_mapped : Array (Option Value)} {oc__law_mapped kV__law_mapped dc__law_mapped pm__law_mapped cd__law_mapped ct__law_mapped : Value}
    {od__law_mixed an__law_mixed : Option Addr} {sl__law_mixed : Array (Option Value)} {oc__law_mixed kV__law_mixed dc__law_mixed pm__law_mixed cd__law_mixed ct__law_mixed : Value}
    {od__law_is_mixed an__law_is_mixed : Option Addr} {sl__law_is_mixed : Array (Option Value)} {oc__law_is_mixed kV__law_is_mixed dc__law_is_mixed pm__law_is_mixed cd__law_is_mixed ct__law_is_mixed : Value}
    {od__law_is_wide an__law_is_wide : Option Addr} {sl__law_is_wide : Array (Option Value)} {oc__law_is_wide kV__law_is_wide dc__law_is_wide pm__law_is_wide cd__law_is_wide ct__law_is_wide : Value}
    {od__law_kept an__law_kept : Option Addr} {sl__law_kept : Array (Option Value)} {oc__law_kept kV__law_kept dc__law_kept pm__law_kept cd__law_kept ct__law_kept : Value}
    {od__law_map_asked an__law_map_asked : Option Addr} {sl__law_map_asked : Array (Option Value)} {oc__law_map_asked kV__law_map_asked dc__law_map_asked pm__law_map_asked cd__law_map_asked ct__law_map_asked : Value}
    {od__law_facts_asked an__law_facts_asked : Option Addr} {sl__law_facts_asked : Array (Option Value)} {oc__law_facts_asked kV__law_facts_asked dc__law_facts_asked pm__law_facts_asked cd__law_facts_asked ct__law_facts_asked : Value}
    {od__law_low an__law_low : Option Addr} {sl__law_low : Array (Option Value)} {oc__law_low kV__law_low dc__law_low pm__law_low cd__law_low ct__law_low : Value}
    {od__law_unpacked an__law_unpacked : Option Addr} {sl__law_unpacked : Array (Option Value)} {oc__law_unpacked kV__law_unpacked dc__law_unpacked pm__law_unpacked cd__law_unpacked ct__law_unpacked : Value}
    {od__law_fits an__law_fits : Option Addr} {sl__law_fits : Array (Option Value)} {oc__law_fits kV__law_fits dc__law_fits pm__law_fits cd__law_fits ct__law_fits : Value}
    {od__law_unpack_asked an__law_unpack_asked : Option Addr} {sl__law_unpack_asked : Array (Option Value)} {oc__law_unpack_asked kV__law_unpack_asked dc__law_unpack_asked pm__law_unpack_asked cd__law_unpack_asked ct__law_unpack_asked : Value}
    {od__law_pack_asked an__law_pack_asked : Option Addr} {sl__law_pack_asked : Array (Option Value)} {oc__law_pack_asked kV__law_pack_asked dc__law_pack_asked pm__law_pack_asked cd__law_pack_asked ct__law_pack_asked : Value}
    {od_law an_law : Option Addr} {sl_law : Array (Option Value)} {oc_law kV_law dc_law pm_law cd_law ct_law : Value}
    {od_te an_te : Option Addr} {sl_te : Array (Option Value)} {oc_te kV_te dc_te pm_te cd_te ct_te : Value}
    {od_oe an_oe : Option Addr} {sl_oe : Array (Option Value)} {oc_oe kV_oe dc_oe pm_oe cd_oe ct_oe : Value}
    {nm_M q_M : Str} {N_M : Addr} {bs_M bm_M : List Value} {sn_M : List Str} {sub_M : List Value} {ab_M : Bool} {col_M : Option Bool} {dd_M : Option Addr} {m0_M m1_M m3_M m5_M : Option Value} {tk_M : Tok}
    {nm_O q_O : Str} {N_O : Addr} {bs_O bm_O : List Value} {sn_O : List Str} {sub_O : List Value} {ab_O : Bool} {col_O : Option Bool} {dd_O : Option Addr} {m0_O m1_O m3_O m5_O : Option Value} {tk_O : Tok}
    (z_len : PySem.W.nsIn K mainGlobals "len" = some none)
    (z_int : PySem.W.nsIn K mainGlobals "int" = some none)
    (z_str : PySem.W.nsIn K mainGlobals "str" = some none)
    (z_bool : PySem.W.nsIn K mainGlobals "bool" = some none)
    (z_list : PySem.W.nsIn K mainGlobals "list" = some none)
    (z_tuple : PySem.W.nsIn K mainGlobals "tuple" = some none)
    (z_range : PySem.W.nsIn K mainGlobals "range" = some none)
    (z_isinstance : PySem.W.nsIn K mainGlobals "isinstance" = some none)
    (z_sorted : PySem.W.nsIn K mainGlobals "sorted" = some none)
    (z_any : PySem.W.nsIn K mainGlobals "any" = some none)
    (z_sum : PySem.W.nsIn K mainGlobals "sum" = some none)
    (z_zip : PySem.W.nsIn K mainGlobals "zip" = some none)
    (z_ValueError : PySem.W.nsIn K mainGlobals "ValueError" = some none)
    (a_places_length : PySem.W.nsIn K mainGlobals "places_length" = some (some (.ref f_places_length)))
    (l_places_length : K.lookup f_places_length = some ⟨oc_places_length, od_places_length, .func (PySem.W.fnOf "places_length" "places_length" (C8.fnArgs s_places_length) (C8.fnBody s_places_length) (C8.fnScope s_places_length) .none kV_places_length dc_places_length pm_places_length an_places_length cd_places_length ct_places_length), sl_places_length⟩)
    (co_places_length : PySem.W.codeIn K cd_places_length "places_length" = true)
    (k_places_length : PySem.W.keepIn K (.ref f_places_length) = true)
    (a_same_lengths : PySem.W.nsIn K mainGlobals "same_lengths" = some (some (.ref f_same_lengths)))
    (l_same_lengths : K.lookup f_same_lengths = some ⟨oc_same_lengths, od_same_lengths, .func (PySem.W.fnOf "same_lengths" "same_lengths" (C8.fnArgs s_same_lengths) (C8.fnBody s_same_lengths) (C8.fnScope s_same_lengths) .none kV_same_lengths dc_same_lengths pm_same_lengths an_same_lengths cd_same_lengths ct_same_lengths), sl_same_lengths⟩)
    (co_same_lengths : PySem.W.codeIn K cd_same_lengths "same_lengths" = true)
    (k_same_lengths : PySem.W.keepIn K (.ref f_same_lengths) = true)
    (a_same_dimension : PySem.W.nsIn K mainGlobals "same_dimension" = some (some (.ref f_same_dimension)))
    (l_same_dimension : K.lookup f_same_dimension = some ⟨oc_same_dimension, od_same_dimension, .func (PySem.W.fnOf "same_dimension" "same_dimension" (C8.fnArgs s_same_dimension) (C8.fnBody s_same_dimension) (C8.fnScope s_same_dimension) (.ref TD_same_dimension) kV_same_dimension dc_same_dimension pm_same_dimension an_same_dimension cd_same_dimension ct_same_dimension), sl_same_dimension⟩)
    (lt_same_dimension : K.lookup TD_same_dimension = some ⟨tc_same_dimension, to_same_dimension, .seq #[.ref A0_same_dimension] tn_same_dimension, ts_same_dimension⟩)
    (lu_same_dimension : K.lookup A0_same_dimension = some ⟨.type "tuple", uo_same_dimension, .seq #[] un_same_dimension, us_same_dimension⟩)
    (co_same_dimension : PySem.W.codeIn K cd_same_dimension "same_dimension" = true)
    (k_same_dimension : PySem.W.keepIn K (.ref f_same_dimension) = true)
    (a_one_direction : PySem.W.nsIn K mainGlobals "one_direction" = some (some (.ref f_one_direction)))
    (l_one_direction : K.lookup f_one_direction = some ⟨oc_one_direction, od_one_direction, .func (PySem.W.fnOf "one_direction" "one_direction" (C8.fnArgs s_one_direction) (C8.fnBody s_one_direction) (C8.fnScope s_one_direction) .none kV_one_direction dc_one_direction pm_one_direction an_one_direction cd_one_direction ct_one_direction), sl_one_direction⟩)
    (co_one_direction : PySem.W.codeIn K cd_one_direction "one_direction" = true)
    (k_one_direction : PySem.W.keepIn K (.ref f_one_direction) = true)
    (a_row_of : PySem.W.nsIn K mainGlobals "row_of" = some (some (.ref f_row_of)))
    (l_row_of : K.lookup f_row_of = some ⟨oc_row_of, od_row_of, .func (PySem.W.fnOf "row_of" "row_of" (C8.fnArgs s_row_of) (C8.fnBody s_row_of) (C8.fnScope s_row_of) .none kV_row_of dc_row_of pm_row_of an_row_of cd_row_of ct_row_of), sl_row_of⟩)
    (co_row_of : PySem.W.codeIn K cd_row_of "row_of" = true)
    (k_row_of : PySem.W.keepIn K (.ref f_row_of) = true)
    (a_gather : PySem.W.nsIn K mainGlobals "gather" = some (some (.ref f_gather)))
    (l_gather : K.lookup f_gather = some ⟨oc_gather, od_gather, .func (PySem.W.fnOf "gather" "gather" (C8.fnArgs s_gather) (C8.fnBody s_gather) (C8.fnScope s_gather) .none kV_gather dc_gather pm_gather an_gather cd_gather ct_gather), sl_gather⟩)
    (co_gather : PySem.W.codeIn K cd_gather "gather" = true)
    (k_gather : PySem.W.keepIn K (.ref f_gather) = true)
    (a_image : PySem.W.nsIn K mainGlobals "image" = some (some (.ref f_image)))
    (l_image : K.lookup f_image = some ⟨oc_image, od_image, .func (PySem.W.fnOf "image" "image" (C8.fnArgs s_image) (C8.fnBody s_image) (C8.fnScope s_image) .none kV_image dc_image pm_image an_image cd_image ct_image), sl_image⟩)
    (co_image : PySem.W.codeIn K cd_image "image" = true)
    (k_image : PySem.W.keepIn K (.ref f_image) = true)
    (a_map_places : PySem.W.nsIn K mainGlobals "map_places" = some (some (.ref f_map_places)))
    (l_map_places : K.lookup f_map_places = some ⟨oc_map_places, od_map_places, .func (PySem.W.fnOf "map_places" "map_places" (C8.fnArgs s_map_places) (C8.fnBody s_map_places) (C8.fnScope s_map_places) .none kV_map_places dc_map_places pm_map_places an_map_places cd_map_places ct_map_places), sl_map_places⟩)
    (co_map_places : PySem.W.codeIn K cd_map_places "map_places" = true)
    (k_map_places : PySem.W.keepIn K (.ref f_map_places) = true)
    (a_pack : PySem.W.nsIn K mainGlobals "pack" = some (some (.ref f_pack)))
    (l_pack : K.lookup f_pack = some ⟨oc_pack, od_pack, .func (PySem.W.fnOf "pack" "pack" (C8.fnArgs s_pack) (C8.fnBody s_pack) (C8.fnScope s_pack) .none kV_pack dc_pack pm_pack an_pack cd_pack ct_pack), sl_pack⟩)
    (co_pack : PySem.W.codeIn K cd_pack "pack" = true)
    (k_pack : PySem.W.keepIn K (.ref f_pack) = true)
    (a_split_digit : PySem.W.nsIn K mainGlobals "split_digit" = some (some (.ref f_split_digit)))
    (l_split_digit : K.lookup f_split_digit = some ⟨oc_split_digit, od_split_digit, .func (PySem.W.fnOf "split_digit" "split_digit" (C8.fnArgs s_split_digit) (C8.fnBody s_split_digit) (C8.fnScope s_split_digit) .none kV_split_digit dc_split_digit pm_split_digit an_split_digit cd_split_digit ct_split_digit), sl_split_digit⟩)
    (co_split_digit : PySem.W.codeIn K cd_split_digit "split_digit" = true)
    (k_split_digit : PySem.W.keepIn K (.ref f_split_digit) = true)
    (a_unpacked_place : PySem.W.nsIn K mainGlobals "unpacked_place" = some (some (.ref f_unpacked_place)))
    (l_unpacked_place : K.lookup f_unpacked_place = some ⟨oc_unpacked_place, od_unpacked_place, .func (PySem.W.fnOf "unpacked_place" "unpacked_place" (C8.fnArgs s_unpacked_place) (C8.fnBody s_unpacked_place) (C8.fnScope s_unpacked_place) .none kV_unpacked_place dc_unpacked_place pm_unpacked_place an_unpacked_place cd_unpacked_place ct_unpacked_place), sl_unpacked_place⟩)
    (co_unpacked_place : PySem.W.codeIn K cd_unpacked_place "unpacked_place" = true)
    (k_unpacked_place : PySem.W.keepIn K (.ref f_unpacked_place) = true)
    (a_unpack : PySem.W.nsIn K mainGlobals "unpack" = some (some (.ref f_unpack)))
    (l_unpack : K.lookup f_unpack = some ⟨oc_unpack, od_unpack, .func (PySem.W.fnOf "unpack" "unpack" (C8.fnArgs s_unpack) (C8.fnBody s_unpack) (C8.fnScope s_unpack) .none kV_unpack dc_unpack pm_unpack an_unpack cd_unpack ct_unpack), sl_unpack⟩)
    (co_unpack : PySem.W.codeIn K cd_unpack "unpack" = true)
    (k_unpack : PySem.W.keepIn K (.ref f_unpack) = true)
    (a__law_cell : PySem.W.nsIn K mainGlobals "_law_cell" = some (some (.ref f__law_cell)))
    (l__law_cell : K.lookup f__law_cell = some ⟨oc__law_cell, od__law_cell, .func (PySem.W.fnOf "_law_cell" "_law_cell" (C8.fnArgs s__law_cell) (C8.fnBody s__law_cell) (C8.fnScope s__law_cell) .none kV__law_cell dc__law_cell pm__law_cell an__law_cell cd__law_cell ct__law_cell), sl__law_cell⟩)
    (co__law_cell : PySem.W.codeIn K cd__law_cell "_law_cell" = true)
    (k__law_cell : PySem.W.keepIn K (.ref f__law_cell) = true)
    (a__law_draws : PySem.W.nsIn K mainGlobals "_law_draws" = some (some (.ref f__law_draws)))
    (l__law_draws : K.lookup f__law_draws = some ⟨oc__law_draws, od__law_draws, .func (PySem.W.fnOf "_law_draws" "_law_draws" (C8.fnArgs s__law_draws) (C8.fnBody s__law_draws) (C8.fnScope s__law_draws) .none kV__law_draws dc__law_draws pm__law_draws an__law_draws cd__law_draws ct__law_draws), sl__law_draws⟩)
    (co__law_draws : PySem.W.codeIn K cd__law_draws "_law_draws" = true)
    (k__law_draws : PySem.W.keepIn K (.ref f__law_draws) = true)
    (a__law_is_integer : PySem.W.nsIn K mainGlobals "_law_is_integer" = some (some (.ref f__law_is_integer)))
    (l__law_is_integer : K.lookup f__law_is_integer = some ⟨oc__law_is_integer, od__law_is_integer, .func (PySem.W.fnOf "_law_is_integer" "_law_is_integer" (C8.fnArgs s__law_is_integer) (C8.fnBody s__law_is_integer) (C8.fnScope s__law_is_integer) .none kV__law_is_integer dc__law_is_integer pm__law_is_integer an__law_is_integer cd__law_is_integer ct__law_is_integer), sl__law_is_integer⟩)
    (co__law_is_integer : PySem.W.codeIn K cd__law_is_integer "_law_is_integer" = true)
    (k__law_is_integer : PySem.W.keepIn K (.ref f__law_is_integer) = true)
    (a__law_is_place : PySem.W.nsIn K mainGlobals "_law_is_place" = some (some (.ref f__law_is_place)))
    (l__law_is_place : K.lookup f__law_is_place = some ⟨oc__law_is_place, od__law_is_place, .func (PySem.W.fnOf "_law_is_place" "_law_is_place" (C8.fnArgs s__law_is_place) (C8.fnBody s__law_is_place) (C8.fnScope s__law_is_place) .none kV__law_is_place dc__law_is_place pm__law_is_place an__law_is_place cd__law_is_place ct__law_is_place), sl__law_is_place⟩)
    (co__law_is_place : PySem.W.codeIn K cd__law_is_place "_law_is_place" = true)
    (k__law_is_place : PySem.W.keepIn K (.ref f__law_is_place) = true)
    (a__law_is_row : PySem.W.nsIn K mainGlobals "_law_is_row" = some (some (.ref f__law_is_row)))
    (l__law_is_row : K.lookup f__law_is_row = some ⟨oc__law_is_row, od__law_is_row, .func (PySem.W.fnOf "_law_is_row" "_law_is_row" (C8.fnArgs s__law_is_row) (C8.fnBody s__law_is_row) (C8.fnScope s__law_is_row) .none kV__law_is_row dc__law_is_row pm__law_is_row an__law_is_row cd__law_is_row ct__law_is_row), sl__law_is_row⟩)
    (co__law_is_row : PySem.W.codeIn K cd__law_is_row "_law_is_row" = true)
    (k__law_is_row : PySem.W.keepIn K (.ref f__law_is_row) = true)
    (a__law_same : PySem.W.nsIn K mainGlobals "_law_same" = some (some (.ref f__law_same)))
    (l__law_same : K.lookup f__law_same = some ⟨oc__law_same, od__law_same, .func (PySem.W.fnOf "_law_same" "_law_same" (C8.fnArgs s__law_same) (C8.fnBody s__law_same) (C8.fnScope s__law_same) .none kV__law_same dc__law_same pm__law_same an__law_same cd__law_same ct__law_same), sl__law_same⟩)
    (co__law_same : PySem.W.codeIn K cd__law_same "_law_same" = true)
    (k__law_same : PySem.W.keepIn K (.ref f__law_same) = true)
    (a__law_plus : PySem.W.nsIn K mainGlobals "_law_plus" = some (some (.ref f__law_plus)))
    (l__law_plus : K.lookup f__law_plus = some ⟨oc__law_plus, od__law_plus, .func (PySem.W.fnOf "_law_plus" "_law_plus" (C8.fnArgs s__law_plus) (C8.fnBody s__law_plus) (C8.fnScope s__law_plus) .none kV__law_plus dc__law_plus pm__law_plus an__law_plus cd__law_plus ct__law_plus), sl__law_plus⟩)
    (co__law_plus : PySem.W.codeIn K cd__law_plus "_law_plus" = true)
    (k__law_plus : PySem.W.keepIn K (.ref f__law_plus) = true)
    (a__law_back : PySem.W.nsIn K mainGlobals "_law_back" = some (some (.ref f__law_back)))
    (l__law_back : K.lookup f__law_back = some ⟨oc__law_back, od__law_back, .func (PySem.W.fnOf "_law_back" "_law_back" (C8.fnArgs s__law_back) (C8.fnBody s__law_back) (C8.fnScope s__law_back) .none kV__law_back dc__law_back pm__law_back an__law_back cd__law_back ct__law_back), sl__law_back⟩)
    (co__law_back : PySem.W.codeIn K cd__law_back "_law_back" = true)
    (k__law_back : PySem.W.keepIn K (.ref f__law_back) = true)
    (a__law_row : PySem.W.nsIn K mainGlobals "_law_row" = some (some (.ref f__law_row)))
    (l__law_row : K.lookup f__law_row = some ⟨oc__law_row, od__law_row, .func (PySem.W.fnOf "_law_row" "_law_row" (C8.fnArgs s__law_row) (C8.fnBody s__law_row) (C8.fnScope s__law_row) .none kV__law_row dc__law_row pm__law_row an__law_row cd__law_row ct__law_row), sl__law_row⟩)
    (co__law_row : PySem.W.codeIn K cd__law_row "_law_row" = true)
    (k__law_row : PySem.W.keepIn K (.ref f__law_row) = true)
    (a__law_add : PySem.W.nsIn K mainGlobals "_law_add" = some (some (.ref f__law_add)))
    (l__law_add : K.lookup f__law_add = some ⟨oc__law_add, od__law_add, .func (PySem.W.fnOf "_law_add" "_law_add" (C8.fnArgs s__law_add) (C8.fnBody s__law_add) (C8.fnScope s__law_add) .none kV__law_add dc__law_add pm__law_add an__law_add cd__law_add ct__law_add), sl__law_add⟩)
    (co__law_add : PySem.W.codeIn K cd__law_add "_law_add" = true)
    (k__law_add : PySem.W.keepIn K (.ref f__law_add) = true)
    (a__law_times : PySem.W.nsIn K mainGlobals "_law_times" = some (some (.ref f__law_times)))
    (l__law_times : K.lookup f__law_times = some ⟨oc__law_times, od__law_times, .func (PySem.W.fnOf "_law_times" "_law_times" (C8.fnArgs s__law_times) (C8.fnBody s__law_times) (C8.fnScope s__law_times) .none kV__law_times dc__law_times pm__law_times an__law_times cd__law_times ct__law_times), sl__law_times⟩)
    (co__law_times : PySem.W.codeIn K cd__law_times "_law_times" = true)
    (k__law_times : PySem.W.keepIn K (.ref f__law_times) = true)
    (a__law_mirror : PySem.W.nsIn K mainGlobals "_law_mirror" = some (some (.ref f__law_mirror)))
    (l__law_mirror : K.lookup f__law_mirror = some ⟨oc__law_mirror, od__law_mirror, .func (PySem.W.fnOf "_law_mirror" "_law_mirror" (C8.fnArgs s__law_mirror) (C8.fnBody s__law_mirror) (C8.fnScope s__law_mirror) .none kV__law_mirror dc__law_mirror pm__law_mirror an__law_mirror cd__law_mirror ct__law_mirror), sl__law_mirror⟩)
    (co__law_mirror : PySem.W.codeIn K cd__law_mirror "_law_mirror" = true)
    (k__law_mirror : PySem.W.keepIn K (.ref f__law_mirror) = true)
    (a__law_moved : PySem.W.nsIn K mainGlobals "_law_moved" = some (some (.ref f__law_moved)))
    (l__law_moved : K.lookup f__law_moved = some ⟨oc__law_moved, od__law_moved, .func (PySem.W.fnOf "_law_moved" "_law_moved" (C8.fnArgs s__law_moved) (C8.fnBody s__law_moved) (C8.fnScope s__law_moved) .none kV__law_moved dc__law_moved pm__law_moved an__law_moved cd__law_moved ct__law_moved), sl__law_moved⟩)
    (co__law_moved : PySem.W.codeIn K cd__law_moved "_law_moved" = true)
    (k__law_moved : PySem.W.keepIn K (.ref f__law_moved) = true)
    (a__law_cross : PySem.W.nsIn K mainGlobals "_law_cross" = some (some (.ref f__law_cross)))
    (l__law_cross : K.lookup f__law_cross = some ⟨oc__law_cross, od__law_cross, .func (PySem.W.fnOf "_law_cross" "_law_cross" (C8.fnArgs s__law_cross) (C8.fnBody s__law_cross) (C8.fnScope s__law_cross) .none kV__law_cross dc__law_cross pm__law_cross an__law_cross cd__law_cross ct__law_cross), sl__law_cross⟩)
    (co__law_cross : PySem.W.codeIn K cd__law_cross "_law_cross" = true)
    (k__law_cross : PySem.W.keepIn K (.ref f__law_cross) = true)
    (a__law_own : PySem.W.nsIn K mainGlobals "_law_own" = some (some (.ref f__law_own)))
    (l__law_own : K.lookup f__law_own = some ⟨oc__law_own, od__law_own, .func (PySem.W.fnOf "_law_own" "_law_own" (C8.fnArgs s__law_own) (C8.fnBody s__law_own) (C8.fnScope s__law_own) .none kV__law_own dc__law_own pm__law_own an__law_own cd__law_own ct__law_own), sl__law_own⟩)
    (co__law_own : PySem.W.codeIn K cd__law_own "_law_own" = true)
    (k__law_own : PySem.W.keepIn K (.ref f__law_own) = true)
    (a__law_places : PySem.W.nsIn K mainGlobals "_law_places" = some (some (.ref f__law_places)))
    (l__law_places : K.lookup f__law_places = some ⟨oc__law_places, od__law_places, .func (PySem.W.fnOf "_law_places" "_law_places" (C8.fnArgs s__law_places) (C8.fnBody s__law_places) (C8.fnScope s__law_places) .none kV__law_places dc__law_places pm__law_places an__law_places cd__law_places ct__law_places), sl__law_places⟩)
    (co__law_places : PySem.W.codeIn K cd__law_places "_law_places" = true)
    (k__law_places : PySem.W.keepIn K (.ref f__law_places) = true)
    (a__law_drawn : PySem.W.nsIn K mainGlobals "_law_drawn" = some (some (.ref f__law_drawn)))
    (l__law_drawn : K.lookup f__law_drawn = some ⟨oc__law_drawn, od__law_drawn, .func (PySem.W.fnOf "_law_drawn" "_law_drawn" (C8.fnArgs s__law_drawn) (C8.fnBody s__law_drawn) (C8.fnScope s__law_drawn) .none kV__law_drawn dc__law_drawn pm__law_drawn an__law_drawn cd__law_drawn ct__law_drawn), sl__law_drawn⟩)
    (co__law_drawn : PySem.W.codeIn K cd__law_drawn "_law_drawn" = true)
    (k__law_drawn : PySem.W.keepIn K (.ref f__law_drawn) = true)
    (a__law_box : PySem.W.nsIn K mainGlobals "_law_box" = some (some (.ref f__law_box)))
    (l__law_box : K.lookup f__law_box = some ⟨oc__law_box, od__law_box, .func (PySem.W.fnOf "_law_box" "_law_box" (C8.fnArgs s__law_box) (C8.fnBody s__law_box) (C8.fnScope s__law_box) .none kV__law_box dc__law_box pm__law_box an__law_box cd__law_box ct__law_box), sl__law_box⟩)
    (co__law_box : PySem.W.codeIn K cd__law_box "_law_box" = true)
    (k__law_box : PySem.W.keepIn K (.ref f__law_box) = true)
    (a__law_is_error : PySem.W.nsIn K mainGlobals "_law_is_error" = some (some (.ref f__law_is_error)))
    (l__law_is_error : K.lookup f__law_is_error = some ⟨oc__law_is_error, od__law_is_error, .func (PySem.W.fnOf "_law_is_error" "_law_is_error" (C8.fnArgs s__law_is_error) (C8.fnBody s__law_is_error) (C8.fnScope s__law_is_error) .none kV__law_is_error dc__law_is_error pm__law_is_error an__law_is_error cd__law_is_error ct__law_is_error), sl__law_is_error⟩)
    (co__law_is_error : PySem.W.codeIn K cd__law_is_error "_law_is_error" = true)
    (k__law_is_error : PySem.W.keepIn K (.ref f__law_is_error) = true)
    (a__law_matrix : PySem.W.nsIn K mainGlobals "_law_matrix" = some (some (.ref f__law_matrix)))
    (l__law_matrix : K.lookup f__law_matrix = some ⟨oc__law_matrix, od__law_matrix, .func (PySem.W.fnOf "_law_matrix" "_law_matrix" (C8.fnArgs s__law_matrix) (C8.fnBody s__law_matrix) (C8.fnScope s__law_matrix) .none kV__law_matrix dc__law_matrix pm__law_matrix an__law_matrix cd__law_matrix ct__law_matrix), sl__law_matrix⟩)
    (co__law_matrix : PySem.W.codeIn K cd__law_matrix "_law_matrix" = true)
    (k__law_matrix : PySem.W.keepIn K (.ref f__law_matrix) = true)
    (a__law_mapped : PySem.W.nsIn K mainGlobals "_law_mapped" = some (some (.ref f__law_mapped)))
    (l__law_mapped : K.lookup f__law_mapped = some ⟨oc__law_mapped, od__law_mapped, .func (PySem.W.fnOf "_law_mapped" "_law_mapped" (C8.fnArgs s__law_mapped) (C8.fnBody s__law_mapped) (C8.fnScope s__law_mapped) .none kV__law_mapped dc__law_mapped pm__law_mapped an__law_mapped cd__law_mapped ct__law_mapped), sl__law_mapped⟩)
    (co__law_mapped : PySem.W.codeIn K cd__law_mapped "_law_mapped" = true)
    (k__law_mapped : PySem.W.keepIn K (.ref f__law_mapped) = true)
    (a__law_mixed : PySem.W.nsIn K mainGlobals "_law_mixed" = some (some (.ref f__law_mixed)))
    (l__law_mixed : K.lookup f__law_mixed = some ⟨oc__law_mixed, od__law_mixed, .func (PySem.W.fnOf "_law_mixed" "_law_mixed" (C8.fnArgs s__law_mixed) (C8.fnBody s__law_mixed) (C8.fnScope s__law_mixed) .none kV__law_mixed dc__law_mixed pm__law_mixed an__law_mixed cd__law_mixed ct__law_mixed), sl__law_mixed⟩)
    (co__law_mixed : PySem.W.codeIn K cd__law_mixed "_law_mixed" = true)
    (k__law_mixed : PySem.W.keepIn K (.ref f__law_mixed) = true)
    (a__law_is_mixed : PySem.W.nsIn K mainGlobals "_law_is_mixed" = some (some (.ref f__law_is_mixed)))
    (l__law_is_mixed : K.lookup f__law_is_mixed = some ⟨oc__law_is_mixed, od__law_is_mixed, .func (PySem.W.fnOf "_law_is_mixed" "_law_is_mixed" (C8.fnArgs s__law_is_mixed) (C8.fnBody s__law_is_mixed) (C8.fnScope s__law_is_mixed) .none kV__law_is_mixed dc__law_is_mixed pm__law_is_mixed an__law_is_mixed cd__law_is_mixed ct__law_is_mixed), sl__law_is_mixed⟩)
    (co__law_is_mixed : PySem.W.codeIn K cd__law_is_mixed "_law_is_mixed" = true)
    (k__law_is_mixed : PySem.W.keepIn K (.ref f__law_is_mixed) = true)
    (a__law_is_wide : PySem.W.nsIn K mainGlobals "_law_is_wide" = some (some (.ref f__law_is_wide)))
    (l__law_is_wide : K.lookup f__law_is_wide = some ⟨oc__law_is_wide, od__law_is_wide, .func (PySem.W.fnOf "_law_is_wide" "_law_is_wide" (C8.fnArgs s__law_is_wide) (C8.fnBody s__law_is_wide) (C8.fnScope s__law_is_wide) .none kV__law_is_wide dc__law_is_wide pm__law_is_wide an__law_is_wide cd__law_is_wide ct__law_is_wide), sl__law_is_wide⟩)
    (co__law_is_wide : PySem.W.codeIn K cd__law_is_wide "_law_is_wide" = true)
    (k__law_is_wide : PySem.W.keepIn K (.ref f__law_is_wide) = true)
    (a__law_kept : PySem.W.nsIn K mainGlobals "_law_kept" = some (some (.ref f__law_kept)))
    (l__law_kept : K.lookup f__law_kept = some ⟨oc__law_kept, od__law_kept, .func (PySem.W.fnOf "_law_kept" "_law_kept" (C8.fnArgs s__law_kept) (C8.fnBody s__law_kept) (C8.fnScope s__law_kept) .none kV__law_kept dc__law_kept pm__law_kept an__law_kept cd__law_kept ct__law_kept), sl__law_kept⟩)
    (co__law_kept : PySem.W.codeIn K cd__law_kept "_law_kept" = true)
    (k__law_kept : PySem.W.keepIn K (.ref f__law_kept) = true)
    (a__law_map_asked : PySem.W.nsIn K mainGlobals "_law_map_asked" = some (some (.ref f__law_map_asked)))
    (l__law_map_asked : K.lookup f__law_map_asked = some ⟨oc__law_map_asked, od__law_map_asked, .func (PySem.W.fnOf "_law_map_asked" "_law_map_asked" (C8.fnArgs s__law_map_asked) (C8.fnBody s__law_map_asked) (C8.fnScope s__law_map_asked) .none kV__law_map_asked dc__law_map_asked pm__law_map_asked an__law_map_asked cd__law_map_asked ct__law_map_asked), sl__law_map_asked⟩)
    (co__law_map_asked : PySem.W.codeIn K cd__law_map_asked "_law_map_asked" = true)
    (k__law_map_asked : PySem.W.keepIn K (.ref f__law_map_asked) = true)
    (a__law_facts_asked : PySem.W.nsIn K mainGlobals "_law_facts_asked" = some (some (.ref f__law_facts_asked)))
    (l__law_facts_asked : K.lookup f__law_facts_asked = some ⟨oc__law_facts_asked, od__law_facts_asked, .func (PySem.W.fnOf "_law_facts_asked" "_law_facts_asked" (C8.fnArgs s__law_facts_asked) (C8.fnBody s__law_facts_asked) (C8.fnScope s__law_facts_asked) .none kV__law_facts_asked dc__law_facts_asked pm__law_facts_asked an__law_facts_asked cd__law_facts_asked ct__law_facts_asked), sl__law_facts_asked⟩)
    (co__law_facts_asked : PySem.W.codeIn K cd__law_facts_asked "_law_facts_asked" = true)
    (k__law_facts_asked : PySem.W.keepIn K (.ref f__law_facts_asked) = true)
    (a__law_low : PySem.W.nsIn K mainGlobals "_law_low" = some (some (.ref f__law_low)))
    (l__law_low : K.lookup f__law_low = some ⟨oc__law_low, od__law_low, .func (PySem.W.fnOf "_law_low" "_law_low" (C8.fnArgs s__law_low) (C8.fnBody s__law_low) (C8.fnScope s__law_low) .none kV__law_low dc__law_low pm__law_low an__law_low cd__law_low ct__law_low), sl__law_low⟩)
    (co__law_low : PySem.W.codeIn K cd__law_low "_law_low" = true)
    (k__law_low : PySem.W.keepIn K (.ref f__law_low) = true)
    (a__law_unpacked : PySem.W.nsIn K mainGlobals "_law_unpacked" = some (some (.ref f__law_unpacked)))
    (l__law_unpacked : K.lookup f__law_unpacked = some ⟨oc__law_unpacked, od__law_unpacked, .func (PySem.W.fnOf "_law_unpacked" "_law_unpacked" (C8.fnArgs s__law_unpacked) (C8.fnBody s__law_unpacked) (C8.fnScope s__law_unpacked) .none kV__law_unpacked dc__law_unpacked pm__law_unpacked an__law_unpacked cd__law_unpacked ct__law_unpacked), sl__law_unpacked⟩)
    (co__law_unpacked : PySem.W.codeIn K cd__law_unpacked "_law_unpacked" = true)
    (k__law_unpacked : PySem.W.keepIn K (.ref f__law_unpacked) = true)
    (a__law_fits : PySem.W.nsIn K mainGlobals "_law_fits" = some (some (.ref f__law_fits)))
    (l__law_fits : K.lookup f__law_fits = some ⟨oc__law_fits, od__law_fits, .func (PySem.W.fnOf "_law_fits" "_law_fits" (C8.fnArgs s__law_fits) (C8.fnBody s__law_fits) (C8.fnScope s__law_fits) .none kV__law_fits dc__law_fits pm__law_fits an__law_fits cd__law_fits ct__law_fits), sl__law_fits⟩)
    (co__law_fits : PySem.W.codeIn K cd__law_fits "_law_fits" = true)
    (k__law_fits : PySem.W.keepIn K (.ref f__law_fits) = true)
    (a__law_unpack_asked : PySem.W.nsIn K mainGlobals "_law_unpack_asked" = some (some (.ref f__law_unpack_asked)))
    (l__law_unpack_asked : K.lookup f__law_unpack_asked = some ⟨oc__law_unpack_asked, od__law_unpack_asked, .func (PySem.W.fnOf "_law_unpack_asked" "_law_unpack_asked" (C8.fnArgs s__law_unpack_asked) (C8.fnBody s__law_unpack_asked) (C8.fnScope s__law_unpack_asked) .none kV__law_unpack_asked dc__law_unpack_asked pm__law_unpack_asked an__law_unpack_asked cd__law_unpack_asked ct__law_unpack_asked), sl__law_unpack_asked⟩)
    (co__law_unpack_asked : PySem.W.codeIn K cd__law_unpack_asked "_law_unpack_asked" = true)
    (k__law_unpack_asked : PySem.W.keepIn K (.ref f__law_unpack_asked) = true)
    (a__law_pack_asked : PySem.W.nsIn K mainGlobals "_law_pack_asked" = some (some (.ref f__law_pack_asked)))
    (l__law_pack_asked : K.lookup f__law_pack_asked = some ⟨oc__law_pack_asked, od__law_pack_asked, .func (PySem.W.fnOf "_law_pack_asked" "_law_pack_asked" (C8.fnArgs s__law_pack_asked) (C8.fnBody s__law_pack_asked) (C8.fnScope s__law_pack_asked) .none kV__law_pack_asked dc__law_pack_asked pm__law_pack_asked an__law_pack_asked cd__law_pack_asked ct__law_pack_asked), sl__law_pack_asked⟩)
    (co__law_pack_asked : PySem.W.codeIn K cd__law_pack_asked "_law_pack_asked" = true)
    (k__law_pack_asked : PySem.W.keepIn K (.ref f__law_pack_asked) = true)
    (a_law : PySem.W.nsIn K mainGlobals "law" = some (some (.ref f_law)))
    (l_law : K.lookup f_law = some ⟨oc_law, od_law, .func (PySem.W.fnOf "law" "law" (C8.fnArgs s_law) (C8.fnBody s_law) (C8.fnScope s_law) .none kV_law dc_law pm_law an_law cd_law ct_law), sl_law⟩)
    (co_law : PySem.W.codeIn K cd_law "law" = true)
    (k_law : PySem.W.keepIn K (.ref f_law) = true)
    (a_te : PySem.W.findIn K (.ref B) "__init__" = some (some (.ref f_te)))
    (l_te : K.lookup f_te = some ⟨oc_te, od_te, .func (PySem.W.fnOf "__init__" "TableError.__init__" (C8.fnArgs s_TableError___init__) (C8.fnBody s_TableError___init__) (C8.fnScope s_TableError___init__) .none kV_te dc_te pm_te an_te cd_te ct_te), sl_te⟩)
    (co_te : PySem.W.codeIn K cd_te "TableError.__init__" = true)
    (k_te : PySem.W.keepIn K (.ref f_te) = true)
    (a_oe : PySem.W.findIn K (.ref O) "__init__" = some (some (.ref f_oe)))
    (l_oe : K.lookup f_oe = some ⟨oc_oe, od_oe, .func (PySem.W.fnOf "__init__" "OneDirectionOnly.__init__" (C8.fnArgs s_OneDirectionOnly___init__) (C8.fnBody s_OneDirectionOnly___init__) (C8.fnScope s_OneDirectionOnly___init__) .none kV_oe dc_oe pm_oe an_oe cd_oe ct_oe), sl_oe⟩)
    (co_oe : PySem.W.codeIn K cd_oe "OneDirectionOnly.__init__" = true)
    (k_oe : PySem.W.keepIn K (.ref f_oe) = true)
    (g_B : PySem.W.nsIn K mainGlobals "TableError" = some (some (.ref B)))
    (g_M : PySem.W.nsIn K mainGlobals "MixedDimensions" = some (some (.ref M)))
    (g_Z : PySem.W.nsIn K mainGlobals "ZeroRow" = some (some (.ref Z)))
    (g_O : PySem.W.nsIn K mainGlobals "OneDirectionOnly" = some (some (.ref O)))
    (g_C : PySem.W.nsIn K mainGlobals "BadPlace" = some (some (.ref C)))
    (xl_M : K.lookup M = some (excClassObj nm_M q_M M N_M bs_M bm_M true sn_M sub_M ab_M col_M dd_M m0_M m1_M (some (.str "MixedDimensions" tk_M)) m3_M m5_M "ValueError.__new__"))
    (vb_M : PySem.HandSPX.refsVE bm_M = true)
    (sa_M : PySem.W.findIn K (.ref M) "__setattr__" = some (some (.builtin "object.__setattr__")))
    (ex_M : PySem.W.subIn K (.ref M) (.type "BaseException") = some true)
    (ty_M : PySem.W.typeIn K (.ref M) = some (.type "type"))
    (kc_M : PySem.W.keepIn K (.ref M) = true)
    (ga_M : PySem.W.findIn K (.ref M) "__getattribute__" = some (some (.builtin "BaseException.__getattribute__")))
    (gg_M : PySem.W.findIn K (.ref M) "__getattr__" = some none)
    (hd_M : PySem.W.hasDictIn K M = true)
    (ha_M : PySem.W.findIn K (.ref M) "__class__" = some (some (.builtin "object.__class__")))
    (mr_M : PySem.W.mroIn K M (.type "object") = some true)
    (rd_M : PySem.W.readsIn K M (.type "type") = true)
    (fn_M : PySem.W.findCls K (.ref M) (.type "type") "__name__" = some (.get (.builtin "getset_descriptor.__get__") (.builtin "type.__name__") (.ref M) (.type "type")))
    (nw_M : PySem.W.findIn K (.ref M) "word" = some none)
    (ni_M : PySem.W.findIn K (.ref M) "index" = some none)
    (in_M : PySem.W.findIn K (.ref M) "__init__" = some (some (.ref f_te)))
    (xl_O : K.lookup O = some (excClassObj nm_O q_O O N_O bs_O bm_O true sn_O sub_O ab_O col_O dd_O m0_O m1_O (some (.str "OneDirectionOnly" tk_O)) m3_O m5_O "ValueError.__new__"))
    (vb_O : PySem.HandSPX.refsVE bm_O = true)
    (sa_O : PySem.W.findIn K (.ref O) "__setattr__" = some (some (.builtin "object.__setattr__")))
    (ex_O : PySem.W.subIn K (.ref O) (.type "BaseException") = some true)
    (ty_O : PySem.W.typeIn K (.ref O) = some (.type "type"))
    (kc_O : PySem.W.keepIn K (.ref O) = true)
    (ga_O : PySem.W.findIn K (.ref O) "__getattribute__" = some (some (.builtin "BaseException.__getattribute__")))
    (gg_O : PySem.W.findIn K (.ref O) "__getattr__" = some none)
    (hd_O : PySem.W.hasDictIn K O = true)
    (ha_O : PySem.W.findIn K (.ref O) "__class__" = some (some (.builtin "object.__class__")))
    (mr_O : PySem.W.mroIn K O (.type "object") = some true)
    (rd_O : PySem.W.readsIn K O (.type "type") = true)
    (fn_O : PySem.W.findCls K (.ref O) (.type "type") "__name__" = some (.get (.builtin "getset_descriptor.__get__") (.builtin "type.__name__") (.ref O) (.type "type")))
    (nw_O : PySem.W.findIn K (.ref O) "word" = some none)
    (ni_O : PySem.W.findIn K (.ref O) "index" = some none)
    (in_O : PySem.W.findIn K (.ref O) "__init__" = some (some (.ref f_oe)))
    (hn : PySem.W.specialIn K (.builtin "object.__class__") "__get__" = some (some (.builtin "getset_descriptor.__get__")))
    (ht : PySem.W.takesIn K (.builtin "object.__class__") = some true)
    (ti_te : PySem.W.typeIn K (.ref f_te) = some (.type "function"))
    (ti_oe : PySem.W.typeIn K (.ref f_oe) = some (.type "function"))
    (rB : PySem.W.readsIn K B (.type "type") = true)
    (sB : PySem.W.specialIn K (.ref B) "__getattribute__" = some (some (.builtin "type.__getattribute__")))
    (fB : PySem.W.findCls K (.ref B) (.type "type") "__init__" = some (.val (.ref f_te)))
    (nd : PySem.W.findIn K (.ref O) "dimension" = some none)
    (xM : PySem.W.exmOne K (.ref M) (.ref B) = some true)
    (xO : PySem.W.exmOne K (.ref O) (.ref B) = some true)
    (kBM : PySem.W.kitOne K (.ref M) (.ref B) = some true)
    (kVM : PySem.W.kitOne K (.ref M) (.type "ValueError") = some true)
    (kBO : PySem.W.kitOne K (.ref O) (.ref B) = some true)
    (kVO : PySem.W.kitOne K (.ref O) (.type "ValueError") = some true)
    (k1 : PySem.W.kitOne K (.ref M) (.ref C) = some false)
    (k2 : PySem.W.kitOne K (.ref M) (.ref O) = some false)
    (k3 : PySem.W.kitOne K (.ref M) (.ref Z) = some false)
    (k4 : PySem.W.kitOne K (.ref M) (.ref M) = some true)
    (k5 : PySem.W.kitOne K (.ref O) (.ref M) = some false)
    (k6 : PySem.W.kitOne K (.ref O) (.ref Z) = some false)
    (k7 : PySem.W.kitOne K (.ref O) (.ref O) = some true) :
    ∃ fd : FuncData, (∀ (s : Shared) (v : Value), BindsTo s fd ⟨[v], []⟩ [("_law_script", v)]) ∧ ∀ base : Heap, K.In base → base.Ns mainGlobals mg → FnOk l.prog w K mg base L2.CX0 9 fa fd ["_law_script"] (spLaw K) := by
  have e := hfa.symm.trans (PySem.W.mg_of X G a_law)
  cases e
  have T : Bi mg := ⟨PySem.W.mg_none_of X G z_len, PySem.W.mg_none_of X G z_int, PySem.W.mg_none_of X G z_str, PySem.W.mg_none_of X G z_bool, PySem.W.mg_none_of X G z_list, PySem.W.mg_none_of X G z_tuple, PySem.W.mg_none_of X G z_range, PySem.W.mg_none_of X G z_isinstance, PySem.W.mg_none_of X G z_sorted, PySem.W.mg_none_of X G z_any, PySem.W.mg_none_of X G z_sum, PySem.W.mg_none_of X G z_zip⟩
  have D_places_length : C8.Def K mg "places_length" s_places_length f_places_length _ := ⟨⟨⟨_, _, _, _, _, _, _, _, _, _, rfl, l_places_length, co_places_length⟩⟩, PySem.W.mg_of X G a_places_length, k_places_length⟩
  have b_places_length := D_places_length.fn.binds (ps := ["row"]) rfl fun _ _ _ _ _ _ us hl => match us, hl with | [_], _ => rfl
  have D_same_lengths : C8.Def K mg "same_lengths" s_same_lengths f_same_lengths _ := ⟨⟨⟨_, _, _, _, _, _, _, _, _, _, rfl, l_same_lengths, co_same_lengths⟩⟩, PySem.W.mg_of X G a_same_lengths, k_same_lengths⟩
  have b_same_lengths := D_same_lengths.fn.binds (ps := ["lengths"]) rfl fun _ _ _ _ _ _ us hl => match us, hl with | [_], _ => rfl
  have D_same_dimension : C8.Def K mg "same_dimension" s_same_dimension f_same_dimension _ := ⟨⟨⟨_, _, _, _, _, _, _, _, _, _, rfl, l_same_dimension, co_same_dimension⟩⟩, PySem.W.mg_of X G a_same_dimension, k_same_dimension⟩
  have D_one_direction : C8.Def K mg "one_direction" s_one_direction f_one_direction _ := ⟨⟨⟨_, _, _, _, _, _, _, _, _, _, rfl, l_one_direction, co_one_direction⟩⟩, PySem.W.mg_of X G a_one_direction, k_one_direction⟩
  have b_one_direction := D_one_direction.fn.binds (ps := ["rows"]) rfl fun _ _ _ _ _ _ us hl => match us, hl with | [_], _ => rfl
  have D_row_of : C8.Def K mg "row_of" s_row_of f_row_of _ := ⟨⟨⟨_, _, _, _, _, _, _, _, _, _, rfl, l_row_of, co_row_of⟩⟩, PySem.W.mg_of X G a_row_of, k_row_of⟩
  have b_row_of := D_row_of.fn.binds (ps := ["numbers"]) rfl fun _ _ _ _ _ _ us hl => match us, hl with | [_], _ => rfl
  have D_gather : C8.Def K mg "gather" s_gather f_gather _ := ⟨⟨⟨_, _, _, _, _, _, _, _, _, _, rfl, l_gather, co_gather⟩⟩, PySem.W.mg_of X G a_gather, k_gather⟩
  have b_gather := D_gather.fn.binds (ps := ["entries"]) rfl fun _ _ _ _ _ _ us hl => match us, hl with | [_], _ => rfl
  have D_image : C8.Def K mg "image" s_image f_image _ := ⟨⟨⟨_, _, _, _, _, _, _, _, _, _, rfl, l_image, co_image⟩⟩, PySem.W.mg_of X G a_image, k_image⟩
  have b_image := D_image.fn.binds (ps := ["place", "matrix"]) rfl fun _ _ _ _ _ _ us hl => match us, hl with | [_, _], _ => rfl
  have D_map_places : C8.Def K mg "map_places" s_map_places f_map_places _ := ⟨⟨⟨_, _, _, _, _, _, _, _, _, _, rfl, l_map_places, co_map_places⟩⟩, PySem.W.mg_of X G a_map_places, k_map_places⟩
  have b_map_places := D_map_places.fn.binds (ps := ["row", "matrix"]) rfl fun _ _ _ _ _ _ us hl => match us, hl with | [_, _], _ => rfl
  have D_pack : C8.Def K mg "pack" s_pack f_pack _ := ⟨⟨⟨_, _, _, _, _, _, _, _, _, _, rfl, l_pack, co_pack⟩⟩, PySem.W.mg_of X G a_pack, k_pack⟩
  have b_pack := D_pack.fn.binds (ps := ["row", "step"]) rfl fun _ _ _ _ _ _ us hl => match us, hl with | [_, _], _ => rfl
  have D_split_digit : C8.Def K mg "split_digit" s_split_digit f_split_digit _ := ⟨⟨⟨_, _, _, _, _, _, _, _, _, _, rfl, l_split_digit, co_split_digit⟩⟩, PySem.W.mg_of X G a_split_digit, k_split_digit⟩
  have b_split_digit := D_split_digit.fn.binds (ps := ["value", "step"]) rfl fun _ _ _ _ _ _ us hl => match us, hl with | [_, _], _ => rfl
  have D_unpacked_place : C8.Def K mg "unpacked_place" s_unpacked_place f_unpacked_place _ := ⟨⟨⟨_, _, _, _, _, _, _, _, _, _, rfl, l_unpacked_place, co_unpacked_place⟩⟩, PySem.W.mg_of X G a_unpacked_place, k_unpacked_place⟩
  have b_unpacked_place := D_unpacked_place.fn.binds (ps := ["value", "step", "dimension"]) rfl fun _ _ _ _ _ _ us hl => match us, hl with | [_, _, _], _ => rfl
  have D_unpack : C8.Def K mg "unpack" s_unpack f_unpack _ := ⟨⟨⟨_, _, _, _, _, _, _, _, _, _, rfl, l_unpack, co_unpack⟩⟩, PySem.W.mg_of X G a_unpack, k_unpack⟩
  have b_unpack := D_unpack.fn.binds (ps := ["row", "step", "dimension"]) rfl fun _ _ _ _ _ _ us hl => match us, hl with | [_, _, _], _ => rfl
  have D__law_cell : C8.Def K mg "_law_cell" s__law_cell f__law_cell _ := ⟨⟨⟨_, _, _, _, _, _, _, _, _, _, rfl, l__law_cell, co__law_cell⟩⟩, PySem.W.mg_of X G a__law_cell, k__law_cell⟩
  have b__law_cell := D__law_cell.fn.binds (ps := ["_law_script", "_law_k"]) rfl fun _ _ _ _ _ _ us hl => match us, hl with | [_, _], _ => rfl
  have D__law_draws : C8.Def K mg "_law_draws" s__law_draws f__law_draws _ := ⟨⟨⟨_, _, _, _, _, _, _, _, _, _, rfl, l__law_draws, co__law_draws⟩⟩, PySem.W.mg_of X G a__law_draws, k__law_draws⟩
  have b__law_draws := D__law_draws.fn.binds (ps := ["_law_cell_here", "_law_sizes"]) rfl fun _ _ _ _ _ _ us hl => match us, hl with | [_, _], _ => rfl
  have D__law_is_integer : C8.Def K mg "_law_is_integer" s__law_is_integer f__law_is_integer _ := ⟨⟨⟨_, _, _, _, _, _, _, _, _, _, rfl, l__law_is_integer, co__law_is_integer⟩⟩, PySem.W.mg_of X G a__law_is_integer, k__law_is_integer⟩
  have b__law_is_integer := D__law_is_integer.fn.binds (ps := ["_law_actual"]) rfl fun _ _ _ _ _ _ us hl => match us, hl with | [_], _ => rfl
  have D__law_is_place : C8.Def K mg "_law_is_place" s__law_is_place f__law_is_place _ := ⟨⟨⟨_, _, _, _, _, _, _, _, _, _, rfl, l__law_is_place, co__law_is_place⟩⟩, PySem.W.mg_of X G a__law_is_place, k__law_is_place⟩
  have b__law_is_place := D__law_is_place.fn.binds (ps := ["_law_actual"]) rfl fun _ _ _ _ _ _ us hl => match us, hl with | [_], _ => rfl
  have D__law_is_row : C8.Def K mg "_law_is_row" s__law_is_row f__law_is_row _ := ⟨⟨⟨_, _, _, _, _, _, _, _, _, _, rfl, l__law_is_row, co__law_is_row⟩⟩, PySem.W.mg_of X G a__law_is_row, k__law_is_row⟩
  have b__law_is_row := D__law_is_row.fn.binds (ps := ["_law_actual"]) rfl fun _ _ _ _ _ _ us hl => match us, hl with | [_], _ => rfl
  have D__law_same : C8.Def K mg "_law_same" s__law_same f__law_same _ := ⟨⟨⟨_, _, _, _, _, _, _, _, _, _, rfl, l__law_same, co__law_same⟩⟩, PySem.W.mg_of X G a__law_same, k__law_same⟩
  have b__law_same := D__law_same.fn.binds (ps := ["_law_actual", "_law_expected"]) rfl fun _ _ _ _ _ _ us hl => match us, hl with | [_, _], _ => rfl
  have D__law_plus : C8.Def K mg "_law_plus" s__law_plus f__law_plus _ := ⟨⟨⟨_, _, _, _, _, _, _, _, _, _, rfl, l__law_plus, co__law_plus⟩⟩, PySem.W.mg_of X G a__law_plus, k__law_plus⟩
  have b__law_plus := D__law_plus.fn.binds (ps := ["_law_place", "_law_other"]) rfl fun _ _ _ _ _ _ us hl => match us, hl with | [_, _], _ => rfl
  have D__law_back : C8.Def K mg "_law_back" s__law_back f__law_back _ := ⟨⟨⟨_, _, _, _, _, _, _, _, _, _, rfl, l__law_back, co__law_back⟩⟩, PySem.W.mg_of X G a__law_back, k__law_back⟩
  have b__law_back := D__law_back.fn.binds (ps := ["_law_place"]) rfl fun _ _ _ _ _ _ us hl => match us, hl with | [_], _ => rfl
  have D__law_row : C8.Def K mg "_law_row" s__law_row f__law_row _ := ⟨⟨⟨_, _, _, _, _, _, _, _, _, _, rfl, l__law_row, co__law_row⟩⟩, PySem.W.mg_of X G a__law_row, k__law_row⟩
  have b__law_row := D__law_row.fn.binds (ps := ["_law_pairs"]) rfl fun _ _ _ _ _ _ us hl => match us, hl with | [_], _ => rfl
  have D__law_add : C8.Def K mg "_law_add" s__law_add f__law_add _ := ⟨⟨⟨_, _, _, _, _, _, _, _, _, _, rfl, l__law_add, co__law_add⟩⟩, PySem.W.mg_of X G a__law_add, k__law_add⟩
  have b__law_add := D__law_add.fn.binds (ps := ["_law_first", "_law_second"]) rfl fun _ _ _ _ _ _ us hl => match us, hl with | [_, _], _ => rfl
  have D__law_times : C8.Def K mg "_law_times" s__law_times f__law_times _ := ⟨⟨⟨_, _, _, _, _, _, _, _, _, _, rfl, l__law_times, co__law_times⟩⟩, PySem.W.mg_of X G a__law_times, k__law_times⟩
  have b__law_times := D__law_times.fn.binds (ps := ["_law_first", "_law_second"]) rfl fun _ _ _ _ _ _ us hl => match us, hl with | [_, _], _ => rfl
  have D__law_mirror : C8.Def K mg "_law_mirror" s__law_mirror f__law_mirror _ := ⟨⟨⟨_, _, _, _, _, _, _, _, _, _, rfl, l__law_mirror, co__law_mirror⟩⟩, PySem.W.mg_of X G a__law_mirror, k__law_mirror⟩
  have b__law_mirror := D__law_mirror.fn.binds (ps := ["_law_row_here"]) rfl fun _ _ _ _ _ _ us hl => match us, hl with | [_], _ => rfl
  have D__law_moved : C8.Def K mg "_law_moved" s__law_moved f__law_moved _ := ⟨⟨⟨_, _, _, _, _, _, _, _, _, _, rfl, l__law_moved, co__law_moved⟩⟩, PySem.W.mg_of X G a__law_moved, k__law_moved⟩
  have b__law_moved := D__law_moved.fn.binds (ps := ["_law_row_here", "_law_by"]) rfl fun _ _ _ _ _ _ us hl => match us, hl with | [_, _], _ => rfl
  have D__law_cross : C8.Def K mg "_law_cross" s__law_cross f__law_cross _ := ⟨⟨⟨_, _, _, _, _, _, _, _, _, _, rfl, l__law_cross, co__law_cross⟩⟩, PySem.W.mg_of X G a__law_cross, k__law_cross⟩
  have b__law_cross := D__law_cross.fn.binds (ps := ["_law_first", "_law_second"]) rfl fun _ _ _ _ _ _ us hl => match us, hl with | [_, _], _ => rfl
  have D__law_own : C8.Def K mg "_law_own" s__law_own f__law_own _ := ⟨⟨⟨_, _, _, _, _, _, _, _, _, _, rfl, l__law_own, co__law_own⟩⟩, PySem.W.mg_of X G a__law_own, k__law_own⟩
  have b__law_own := D__law_own.fn.binds (ps := ["_law_row_here"]) rfl fun _ _ _ _ _ _ us hl => match us, hl with | [_], _ => rfl
  have D__law_places : C8.Def K mg "_law_places" s__law_places f__law_places _ := ⟨⟨⟨_, _, _, _, _, _, _, _, _, _, rfl, l__law_places, co__law_places⟩⟩, PySem.W.mg_of X G a__law_places, k__law_places⟩
  have b__law_places := D__law_places.fn.binds (ps := ["_law_box_here"]) rfl fun _ _ _ _ _ _ us hl => match us, hl with | [_], _ => rfl
  have D__law_drawn : C8.Def K mg "_law_drawn" s__law_drawn f__law_drawn _ := ⟨⟨⟨_, _, _, _, _, _, _, _, _, _, rfl, l__law_drawn, co__law_drawn⟩⟩, PySem.W.mg_of X G a__law_drawn, k__law_drawn⟩
  have b__law_drawn := D__law_drawn.fn.binds (ps := ["_law_cell_here", "_law_box_here", "_law_reach", "_law_moves"]) rfl fun _ _ _ _ _ _ us hl => match us, hl with | [_, _, _, _], _ => rfl
  have D__law_box : C8.Def K mg "_law_box" s__law_box f__law_box _ := ⟨⟨⟨_, _, _, _, _, _, _, _, _, _, rfl, l__law_box, co__law_box⟩⟩, PySem.W.mg_of X G a__law_box, k__law_box⟩
  have b__law_box := D__law_box.fn.binds (ps := ["_law_kind", "_law_wide"]) rfl fun _ _ _ _ _ _ us hl => match us, hl with | [_, _], _ => rfl
  have D__law_is_error : C8.Def K mg "_law_is_error" s__law_is_error f__law_is_error _ := ⟨⟨⟨_, _, _, _, _, _, _, _, _, _, rfl, l__law_is_error, co__law_is_error⟩⟩, PySem.W.mg_of X G a__law_is_error, k__law_is_error⟩
  have b__law_is_error := D__law_is_error.fn.binds (ps := ["_law_e", "_law_word"]) rfl fun _ _ _ _ _ _ us hl => match us, hl with | [_, _], _ => rfl
  have D__law_matrix : C8.Def K mg "_law_matrix" s__law_matrix f__law_matrix _ := ⟨⟨⟨_, _, _, _, _, _, _, _, _, _, rfl, l__law_matrix, co__law_matrix⟩⟩, PySem.W.mg_of X G a__law_matrix, k__law_matrix⟩
  have b__law_matrix := D__law_matrix.fn.binds (ps := ["_law_cell_here", "_law_lines", "_law_size"]) rfl fun _ _ _ _ _ _ us hl => match us, hl with | [_, _, _], _ => rfl
  have D__law_mapped : C8.Def K mg "_law_mapped" s__law_mapped f__law_mapped _ := ⟨⟨⟨_, _, _, _, _, _, _, _, _, _, rfl, l__law_mapped, co__law_mapped⟩⟩, PySem.W.mg_of X G a__law_mapped, k__law_mapped⟩
  have b__law_mapped := D__law_mapped.fn.binds (ps := ["_law_row_here", "_law_matrix_here"]) rfl fun _ _ _ _ _ _ us hl => match us, hl with | [_, _], _ => rfl
  have D__law_mixed : C8.Def K mg "_law_mixed" s__law_mixed f__law_mixed _ := ⟨⟨⟨_, _, _, _, _, _, _, _, _, _, rfl, l__law_mixed, co__law_mixed⟩⟩, PySem.W.mg_of X G a__law_mixed, k__law_mixed⟩
  have b__law_mixed := D__law_mixed.fn.binds (ps := ["_law_row_here", "_law_matrix_here"]) rfl fun _ _ _ _ _ _ us hl => match us, hl with | [_, _], _ => rfl
  have D__law_is_mixed : C8.Def K mg "_law_is_mixed" s__law_is_mixed f__law_is_mixed _ := ⟨⟨⟨_, _, _, _, _, _, _, _, _, _, rfl, l__law_is_mixed, co__law_is_mixed⟩⟩, PySem.W.mg_of X G a__law_is_mixed, k__law_is_mixed⟩
  have b__law_is_mixed := D__law_is_mixed.fn.binds (ps := ["_law_e"]) rfl fun _ _ _ _ _ _ us hl => match us, hl with | [_], _ => rfl
  have D__law_is_wide : C8.Def K mg "_law_is_wide" s__law_is_wide f__law_is_wide _ := ⟨⟨⟨_, _, _, _, _, _, _, _, _, _, rfl, l__law_is_wide, co__law_is_wide⟩⟩, PySem.W.mg_of X G a__law_is_wide, k__law_is_wide⟩
  have b__law_is_wide := D__law_is_wide.fn.binds (ps := ["_law_e", "_law_size"]) rfl fun _ _ _ _ _ _ us hl => match us, hl with | [_, _], _ => rfl
  have D__law_kept : C8.Def K mg "_law_kept" s__law_kept f__law_kept _ := ⟨⟨⟨_, _, _, _, _, _, _, _, _, _, rfl, l__law_kept, co__law_kept⟩⟩, PySem.W.mg_of X G a__law_kept, k__law_kept⟩
  have b__law_kept := D__law_kept.fn.binds (ps := ["_law_actual", "_law_expected", "_law_handed", "_law_rows"]) rfl fun _ _ _ _ _ _ us hl => match us, hl with | [_, _, _, _], _ => rfl
  have D__law_map_asked : C8.Def K mg "_law_map_asked" s__law_map_asked f__law_map_asked _ := ⟨⟨⟨_, _, _, _, _, _, _, _, _, _, rfl, l__law_map_asked, co__law_map_asked⟩⟩, PySem.W.mg_of X G a__law_map_asked, k__law_map_asked⟩
  have b__law_map_asked := D__law_map_asked.fn.binds (ps := ["_law_row_here", "_law_matrix_here"]) rfl fun _ _ _ _ _ _ us hl => match us, hl with | [_, _], _ => rfl
  have D__law_facts_asked : C8.Def K mg "_law_facts_asked" s__law_facts_asked f__law_facts_asked _ := ⟨⟨⟨_, _, _, _, _, _, _, _, _, _, rfl, l__law_facts_asked, co__law_facts_asked⟩⟩, PySem.W.mg_of X G a__law_facts_asked, k__law_facts_asked⟩
  have b__law_facts_asked := D__law_facts_asked.fn.binds (ps := ["_law_first", "_law_second", "_law_matrix_here"]) rfl fun _ _ _ _ _ _ us hl => match us, hl with | [_, _, _], _ => rfl
  have D__law_low : C8.Def K mg "_law_low" s__law_low f__law_low _ := ⟨⟨⟨_, _, _, _, _, _, _, _, _, _, rfl, l__law_low, co__law_low⟩⟩, PySem.W.mg_of X G a__law_low, k__law_low⟩
  have b__law_low := D__law_low.fn.binds (ps := ["_law_at", "_law_step"]) rfl fun _ _ _ _ _ _ us hl => match us, hl with | [_, _], _ => rfl
  have D__law_unpacked : C8.Def K mg "_law_unpacked" s__law_unpacked f__law_unpacked _ := ⟨⟨⟨_, _, _, _, _, _, _, _, _, _, rfl, l__law_unpacked, co__law_unpacked⟩⟩, PySem.W.mg_of X G a__law_unpacked, k__law_unpacked⟩
  have b__law_unpacked := D__law_unpacked.fn.binds (ps := ["_law_row_here", "_law_step", "_law_count"]) rfl fun _ _ _ _ _ _ us hl => match us, hl with | [_, _, _], _ => rfl
  have D__law_fits : C8.Def K mg "_law_fits" s__law_fits f__law_fits _ := ⟨⟨⟨_, _, _, _, _, _, _, _, _, _, rfl, l__law_fits, co__law_fits⟩⟩, PySem.W.mg_of X G a__law_fits, k__law_fits⟩
  have b__law_fits := D__law_fits.fn.binds (ps := ["_law_row_here", "_law_step"]) rfl fun _ _ _ _ _ _ us hl => match us, hl with | [_, _], _ => rfl
  have D__law_unpack_asked : C8.Def K mg "_law_unpack_asked" s__law_unpack_asked f__law_unpack_asked _ := ⟨⟨⟨_, _, _, _, _, _, _, _, _, _, rfl, l__law_unpack_asked, co__law_unpack_asked⟩⟩, PySem.W.mg_of X G a__law_unpack_asked, k__law_unpack_asked⟩
  have b__law_unpack_asked := D__law_unpack_asked.fn.binds (ps := ["_law_row_here", "_law_step", "_law_count"]) rfl fun _ _ _ _ _ _ us hl => match us, hl with | [_, _, _], _ => rfl
  have D__law_pack_asked : C8.Def K mg "_law_pack_asked" s__law_pack_asked f__law_pack_asked _ := ⟨⟨⟨_, _, _, _, _, _, _, _, _, _, rfl, l__law_pack_asked, co__law_pack_asked⟩⟩, PySem.W.mg_of X G a__law_pack_asked, k__law_pack_asked⟩
  have b__law_pack_asked := D__law_pack_asked.fn.binds (ps := ["_law_row_here", "_law_step"]) rfl fun _ _ _ _ _ _ us hl => match us, hl with | [_, _], _ => rfl
  have D_law : C8.Def K mg "law" s_law fa _ := ⟨⟨⟨_, _, _, _, _, _, _, _, _, _, rfl, l_law, co_law⟩⟩, hfa, k_law⟩
  have b_law := D_law.fn.binds (ps := ["_law_script"]) rfl fun _ _ _ _ _ _ us hl => match us, hl with | [_], _ => rfl
  have D_te : C8.Fun K "__init__" "TableError.__init__" s_TableError___init__ f_te _ := ⟨⟨_, _, _, _, _, _, _, _, _, _, rfl, l_te, co_te⟩⟩
  have b_te := D_te.binds (ps := ["self"]) rfl fun _ _ _ _ _ _ us hl => match us, hl with | [_], _ => rfl
  have D_oe : C8.Fun K "__init__" "OneDirectionOnly.__init__" s_OneDirectionOnly___init__ f_oe _ := ⟨⟨_, _, _, _, _, _, _, _, _, _, rfl, l_oe, co_oe⟩⟩
  have b_oe := D_oe.binds (ps := ["self", "dimension"]) rfl fun _ _ _ _ _ _ us hl => match us, hl with | [_, _], _ => rfl
  have oc_M : PySem.W.OtCls K M := ⟨ga_M, gg_M, ex_M, hd_M, ha_M, hn, ht, mr_M⟩
  have er_M : OtErr K M "MixedDimensions" := ⟨⟨⟨_, _, _, _, _, _, _, _, _, _, _, _, _, _, _, xl_M, vb_M⟩, sa_M, ex_M, ty_M, kc_M⟩, oc_M, ⟨⟨_, _, _, _, _, xl_M, rfl⟩, rd_M, ty_M, fn_M⟩, nw_M, ni_M⟩
  have ei_M : ErrI K mg "MixedDimensions" M f_te := ⟨PySem.W.mg_of X G g_M, er_M, in_M, ti_te⟩
  have oc_O : PySem.W.OtCls K O := ⟨ga_O, gg_O, ex_O, hd_O, ha_O, hn, ht, mr_O⟩
  have er_O : OtErr K O "OneDirectionOnly" := ⟨⟨⟨_, _, _, _, _, _, _, _, _, _, _, _, _, _, _, xl_O, vb_O⟩, sa_O, ex_O, ty_O, kc_O⟩, oc_O, ⟨⟨_, _, _, _, _, xl_O, rfl⟩, rd_O, ty_O, fn_O⟩, nw_O, ni_O⟩
  have ei_O : ErrI K mg "OneDirectionOnly" O f_oe := ⟨PySem.W.mg_of X G g_O, er_O, in_O, ti_oe⟩
  refine ⟨PySem.W.fnOf "law" "law" (C8.fnArgs s_law) (C8.fnBody s_law) (C8.fnScope s_law) .none kV_law dc_law pm_law an_law cd_law ct_law, fun s v => .of_eq rfl, fun base _ _ => ?_⟩
  have FD : FunD K "same_dimension" "same_dimension" (C8.fnArgs s_same_dimension) (C8.fnBody s_same_dimension) (C8.fnScope s_same_dimension) [V.ref A0_same_dimension] [] f_same_dimension _ := ⟨⟨_, _, _, _, _, _, _, _, _, _, rfl, l_same_dimension, co_same_dimension, .inr ⟨by simp, TD_same_dimension, _, [.ref A0_same_dimension], _, rfl, lt_same_dimension, rfl, .cons rfl .nil⟩, .inl rfl⟩, k_same_dimension⟩
  obtain ⟨ds1, vd1, bD1⟩ := FD.binds1 (ps := ["rows", "places"]) 1 0 (by simp) rfl fun T kV doc pm an cdv ct us its h1 h2 => match us, its, h1, h2 with | [_], [_], _, _ => ⟨_, rfl, rfl⟩
  obtain ⟨ds2, vd2, bD2⟩ := FD.binds1 (ps := ["rows", "places"]) 2 1 (by simp) rfl fun T kV doc pm an cdv ct us its h1 h2 => match us, its, h1, h2 with | [_, _], [_], _, _ => ⟨_, rfl, rfl⟩
  have e2 : ds2 = [] := by cases vd2; rfl
  subst e2
  have hA0 : ∀ H, SqT K H A0_same_dimension [] := fun H => .inr (⟨_, _, _, lu_same_dimension, rfl, rfl, Nat.zero_le _, .nil⟩)
  have GT : FnOk l.prog w K mg base L2.CX0 1 f_te _ ["self"] (spTE K) := ok_te D_te
  have gB := PySem.W.mg_of X G g_B
  have gZ := PySem.W.mg_of X G g_Z
  have gM := PySem.W.mg_of X G g_M
  have gO := PySem.W.mg_of X G g_O
  have gC := PySem.W.mg_of X G g_C
  have RB : OtRead K B "__init__" f_te := ⟨rB, sB, fB, k_te⟩
  have GI := ok_oe D_oe GT b_te RB gB
  have c1 := c__law_cell (P := l.prog) (w := w) (base := base) D__law_cell b__law_cell T
  have c2 : C8.Cal l.prog w K mg base 1 "_law_draws" (spDraws K) [] := c__law_draws D__law_draws b__law_draws T
  have c3 := c__law_is_integer (P := l.prog) (w := w) (base := base) D__law_is_integer b__law_is_integer T
  have c4 := c__law_is_place D__law_is_place b__law_is_place T c3
  have c5 := c__law_is_row D__law_is_row b__law_is_row T c4 c3
  have c6 := c__law_same D__law_same b__law_same T c5
  have c7 := c__law_back (P := l.prog) (w := w) (base := base) D__law_back b__law_back T
  have c8 := c__law_row (P := l.prog) (w := w) (base := base) D__law_row b__law_row T
  have c9 := c__law_plus (P := l.prog) (w := w) (base := base) D__law_plus b__law_plus T
  have c10 := c__law_places (P := l.prog) (w := w) (base := base) D__law_places b__law_places T
  have c11 := c__law_box (P := l.prog) (w := w) (base := base) D__law_box b__law_box T
  have c12 := c__law_moved D__law_moved b__law_moved T c9
  have c13 := c__law_drawn D__law_drawn b__law_drawn T c10 c2 c8 c12
  have c14 := c__law_add D__law_add b__law_add T c8
  have c17 := c__law_mirror D__law_mirror b__law_mirror T c8 c7
  have c25 := c__law_times D__law_times b__law_times T c9 c8
  have c26 := c__law_cross D__law_cross b__law_cross T c25 c17
  have c27 := c__law_own D__law_own b__law_own T c26
  have c28 := c__law_kept D__law_kept b__law_kept T c6
  have c29 := c__law_low (P := l.prog) (w := w) (base := base) D__law_low b__law_low T
  have c30 := c__law_matrix D__law_matrix b__law_matrix T c2
  have c31 := c__law_mapped D__law_mapped b__law_mapped T c8
  have c32 := c__law_mixed (P := l.prog) (w := w) (base := base) D__law_mixed b__law_mixed T
  have c33 := c__law_unpacked D__law_unpacked b__law_unpacked T c29 c8
  have c34 := c__law_fits (P := l.prog) (w := w) (base := base) D__law_fits b__law_fits T
  have d3 := c_places_length (P := l.prog) (w := w) (base := base) D_places_length b_places_length T
  have d5 := c_row_of (P := l.prog) (w := w) (base := base) D_row_of b_row_of T
  have d6 := c_gather D_gather b_gather T d5
  have d7 := c_image (P := l.prog) (w := w) (base := base) D_image b_image T
  have d8 := c_split_digit (P := l.prog) (w := w) (base := base) D_split_digit b_split_digit T
  have d9 := c_unpacked_place D_unpacked_place b_unpacked_place T d8
  have GS := ok_same_lengths D_same_lengths T ei_M GT b_te
  have GD := ok_same_dimension D_same_dimension T D_same_lengths b_same_lengths GS d3
  have GDT := ok_same_dimensionT D_same_dimension T D_same_lengths b_same_lengths GS d3
  have GOD := ok_one_direction D_one_direction T ei_O nd GI b_oe D_same_dimension bD1 vd1 hA0 GDT d3
  have GMa := ok_map_places D_map_places T D_same_dimension bD2 GD d7 d6
  have GPa := ok_pack D_pack T D_map_places b_map_places GMa d3
  have GUn := ok_unpack D_unpack T D_one_direction b_one_direction GOD d9 d6
  have d10 := quietC D_map_places b_map_places .nil GMa mapQ
  have d11 := quietC D_pack b_pack .nil GPa (sp := spPack) (fun _ _ _ _ h => h)
  have d12 := quietC D_unpack b_unpack .nil GUn unpQ
  have h1 := h__law_is_error (P := l.prog) (w := w) (base := base) D__law_is_error T gB (PySem.W.mg_none_of X G z_ValueError)
  have h2 := h__law_is_mixed D__law_is_mixed T er_M ⟨kBM, kVM⟩ gC gM gO gZ ⟨k1, k2, k3, k4⟩ D__law_is_error b__law_is_error h1
  have h3 := h__law_is_integer (P := l.prog) (w := w) (base := base) D__law_is_integer T
  have h4 := h__law_is_wide D__law_is_wide T er_O nd ⟨kBO, kVO⟩ gM gO gZ ⟨k5, k6, k7⟩ D__law_is_error b__law_is_error h1 D__law_is_integer b__law_is_integer h3
  have c40 := c__law_map_asked D__law_map_asked b__law_map_asked T gB er_M xM D_map_places b_map_places GMa D__law_is_mixed b__law_is_mixed h2 c32 c28 c31
  have c41 := c__law_unpack_asked D__law_unpack_asked b__law_unpack_asked T gB er_O xO D_unpack b_unpack GUn D__law_is_wide b__law_is_wide h4 c28 c33
  have c42 := c__law_pack_asked D__law_pack_asked b__law_pack_asked T c31 c28 d11 c41 c34 c6 d12
  have c43 := c__law_facts_asked D__law_facts_asked b__law_facts_asked T c31 c14 d10 c6 c17 c27
  exact c_law D_law b_law T c1 c2 c11 c13 c30 c40 c42 c41 c43 c25 c31 d10 c6
theorem walk {l : PySem.W.OpenLaw} {q : Program} {loose : List Str} {XP : (Str → Option Value) → Heap → Prop} {YP : World → Heap → Prop} {d : DefRec} {K : Params → PySem.W.Frag} (hn : l.most = some 63) (hdf : d.params.defaults = [])
    (hY : ∀ (w : World) (h : Heap), YP w h → (K w.params).In h)
    (F : ∀ (w : World) (mg : Str → Option Value) (fa : Addr) (h : Heap), (K w.params).In h → h.Ns mainGlobals mg → mg d.name = some (.ref fa) →
      ∃ fd : FuncData, (∀ (s : Shared) (u : Value), BindsTo s fd ⟨[u], []⟩ [("_law_script", u)]) ∧ ∀ base : Heap, (K w.params).In base → base.Ns mainGlobals mg → FnOk l.prog w (K w.params) mg base L2.CX0 9 fa fd ["_law_script"] (spLaw (K w.params))) :
    PySem.W.WalkO q loose XP YP l.row.toRowW d [] (fun f vs => PySem.call f vs) :=
  L2.walk_ofK (n := 63) (k := 9) (x := "_law_script") (CX := L2.CX0) (sp := spLaw) hn (by decide) hdf ⟨rfl, by decide, by decide⟩ hY F (fun _ _ a ns hl _ hS => ⟨a, ns, rfl, hS, hl, fun _ => rfl⟩) fun _ _ _ _ z => z
end OT
open PySem PySem.W PyProof.Rows
set_option maxRecDepth 100000 in
set_option maxHeartbeats 0 in
theorem PySem.Challenge.cw_owntables_k16_whole_maps_holds : PySem.Challenge.rw_owntables_k16_whole_maps.Holds := by
  w_on; o_law; k_head; (case hw => w_witness2)
  k_fill
  refine OT.walk (l := PySem.Challenge.rw_owntables_k16_whole_maps) rfl rfl (fun w h Y => PySem.W.kIn_of Y) ?F
  case F =>
    intro w mg fa h KX G hmg
    refine' OT.all_mk KX G hmg ?z_len ?z_int ?z_str ?z_bool ?z_list ?z_tuple ?z_range ?z_isinstance ?z_sorted ?z_any ?z_sum ?z_zip ?z_ValueError ?a_places_length ?l_places_length ?co_places_length ?k_places_length ?a_same_lengths ?l_same_lengths ?co_same_lengths ?k_same_lengths ?a_same_dimension ?l_same_dimension ?lt_same_dimension ?lu_same_dimension ?co_same_dimension ?k_same_dimension ?a_one_direction ?l_one_direction ?co_one_direction ?k_one_direction ?a_row_of ?l_row_of ?co_row_of ?k_row_of ?a_gather ?l_gather ?co_gather ?k_gather ?a_image ?l_image ?co_image ?k_image ?a_map_places ?l_map_places ?co_map_places ?k_map_places ?a_pack ?l_pack ?co_pack ?k_pack ?a_split_digit ?l_split_digit ?co_split_digit ?k_split_digit ?a_unpacked_place ?l_unpacked_place ?co_unpacked_place ?k_unpacked_place ?a_unpack ?l_unpack ?co_unpack ?k_unpack ?a__law_cell ?l__law_cell ?co__law_cell ?k__law_cell ?a__law_draws ?l__law_draws ?co__law_draws ?k__law_draws ?a__law_is_integer ?l__law_is_integer ?co__law_is_integer ?k__law_is_integer ?a__law_is_place ?l__law_is_place ?co__law_is_place ?k__law_is_place ?a__law_is_row ?l__law_is_row ?co__law_is_row ?k__law_is_row ?a__law_same ?l__law_same ?co__law_same ?k__law_same ?a__law_plus ?l__law_plus ?co__law_plus ?k__law_plus ?a__law_back ?l__law_back ?co__law_back ?k__law_back ?a__law_row ?l__law_row ?co__law_row ?k__law_row ?a__law_add ?l__law_add ?co__law_add ?k__law_add ?a__law_times ?l__law_times ?co__law_times ?k__law_times ?a__law_mirror ?l__law_mirror ?co__law_mirror ?k__law_mirror ?a__law_moved ?l__law_moved ?co__law_moved ?k__law_moved ?a__law_cross ?l__law_cross ?co__law_cross ?k__law_cross ?a__law_own ?l__law_own ?co__law_own ?k__law_own ?a__law_places ?l__law_places ?co__law_places ?k__law_places ?a__law_drawn ?l__law_drawn ?co__law_drawn ?k__law_drawn ?a__law_box ?l__law_box ?co__law_box ?k__law_box ?a__law_is_error ?l__law_is_error ?co__law_is_error ?k__law_is_error ?a__law_matrix ?l__law_matrix ?co__law_matrix ?k__law_matrix ?a__law_mapped ?l__law_mapped ?co__law_mapped ?k__law_mapped ?a__law_mixed ?l__law_mixed ?co__law_mixed ?k__law_mixed ?a__law_is_mixed ?l__law_is_mixed ?co__law_is_mixed ?k__law_is_mixed ?a__law_is_wide ?l__law_is_wide ?co__law_is_wide ?k__law_is_wide ?a__law_kept ?l__law_kept ?co__law_kept ?k__law_kept ?a__law_map_asked ?l__law_map_asked ?co__law_map_asked ?k__law_map_asked ?a__law_facts_asked ?l__law_facts_asked ?co__law_facts_asked ?k__law_facts_asked ?a__law_low ?l__law_low ?co__law_low ?k__law_low ?a__law_unpacked ?l__law_unpacked ?co__law_unpacked ?k__law_unpacked ?a__law_fits ?l__law_fits ?co__law_fits ?k__law_fits ?a__law_unpack_asked ?l__law_unpack_asked ?co__law_unpack_asked ?k__law_unpack_asked ?a__law_pack_asked ?l__law_pack_asked ?co__law_pack_asked ?k__law_pack_asked ?a_law ?l_law ?co_law ?k_law ?a_te ?l_te ?co_te ?k_te ?a_oe ?l_oe ?co_oe ?k_oe ?g_B ?g_M ?g_Z ?g_O ?g_C ?xl_M ?vb_M ?sa_M ?ex_M ?ty_M ?kc_M ?ga_M ?gg_M ?hd_M ?ha_M ?mr_M ?rd_M ?fn_M ?nw_M ?ni_M ?in_M ?xl_O ?vb_O ?sa_O ?ex_O ?ty_O ?kc_O ?ga_O ?gg_O ?hd_O ?ha_O ?mr_O ?rd_O ?fn_O ?nw_O ?ni_O ?in_O ?hn ?ht ?ti_te ?ti_oe ?rB ?sB ?fB ?nd ?xM ?xO ?kBM ?kVM ?kBO ?kVO ?k1 ?k2 ?k3 ?k4 ?k5 ?k6 ?k7
    (case g_B => k_is)
    (case g_M => k_is)
    (case g_Z => k_is)
    (case g_O => k_is)
    (case g_C => k_is)
    (case a_places_length => k_is)
    (case a_same_lengths => k_is)
    (case a_same_dimension => k_is)
    (case a_one_direction => k_is)
    (case a_row_of => k_is)
    (case a_gather => k_is)
    (case a_image => k_is)
    (case a_map_places => k_is)
    (case a_pack => k_is)
    (case a_split_digit => k_is)
    (case a_unpacked_place => k_is)
    (case a_unpack => k_is)
    (case a__law_cell => k_is)
    (case a__law_draws => k_is)
    (case a__law_is_integer => k_is)
    (case a__law_is_place => k_is)
    (case a__law_is_row => k_is)
    (case a__law_same => k_is)
    (case a__law_plus => k_is)
    (case a__law_back => k_is)
    (case a__law_row => k_is)
    (case a__law_add => k_is)
    (case a__law_times => k_is)
    (case a__law_mirror => k_is)
    (case a__law_moved => k_is)
    (case a__law_cross => k_is)
    (case a__law_own => k_is)
    (case a__law_places => k_is)
    (case a__law_drawn => k_is)
    (case a__law_box => k_is)
    (case a__law_is_error => k_is)
    (case a__law_matrix => k_is)
    (case a__law_mapped => k_is)
    (case a__law_mixed => k_is)
    (case a__law_is_mixed => k_is)
    (case a__law_is_wide => k_is)
    (case a__law_kept => k_is)
    (case a__law_map_asked => k_is)
    (case a__law_facts_asked => k_is)
    (case a__law_low => k_is)
    (case a__law_unpacked => k_is)
    (case a__law_fits => k_is)
    (case a__law_unpack_asked => k_is)
    (case a__law_pack_asked => k_is)
    (case a_law => k_is)
    (case a_te => k_is)
    (case a_oe => k_is)
    (case xl_M => k_is)
    (case in_M => k_is)
    (case xl_O => k_is)
    (case in_O => k_is)
    (case z_len => k_is)
    (case z_int => k_is)
    (case z_str => k_is)
    (case z_bool => k_is)
    (case z_list => k_is)
    (case z_tuple => k_is)
    (case z_range => k_is)
    (case z_isinstance => k_is)
    (case z_sorted => k_is)
    (case z_any => k_is)
    (case z_sum => k_is)
    (case z_zip => k_is)
    (case z_ValueError => k_is)
    (case l_places_length => k_is)
    (case co_places_length => k_is)
    (case k_places_length => k_is)
    (case l_same_lengths => k_is)
    (case co_same_lengths => k_is)
    (case k_same_lengths => k_is)
    (case l_same_dimension => k_is)
    (case lt_same_dimension => first | rfl | k_is)
    (case lu_same_dimension => first | rfl | k_is)
    (case co_same_dimension => k_is)
    (case k_same_dimension => k_is)
    (case l_one_direction => k_is)
    (case co_one_direction => k_is)
    (case k_one_direction => k_is)
    (case l_row_of => k_is)
    (case co_row_of => k_is)
    (case k_row_of => k_is)
    (case l_gather => k_is)
    (case co_gather => k_is)
    (case k_gather => k_is)
    (case l_image => k_is)
    (case co_image => k_is)
    (case k_image => k_is)
    (case l_map_places => k_is)
    (case co_map_places => k_is)
    (case k_map_places => k_is)
    (case l_pack => k_is)
    (case co_pack => k_is)
    (case k_pack => k_is)
    (case l_split_digit => k_is)
    (case co_split_digit => k_is)
    (case k_split_digit => k_is)
    (case l_unpacked_place => k_is)
    (case co_unpacked_place => k_is)
    (case k_unpacked_place => k_is)
    (case l_unpack => k_is)
    (case co_unpack => k_is)
    (case k_unpack => k_is)
    (case l__law_cell => k_is)
    (case co__law_cell => k_is)
    (case k__law_cell => k_is)
    (case l__law_draws => k_is)
    (case co__law_draws => k_is)
    (case k__law_draws => k_is)
    (case l__law_is_integer => k_is)
    (case co__law_is_integer => k_is)
    (case k__law_is_integer => k_is)
    (case l__law_is_place => k_is)
    (case co__law_is_place => k_is)
    (case k__law_is_place => k_is)
    (case l__law_is_row => k_is)
    (case co__law_is_row => k_is)
    (case k__law_is_row => k_is)
    (case l__law_same => k_is)
    (case co__law_same => k_is)
    (case k__law_same => k_is)
    (case l__law_plus => k_is)
    (case co__law_plus => k_is)
    (case k__law_plus => k_is)
    (case l__law_back => k_is)
    (case co__law_back => k_is)
    (case k__law_back => k_is)
    (case l__law_row => k_is)
    (case co__law_row => k_is)
    (case k__law_row => k_is)
    (case l__law_add => k_is)
    (case co__law_add => k_is)
    (case k__law_add => k_is)
    (case l__law_times => k_is)
    (case co__law_times => k_is)
    (case k__law_times => k_is)
    (case l__law_mirror => k_is)
    (case co__law_mirror => k_is)
    (case k__law_mirror => k_is)
    (case l__law_moved => k_is)
    (case co__law_moved => k_is)
    (case k__law_moved => k_is)
    (case l__law_cross => k_is)
    (case co__law_cross => k_is)
    (case k__law_cross => k_is)
    (case l__law_own => k_is)
    (case co__law_own => k_is)
    (case k__law_own => k_is)
    (case l__law_places => k_is)
    (case co__law_places => k_is)
    (case k__law_places => k_is)
    (case l__law_drawn => k_is)
    (case co__law_drawn => k_is)
    (case k__law_drawn => k_is)
    (case l__law_box => k_is)
    (case co__law_box => k_is)
    (case k__law_box => k_is)
    (case l__law_is_error => k_is)
    (case co__law_is_error => k_is)
    (case k__law_is_error => k_is)
    (case l__law_matrix => k_is)
    (case co__law_matrix => k_is)
    (case k__law_matrix => k_is)
    (case l__law_mapped => k_is)
    (case co__law_mapped => k_is)
    (case k__law_mapped => k_is)
    (case l__law_mixed => k_is)
    (case co__law_mixed => k_is)
    (case k__law_mixed => k_is)
    (case l__law_is_mixed => k_is)
    (case co__law_is_mixed => k_is)
    (case k__law_is_mixed => k_is)
    (case l__law_is_wide => k_is)
    (case co__law_is_wide => k_is)
    (case k__law_is_wide => k_is)
    (case l__law_kept => k_is)
    (case co__law_kept => k_is)
    (case k__law_kept => k_is)
    (case l__law_map_asked => k_is)
    (case co__law_map_asked => k_is)
    (case k__law_map_asked => k_is)
    (case l__law_facts_asked => k_is)
    (case co__law_facts_asked => k_is)
    (case k__law_facts_asked => k_is)
    (case l__law_low => k_is)
    (case co__law_low => k_is)
    (case k__law_low => k_is)
    (case l__law_unpacked => k_is)
    (case co__law_unpacked => k_is)
    (case k__law_unpacked => k_is)
    (case l__law_fits => k_is)
    (case co__law_fits => k_is)
    (case k__law_fits => k_is)
    (case l__law_unpack_asked => k_is)
    (case co__law_unpack_asked => k_is)
    (case k__law_unpack_asked => k_is)
    (case l__law_pack_asked => k_is)
    (case co__law_pack_asked => k_is)
    (case k__law_pack_asked => k_is)
    (case l_law => k_is)
    (case co_law => k_is)
    (case k_law => k_is)
    (case l_te => k_is)
    (case co_te => k_is)
    (case k_te => k_is)
    (case l_oe => k_is)
    (case co_oe => k_is)
    (case k_oe => k_is)
    (case vb_M => decide +kernel)
    (case sa_M => k_is)
    (case ex_M => k_is)
    (case ty_M => k_is)
    (case kc_M => k_is)
    (case ga_M => k_is)
    (case gg_M => k_is)
    (case hd_M => k_is)
    (case ha_M => k_is)
    (case mr_M => k_is)
    (case rd_M => k_is)
    (case fn_M => k_is)
    (case nw_M => k_is)
    (case ni_M => k_is)
    (case vb_O => decide +kernel)
    (case sa_O => k_is)
    (case ex_O => k_is)
    (case ty_O => k_is)
    (case kc_O => k_is)
    (case ga_O => k_is)
    (case gg_O => k_is)
    (case hd_O => k_is)
    (case ha_O => k_is)
    (case mr_O => k_is)
    (case rd_O => k_is)
    (case fn_O => k_is)
    (case nw_O => k_is)
    (case ni_O => k_is)
    (case hn => k_is)
    (case ht => k_is)
    (case ti_te => k_is)
    (case ti_oe => k_is)
    (case rB => k_is)
    (case sB => k_is)
    (case fB => k_is)
    (case nd => k_is)
    (case xM => first | rfl | k_is)
    (case xO => first | rfl | k_is)
    (case kBM => first | rfl | k_is)
    (case kVM => first | rfl | k_is)
    (case kBO => first | rfl | k_is)
    (case kVO => first | rfl | k_is)
    (case k1 => first | rfl | k_is)
    (case k2 => first | rfl | k_is)
    (case k3 => first | rfl | k_is)
    (case k4 => first | rfl | k_is)
    (case k5 => first | rfl | k_is)
    (case k6 => first | rfl | k_is)
    (case k7 => first | rfl | k_is)

