import PyProof.Rows.All
import Wide.All
import OpenK.AllK
import Wide.FinOn
import KE.KTypeName
import HandS.ForMost
import HandS.ForExc
import HandS.ExcInit
import HandS.ExcIs
import HandS.ExcField
import HandS.IsInst
import HandS.HotCalls
import HandS.Codes
import HandS.StrMore
import HandS.TupAny
import HandS.Walk
import HandS.TupSets
import HandS.DictTup
import HandS.FStr
import KE.KExcIs
import HandS.SortKw
import KE.KSortTupG
import HandS.Conv
import HandS.More
import HandS.Wide
import HandS.Evl
import HandS.CallSlots
import HandS.Zip
import HandS.Star
import KE.DatumOrd
import HandS.SortInts
import HandS.Style
import HandS.SetFor
import HandS.Iter
import HandS.Defaults
import PyProof.EqAt
import PyProof.EqKinds
import PyProof.TupleCall
import PySem.Challenge.RW_owntables_k51_whole_combs
set_option Elab.async false
set_option linter.all false
set_option maxRecDepth 100000
set_option maxHeartbeats 2000000
/-! Own errors of the package: word, index, made and told. -/
namespace PySem.W
open PySem PySem.Calls PyProof.Rows Builtin Builtin.ObjectAttr Builtin.Getset_descriptor
section
variable {prog : Program} {w : World} {A : Around} {E : Value → Shared → Prop} {s : Shared} {K : Frag} {x D : Addr} {ox : Obj}
/-- what a class says of the attribute «class» of its instances -/
structure OtCls (K : Frag) (D : Addr) : Prop where
  hga : findIn K (.ref D) "__getattribute__" = some (some (.builtin "BaseException.__getattribute__"))
  hgt : findIn K (.ref D) "__getattr__" = some none
  hsub : subIn K (.ref D) (.type "BaseException") = some true
  hdct : hasDictIn K D = true
  ha : findIn K (.ref D) "__class__" = some (some (.builtin "object.__class__"))
  hn : specialIn K (.builtin "object.__class__") "__get__" = some (some (.builtin "getset_descriptor.__get__"))
  htk : takesIn K (.builtin "object.__class__") = some true
  hm : mroIn K D (.type "object") = some true
theorem ot_class {expr : Bool} {Q : Value → Shared → Prop} (T : OtCls K D) (X : K.In s.heap) (I : InstAt s.heap x ox D none)
    (h : Q (.ref D) { s with toks := s.toks + 1 }) : wpAny (model prog w) A (getAttr (.ref x) "__class__" expr) Q E s := by
  obtain ⟨hga, hgt, hsub, hdct, ha, hn, htk, hm⟩ := T
  have found : findObj K D none "__class__" = some (.bind (.builtin "getset_descriptor.__get__") (.builtin "object.__class__")) :=
    findObj_dataN (by obtain ⟨cd, q, _⟩ := any_some hdct; rw [q]; rfl) ha hn htk
  obtain ⟨hp, gens, dr, tk, os⟩ := s
  have ty := I.type (M := model prog w)
  have l1 := looks_findIn (M := model prog w) X hga
  have l2 := looks_findIn (M := model prog w) X hgt
  have l3 := looks_find (M := model prog w) X I found
  have isx : Looks (model prog w) hp (isInstance (.ref x) (.type "BaseException")) true := ty.andThen (looks_subIn X hsub)
  have e0 : (Value.builtin "BaseException.__getattribute__" == Value.builtin "object.__getattribute__") = false := by decide +kernel
  unfold getAttr getAttrBy
  apply wpAny_bind; apply wpAny_mkText; apply wpAny_holding
  apply wpAny_bind; apply ty.at
  apply wpAny_bind; apply l1.at
  show wpAny _ _ (if (onTheHeap (Value.ref D) && _) = true then _ else _) _ _ _
  rw [e0, Bool.and_false, if_neg Bool.false_ne_true]
  unfold getAttrByItsOwn hookBefore
  apply wpAny_bind
  rw [if_pos (show onTheHeap (Value.ref D) = true from rfl)]
  apply l2.at
  apply wpAny_bind; apply wpAny_attempt; apply wpAny_holding
  unfold callGetattribute
  rw [(by cases expr <;> rfl : (expr && onTheHeap (Value.builtin "BaseException.__getattribute__")) = false), if_neg Bool.false_ne_true]
  unfold boundAndCalled
  rw [PySem.F.excAttr_ValueError.ga.bind (.ref x)]
  apply wpAny_bind; apply wpAny_pure
  show wpAny _ _ (call (.builtin "BaseException.__getattribute__") [.ref x, .str "__class__" tk]) _ _ _
  apply wpAny_call
  apply codeAny_call_builtin PySem.F.excAttr_ValueError.ga.plain PySem.F.entry_bexc_ga
  apply @check_slot (model prog w) _ _ ⟨hp, gens, dr, tk + 1, os⟩ "BaseException.__getattribute__" "BaseException" "__getattribute__" (.ref x) [.str "__class__" tk] [] _ (by decide +kernel) (by decide +kernel) isx (PySem.F.args_bexc_ga (.ref x) (.str "__class__" tk))
  unfold Builtin.«object.__getattribute__»
  refine wpAny_bind (wpAny_of_eq (a := ((Value.ref x : Value), [Value.str "__class__" tk])) (by first | rfl | (simp only [slotArgs]; rfl)) ?_)
  apply wpAny_bind; apply wpAny_pure
  apply wpAny_bind; apply ty.at
  apply wpAny_bind; apply l3.at
  show wpAny _ _ (holding [Value.builtin "object.__class__"] (call _ [.builtin "object.__class__", .ref x, .ref D]) >>= ret) _ _ _
  apply wpAny_bind; apply wpAny_holding; apply wpAny_call
  refine class_get (s := ⟨hp, gens, dr, tk + 1, os⟩) (ox := ox) (od := none) X I hm ?_
  apply wpAny_pure
  show wpAny _ _ (handedOut (.ref D)) _ _ _
  rw [handedOut_of (v := .ref D) rfl]
  exact wpAny_pure h
/-- the written part's class at C keeps its name nm -/
structure OtName (K : Frag) (C : Addr) (nm : Str) : Prop where
  keeps : ∃ (c : Value) (dd : Option Addr) (dat : Data) (sl : Array (Option Value)) (tk : Tok), K.lookup C = some ⟨c, dd, dat, sl⟩ ∧ sl[2]? = some (some (.str nm tk))
  reads : readsIn K C (.type "type") = true
  ty : typeIn K (.ref C) = some (.type "type")
  found : findCls K (.ref C) (.type "type") "__name__" = some (.get (.builtin "getset_descriptor.__get__") (.builtin "type.__name__") (.ref C) (.type "type"))
theorem ot_dga (d tp : Value) (C : Addr) : descrGetArgs ⟨[d, .ref C, tp], []⟩ = pure (d, some (.ref C), given tp) := by kernel_rfl
theorem ot_name {expr : Bool} {nm : Str} {Q : Value → Shared → Prop} (T : OtName K D nm) (X : K.In s.heap)
    (h : ∀ tk u, Q (.str nm tk) { s with toks := u }) : wpAny (model prog w) A (getAttr (.ref D) "__name__" expr) Q E s := by
  obtain ⟨⟨c, dd, dat, sl, tk, hk, hsl⟩, hr, ty, hf⟩ := T
  refine cls_bind X hr hf ?_
  obtain ⟨hp, gens, dr, tks, os⟩ := s
  have t0 : Looks (model prog w) hp (typeOf (.ref D)) (.type "type") := looks_typeIn X ty
  have t1 : Looks (model prog w) hp (isSubtype (.type "type") (.type "type")) true := Looks.of_pure (by rw [isSubtype_type]; kernel_rfl)
  refine wpAny_call (codeAny_call_builtin KF.slot_gs.plain KF.entry_gs (KF.slot_gs.check _ _ _ _ _ _ _ _ ktyn_type (KF.args_gs _ _ _) ?_))
  unfold Builtin.«getset_descriptor.__get__» descrGet
  rw [ot_dga]
  apply wpAny_bind
  apply wpAny_pure
  unfold descrGetter descrCheckInstance descrNameAndClass isInstance
  simp only [ktyn_owner]
  repeat lk
  refine ⟨Code.quiet_builtin _ (by decide +kernel), codeAny_builtin ktyn_entry ?_⟩
  unfold Builtin.«type.__name__» keptObject slotAt
  dsimp only
  refine wpAny_bind (wpAny_bind (wpAny_loadPart (X _ _ hk) (wpAny_pure ?_)))
  dsimp only
  rw [hsl]
  exact wpAny_pure (handed_on rfl (h _ _))
end
end PySem.W
namespace L2
open PySem PySem.Spec PyProof.Rows
/-! ### an exception's own __init__ -/
section
variable {X : Cx} {pos p1 p2 : Pos} {e : Expr} {es : List Expr} {te : TE} {ta : TA}
/-- e.__class__.__name__, e an exception that is being made, without a field so far -/
def tOtName (K : PySem.W.Frag) (te : TE) : TE := fun σ H Q => te σ H fun x H1 => ∃ (a C : Addr) (nm : Str), x = .ref a ∧ H1 a = some (exo a C none) ∧ PySem.W.OtCls K C ∧ PySem.W.OtName K C nm ∧ Q (.str nm) H1
theorem pe_otname (he : PE X e te) (hb : attributeBase e "__class__" X.env (eval e X.env) = eval e X.env := by rfl)
    (hb2 : attributeBase (.Attribute e "__class__" p1) "__name__" X.env (eval (.Attribute e "__class__" p1) X.env) = eval (.Attribute e "__class__" p1) X.env := by rfl) :
    PE X (.Attribute (.Attribute e "__class__" p1) "__name__" pos) (tOtName X.K te) := by
  refine ⟨fun pins s σ H Q I h => ?_⟩
  refine attr_of hb2 (attr_of hb (thn (he.run pins s σ H _ I h) fun u s1 hh => ?_))
  obtain ⟨x, H1, I1, rx, a, C, nm, ex, ea, tc, tn, q⟩ := hh
  subst ex
  obtain rfl : u = Value.ref a := rx
  obtain ⟨t1, ho⟩ := exo_at I1.hok ea
  have J : PySem.W.InstAt s1.heap a _ C none := ⟨ho, rfl, rfl, True.intro⟩
  refine PySem.W.ot_class tc I1.kIn J ?_
  refine PySem.W.ot_name tn I1.kIn fun tk u => ?_
  exact ⟨.str nm, H1, I1.tok u, ⟨tk, rfl⟩, q⟩
/-- a class of the text, its attributes read by the type's own way -/
structure OtRead (K : PySem.W.Frag) (C : Addr) (m : Str) (f : Addr) : Prop where
  rd : PySem.W.readsIn K C (.type "type") = true
  ga : PySem.W.specialIn K (.ref C) "__getattribute__" = some (some (.builtin "type.__getattribute__"))
  at_ : PySem.W.findCls K (.ref C) (.type "type") m = some (.val (.ref f))
  kp : PySem.W.keepIn K (.ref f) = true
/-- B.m(e, ..), B a class of the text, m a def of it -/
theorem pe_otcall {CX : CXT} {k : Nat} {f C : Addr} {fd : FuncData} {ps : List Str} {sp : Sp} {E : XK} {o : Expr} {to : TE} {m : Str} {pl : Sem Bool} (ho : PE X o to) (R : OtRead X.K C m f) (F : FnOk X.prog X.w X.K X.mg X.base CX k f fd ps sp) (hr : Room k X.A) (hb : Binds X.K fd ps []) (hx : Passes CX X E) (ha : PA X (e :: es) ta)
    (hc : eval (.Call (.Attribute o m p2) (e :: es) [] pos) X.env = (do
      let ov ← eval o X.env
      standAt p2.atName
      let (f, first) ← holding [ov] (getMethod ov m pl)
      callWith pos f first (backTo pos (starEach (e :: es) X.env)) (backToKw pos (keywordEach [] X.env))) := by rfl)
    (he : starEach (e :: es) X.env = (false, eval e X.env) :: starEach es X.env := by rfl) (hpl : (backTo pos (starEach es X.env)).any (·.1) = false := by rfl) :
    PE X (.Call (.Attribute o m p2) (e :: es) [] pos) (fun σ H Q => to σ H fun x H1 => x = .ref C ∧ ta σ H1 fun vs H2 => sp vs H2 Q E) := by
  refine ⟨fun pins s σ H Q I h => ?_⟩
  refine PySem.W.methodCall_KW (thn (ho.run pins s σ H _ I h) fun u s1 hh => ?_) hc
  obtain ⟨x, H1, I1, rx, ex, q⟩ := hh
  subst ex
  obtain rfl : u = Value.ref C := rx
  refine PySem.W.method_cls I1.kIn R.ga (PySem.W.cls_value I1.kIn R.rd R.at_ rfl ?_)
  have I2 := I1.tok (s1.toks + 1)
  show wpAny _ _ (callWith pos (Value.ref f) [] (backTo pos (starEach (e :: es) X.env)) []) _ _ _
  refine PySem.W.callWith_K (h₀ := X.base) I2.ok.mod.kin R.kp (thn (ha.run pos pins _ σ H1 _ I2 q) fun us s2 hh2 => ?_) he hpl
  obtain ⟨vs, H2, I3, r3, q3⟩ := hh2
  exact ⟨I3.kIn, run_fn F hr hb .nil hx I3 r3 (by rw [List.append_nil]; exact q3)⟩
end
end L2

namespace L2
open PySem PySem.Spec PyProof.Rows
/-- all that is asked of an own class of error, its name nm -/
structure OtErr (K : PySem.W.Frag) (C : Addr) (nm : Str) : Prop where
  ox : OexC K C
  oc : PySem.W.OtCls K C
  on : PySem.W.OtName K C nm
  nw : PySem.W.findIn K (.ref C) "word" = some none
  ni : PySem.W.findIn K (.ref C) "index" = some none
section
variable {P : Program} {w : World} {K : PySem.W.Frag} {mg : Str → Option Value} {base : Heap}
/-- TableError.__init__ -/
def spTE (K : PySem.W.Frag) : Sp := fun vs H Q _ => ∃ (a C : Addr) (nm : Str), vs = [.ref a] ∧ H a = some (exo a C none) ∧ OtErr K C nm ∧
  ∀ d, H d = none → d ≠ a → Q .non (upd (upd H d (exd d [("word", .str nm)])) a (exo a C (some d)))
theorem ok_te {q : Str} {st : Stmt} {f : Addr} {fd : FuncData} {p1 p2 p3 p4 p5 p6 : Pos} (F : Fun K "__init__" q st f fd) (S : FnScope ["self"] ["self"] (defScope st))
    (v : Vis (defScope st) "self") (hb : defBody st = [.Assign [.Attribute (.Name "self" p1) "word" p2] (.Attribute (.Attribute (.Name "self" p3) "__class__" p4) "__name__" p5) p6]) :
    FnOk P w K mg base CX0 1 f fd ["self"] (spTE K) := by
  refine F.ok S (fun vs H Q E h => ?_) (fun cdv A outer s H vs Q E hr h => ?_)
  · obtain ⟨a, C, nm, rfl, _⟩ := h
    rfl
  · obtain ⟨a, C, nm, rfl, ha, T, k⟩ := h
    rw [hb]
    refine ⟨_, pss_one (ps_ost (pv 0 rfl v) (pe_otname (pv 0 rfl v))), ?_⟩
    refine ⟨_, rfl, a, C, nm, rfl, ha, T.oc, T.on, _, rfl, a, C, rfl, T.ox, T.nw, Or.inl ⟨ha, fun d nd ne => ?_⟩⟩
    exact k d nd ne
/-- IndexedError.__init__ -/
def spIE (K : PySem.W.Frag) : Sp := fun vs H Q _ => ∃ (a C : Addr) (nm : Str) (v : V), vs = [.ref a, v] ∧ H a = some (exo a C none) ∧ OtErr K C nm ∧
  ∀ d, H d = none → d ≠ a → Q .non (upd (upd (upd H d (exd d [("word", .str nm)])) a (exo a C (some d))) d (exd d [("index", v), ("word", .str nm)]))
end
end L2

/-! ### defs that are handed the error that an except suite holds -/
namespace L2
open PySem PySem.Spec PyProof.Rows
/-- a promise that knows the held error: where it stands, its class, its dict -/
abbrev SpE := Addr → Value → Option Addr → Sp
structure FnE (P : Program) (w : World) (K : PySem.W.Frag) (mg : Str → Option Value) (base : Heap) (k : Nat) (f : Addr) (fd : FuncData) (ps : List Str) (sp : SpE) : Prop where
  len : ∀ a c d vs H Q E, sp a c d vs H Q E → vs.length = ps.length
  run : ∀ (A : Around) (outer : List Env) (s : Shared) (H : Hp) (args : Args) (us : List Value) (vs : List V) (Q : VK) (p : Addr × Obj) (c : Value) (d : Option Addr), L2H.RoomH k A → L2H.PinOk outer H s p → Zc c d p.2 → (∃ fs, p.2.data = .fields fs) →
    Env0 P w K mg base A outer s H → BindsTo s fd args (ps.zip us) → Vals vs us → sp p.1 c d vs H Q E0 → codeAny (model P w) A (.call (.ref f) args) (CR CX0 outer P w H s Q E0) s
theorem fnE_of {P : Program} {w : World} {K : PySem.W.Frag} {mg : Str → Option Value} {base : Heap} {k : Nat} {x : Str} {st : Stmt} {f : Addr} {fd : FuncData} {N ps : List Str} {sp : SpE} (F : C8.Fun K x x st f fd) (S : FnScope N ps (C8.fnScope st))
    (len : ∀ a c d vs H Q E, sp a c d vs H Q E → vs.length = ps.length)
    (body : ∀ (cdv : Value) (A : Around) (outer : List Env) (s : Shared) (H : Hp) (vs : List V) (Q : VK) (p : Addr × Obj) (c : Value) (d : Option Addr), Zc c d p.2 → (∃ fs, p.2.data = .fields fs) → L2H.RoomH k (A.deeper (envOfC x (C8.fnScope st) s.heap.objs.size f cdv)) → sp p.1 c d vs H Q E0 →
      ∃ t, PSs (L2H.cxH CX0 P w K mg base N x (C8.fnScope st) f cdv A outer s H E0 p) (C8.fnBody st) t ∧ t { nx := fun _ H' => Q .non H', rt := Q } (L2.start N vs) H) :
    FnE P w K mg base (k + 1) f fd ps sp := by
  obtain ⟨oc, od, dV, kV, doc, pm, an, cdv, ct, osl, rfl, lk, hcd⟩ := F.ex
  constructor
  · exact len
  intro A outer s H args us vs Q p c d room pin zc fld env binds rel want
  have size := len _ _ _ _ _ _ _ want
  have old : ∀ b o, base.get? b = some o → s.heap.get? b = some o := fun b o z => (env.bs b o z).1
  have inK : K.In s.heap := env.mod.kin.keeps old
  have kinds : ∀ y ∈ ps.zip us, (C8.fnScope st).names.lookup y.1 = some .local ∨
      ((C8.fnScope st).names.lookup y.1 = some .cell ∧ ((cellsFrom (s.heap.objs.size + 1) (C8.fnScope st).names []).lookup y.1).isSome = true) := by
    intro y hy
    have my := (List.of_mem_zip (a := y.1) (b := y.2) hy).1
    exact (S.par y.1 my).imp id fun z => ⟨z, PySem.W.cellsFrom_some _ _ _ (Or.inl z)⟩
  apply codeAny_call_function room.depth (inK _ _ lk) rfl S.co S.gen rfl (PySem.W.codeRec_of inK hcd)
  apply binds
  apply wpAny_newFunctionEnv_cells S.kind kinds
  intro env1 he s1 called
  subst he
  refine ⟨(env.mod.nolimit.keeps old).keeps called.toInCall.keep, codeAny_func ?_⟩
  obtain ⟨t, ht, read⟩ := body cdv A outer s H vs Q p c d zc fld (room.deeper _) want
  have I0 : Inv (L2H.cxH CX0 P w K mg base N x (C8.fnScope st) f cdv A outer s H E0 p) [] (L2.start N vs) H s1 := L2H.inv_startH S pin env size rel called
  refine wpAny_mono (ht.run [] s1 (L2.start N vs) H _ I0 read) (fun fl s2 q => ?_) fun _ _ q => q
  cases fl with
  | ret u =>
    obtain ⟨v, σ2, H2, J, rv, z⟩ := q
    exact ⟨v, H2, J.os, J.bare, J.base, J.hok, rv, z⟩
  | next =>
    obtain ⟨σ2, H2, J, z⟩ := q
    exact ⟨.non, H2, J.os, J.bare, J.base, J.hok, rfl, z⟩
  | brk =>
    obtain ⟨_, _, _, z⟩ := q
    exact z.elim
  | cont =>
    obtain ⟨_, _, _, z⟩ := q
    exact z.elim
section
variable {X : Cx} {p : Addr × Obj} {c : Value} {d : Option Addr} {k : Nat} {f : Addr} {fd : FuncData} {ps : List Str} {sp : SpE} {x : Str} {q pos : Pos} {e : Expr} {es : List Expr} {t : TA} {te : TE}
/-- f(e, ..) where the error is held -/
theorem pe_callE (F : FnE X.prog X.w X.K X.mg X.base k f fd ps sp) (hr : L2H.RoomH k X.A) (hp : p ∈ X.pn) (zc : Zc c d p.2) (fld : ∃ fs, p.2.data = .fields fs) (hg : Gl X x) (hm : X.mg x = some (.ref f)) (hk : PySem.W.keepIn X.K (.ref f) = true) (hb : Binds X.K fd ps [])
    (ha : PA X (e :: es) t) (hdb : (x == ("__debug__" : Str)) = false := by decide) (he : starEach (e :: es) X.env = (false, eval e X.env) :: starEach es X.env := by rfl) (hpl : (backTo pos (starEach es X.env)).any (·.1) = false := by rfl) :
    PE X (.Call (.Name x q) (e :: es) [] pos) (fun σ H Q => t σ H fun vs H1 => sp p.1 c d vs H1 Q E0) := by
  constructor
  intro pins s σ H Q I want
  apply wpAny_Call_Name_kw
  refine ld_glob I hg hm ?_ hdb
  refine PySem.W.callWith_K (h₀ := X.base) I.ok.mod.kin hk (thn (ha.run pos pins s σ H _ I want) ?_) he hpl
  rintro us s1 ⟨vs, H1, J, rel, z⟩
  refine ⟨J.kIn, ?_⟩
  have size : us.length = ps.length := by
    rw [← rel.length]
    exact F.len _ _ _ _ _ _ _ z
  have bind := hb s1 us J.kIn (by rw [List.append_nil]; exact size)
  rw [List.append_nil] at bind
  obtain ⟨p1, p2, p3, p4, p5⟩ := J.pin p (List.mem_append_left _ hp)
  have pin : L2H.PinOk X.stack H1 s1 p := ⟨p1, p2, fun z => (List.mem_cons.mp (J.stkSub p.1 z)).elim p3 p4, p5⟩
  refine wpAny_call (codeAny_mono (F.run X.A X.stack s1 H1 ⟨us, []⟩ us vs Q p c d hr pin zc fld J.env0 bind rel z) ?_)
  intro r s2 got
  cases r with
  | error er => exact got.elim
  | ok fl =>
    cases fl with
    | ret u => exact J.after got
    | next => exact got.elim
    | brk => exact got.elim
    | cont => exact got.elim
/-- the held error is an instance of its class -/
theorem heldAt {pins : List (Addr × Obj)} {σ : L2.St} {H : Hp} {s : Shared} {C dd : Addr} {fs : List (Str × V)} (I : Inv X pins σ H s) (hp : p ∈ X.pn) (zc : Zc (.ref C) (some dd) p.2) (fld : ∃ fs, p.2.data = .fields fs) (hd : H dd = some (.xd fs)) :
    ∃ od, PySem.W.InstAt s.heap p.1 p.2 C (some od) ∧ ∀ n v, fs.lookup n = some v → ∃ u, RelV v u ∧ PySem.W.lookIn n od = some (some u) := by
  obtain ⟨at1, _⟩ := I.pin p (List.mem_append_left _ hp)
  obtain ⟨vs, hdat⟩ := fld
  obtain ⟨mA, hns, hr⟩ := (show ObjOk X.prog X.w H s.heap dd (.xd fs) from I.hok dd _ hd)
  obtain ⟨od, ho, hl⟩ := lookIn_ns hns
  refine ⟨od, ⟨at1, zc.1, by unfold PySem.W.notCls; rw [hdat] <;> rfl, by rw [zc.2]; exact ho⟩, fun n v l => ?_⟩
  obtain ⟨u, hu, ru⟩ := RelO.some_of (v := v) (o := mA n) (by rw [← l]; exact hr n)
  exact ⟨u, ru, by rw [hl, hu]⟩
/-- isinstance(e, T), e the held error -/
theorem call_isX (hp : p ∈ X.pn) (zc : Zc c d p.2) (fld : ∃ fs, p.2.data = .fields fs) : CallR X (.builtin "isinstance") (fun xs H Q => ∃ (C dd : Addr) (fs : List (Str × V)) (y : V) (u : Value) (b : Bool),
    xs = [.ref p.1, y] ∧ c = .ref C ∧ d = some dd ∧ PySem.W.OtCls X.K C ∧ H dd = some (.xd fs) ∧ ClsV y u ∧ PySem.W.kitOne X.K (.ref C) u = some b ∧ Q (.bl b) H) := by
  rintro pins s σ H xs us Q I rel ⟨C, dd, fs, y, u, b, rfl, rfl, rfl, T, hd, hy, hb, z⟩
  obtain ⟨u1, u2, rfl, r1, r2⟩ := vals2 rel
  cases (show u1 = Value.ref p.1 from r1)
  cases hy.eq r2
  obtain ⟨od, J, _⟩ := heldAt I hp zc fld hd
  have isC : (PySem.W.clsIn X.K C).isSome = true := by
    obtain ⟨cd, q, _⟩ := PySem.W.any_some T.hdct
    rw [q]
    rfl
  exact PySem.W.kia_one (PySem.W.kitx_exc isC T.hga T.hgt T.hsub T.ha T.hn T.htk T.hm) I.kIn J hb (fun z => nomatch z) fun tk => ⟨.bl b, H, I.tok tk, rfl, z⟩
/-- e.n, e the held error, n a field of its own -/
theorem pe_fX {n : Str} (hp : p ∈ X.pn) (zc : Zc c d p.2) (fld : ∃ fs, p.2.data = .fields fs) (he : PE X e te) (hb : attributeBase e n X.env (eval e X.env) = eval e X.env := by rfl) :
    PE X (.Attribute e n pos) (fun σ H Q => te σ H fun y H1 => ∃ (C dd : Addr) (fs : List (Str × V)) (v : V), y = .ref p.1 ∧ c = .ref C ∧ d = some dd ∧ PySem.W.OtCls X.K C ∧ PySem.W.findIn X.K (.ref C) n = some none ∧ H1 dd = some (.xd fs) ∧ fs.lookup n = some v ∧ Q v H1) := by
  constructor
  intro pins s σ H Q I want
  refine attr_of hb (thn (he.run pins s σ H _ I want) ?_)
  rintro u s1 ⟨y, H1, J1, ry, C, dd, fs, v, rfl, rfl, rfl, T, hno, hd, hl, z⟩
  obtain rfl : u = Value.ref p.1 := ry
  obtain ⟨od, J, look⟩ := heldAt J1 hp zc fld hd
  obtain ⟨w1, rw1, lw⟩ := look n v hl
  exact HandSPX.exc_get J1.kIn J T.hga T.hgt T.hsub (PySem.W.findObj_own T.hdct hno rfl lw) (handed_of rw1) ⟨v, H1, J1.tok _, rw1, z⟩
end
end L2

namespace OT
open PySem
theorem b_int : bootBuiltins "int" = some (.type "int") := by decide +kernel
theorem b_str : bootBuiltins "str" = some (.type "str") := by decide +kernel
theorem b_bool : bootBuiltins "bool" = some (.type "bool") := by decide +kernel
theorem b_list : bootBuiltins "list" = some (.type "list") := by decide +kernel
theorem b_tuple : bootBuiltins "tuple" = some (.type "tuple") := by decide +kernel
theorem b_len : bootBuiltins "len" = some (.builtin "len") := by decide +kernel
theorem b_isinstance : bootBuiltins "isinstance" = some (.builtin "isinstance") := by decide +kernel
theorem b_any : bootBuiltins "any" = some (.builtin "any") := by decide +kernel
theorem b_all : bootBuiltins "all" = some (.builtin "all") := by decide +kernel
theorem b_sum : bootBuiltins "sum" = some (.builtin "sum") := by decide +kernel
theorem b_min : bootBuiltins "min" = some (.builtin "min") := by decide +kernel
theorem b_max : bootBuiltins "max" = some (.builtin "max") := by decide +kernel
theorem b_sorted : bootBuiltins "sorted" = some (.builtin "sorted") := by decide +kernel
theorem b_abs : bootBuiltins "abs" = some (.builtin "abs") := by decide +kernel
theorem b_ValueError : bootBuiltins "ValueError" = some (.type "ValueError") := by decide +kernel
end OT

set_option Elab.async false
set_option linter.all false
set_option maxRecDepth 100000
set_option maxHeartbeats 2000000
/-! Rows: sorted keys of a dict whose keys are tuples of ints; valid rows. -/
namespace L2
open PySem PySem.Spec PyProof.Rows
section
/-- what a sort leaves: the same values, ascending by their keys -/
theorem sort_left {κ : KeyKind} {vs : List Value} {a : Array Keyed} (perm : a.Perm (pairsOf vs)) (srt : SortedToK κ a (pairsOf vs).size) :
    (a.toList.map (·.2)).Perm vs ∧ (a.toList.map (·.2)).Pairwise fun x y => ∀ k l, κ.keyOf x = some k → κ.keyOf y = some l → κ.kle k l := by
  have pl : a.toList.Perm (vs.zip vs) := by
    rw [← pairsOf_toList]
    exact Array.perm_iff_toList_perm.mp perm
  have diag : ∀ p ∈ a.toList, p.1 = p.2 := fun p hp => (mem_zip_self (pl.mem_iff.mp hp)).1
  constructor
  · have e : (vs.zip vs).map (·.2) = vs := by
      rw [List.map_snd_zip]
      exact Nat.le_refl _
    have q := pl.map (·.2)
    rw [e] at q
    exact q
  · rw [List.pairwise_map, List.pairwise_iff_getElem]
    intro i j hi hj hij k l hk hl
    have hn : a.size = (pairsOf vs).size := perm.size_eq
    rw [Array.length_toList] at hi hj
    have s := srt i j (Nat.le_of_lt hij) (by omega)
    have at_ : ∀ n (h : n < a.size), ∀ m, κ.keyOf a.toList[n].2 = some m → KK κ a n = m := fun n h m hm => by
      unfold KK
      rw [Array.getElem?_eq_getElem h]
      have d := diag a.toList[n] (List.getElem_mem _)
      rw [← d] at hm
      rw [Array.getElem_toList] at hm
      dsimp only
      rw [hm]
      rfl
    rw [at_ i hi k hk, at_ j hj l hl] at s
    exact s
theorem lexLt_inl : ∀ k l : List Int, PyProof.Rows.lexLt itemOrd (k.map Sum.inl) (l.map Sum.inl) = HT.lexLt k l
  | [], [] => rfl
  | [], _ :: _ => rfl
  | _ :: _, [] => rfl
  | x :: r, y :: t => by
    rw [List.map_cons, List.map_cons, PyProof.Rows.lex_cons, lexLt_inl r t, HT.lexLt_cons]
    show (decide (x < y) || (!decide (y < x) && HT.lexLt r t)) = _
    by_cases h : x = y
    · rw [if_pos h, decide_eq_false (by omega), decide_eq_false (by omega)]
      rfl
    · rw [if_neg h]
      by_cases h2 : x < y
      · rw [decide_eq_true h2]
        rfl
      · rw [decide_eq_false h2, decide_eq_true (show y < x by omega)]
        rfl
theorem tupItems_ints : ∀ (ns : List Int) (us : List Value) (i : Nat), Vals (ns.map V.int) us → tupItems (fun _ => false) i us = some (ns.map Sum.inl)
  | [], _, _, .nil => rfl
  | n :: ns, _ :: us, i, .cons r t => by
    obtain ⟨tk, rfl⟩ := (show ∃ tk, _ = Value.int n tk from r)
    show (if (false : Bool) = true then none else (tupItems (fun _ => false) (i + 1) us).map (Sum.inl n :: ·)) = _
    rw [if_neg Bool.false_ne_true, tupItems_ints ns us (i + 1) t]
    rfl
theorem ints_inj : ∀ {k l : List Int}, k.map V.int = l.map V.int → k = l
  | [], [], _ => rfl
  | [], _ :: _, h => by cases h
  | _ :: _, [], h => by cases h
  | x :: r, y :: t, h => by
    rw [List.map_cons, List.map_cons] at h
    obtain ⟨e, h⟩ := List.cons.inj h
    rw [V.int.inj e, ints_inj h]
theorem vals_refs' : ∀ out : List (Addr × List Int), Vals (out.map fun x => V.ref x.1) (out.map fun x => Value.ref x.1)
  | [] => .nil
  | _ :: r => .cons rfl (vals_refs' r)
variable {X : Cx}
/-- sorted(d), the keys of d tuples of ints -/
theorem cr_sortedDT (hcalm : X.calm = true) : CallR X (.builtin "sorted") (fun xs H Q => ∃ (d : Addr) (kvs : List (List Key × V)) (ks : List (List Int)), xs = [.ref d] ∧ Rd H d (.dT kvs) ∧ kvs.map (·.1) = ks.map (fun k => k.map Sum.inl) ∧ (2 ≤ ks.length → ∀ k ∈ ks, k ≠ []) ∧
    ∀ (out : List (Addr × List Int)) (p : Addr), (out.map (·.2)).Perm ks → (out.map (·.2)).Pairwise (fun a b => HT.lexLt b a = false) → ks.Nodup → (∀ x ∈ out, H x.1 = some (.tup (x.2.map V.int))) → H p = none → Q (.ref p) (upd H p (.lst (out.map fun x => V.ref x.1)))) := by
  rintro pins s σ H xs us Q I rel ⟨d, kvs, ks, rfl, hd, hks, hne, want⟩
  obtain ⟨u, rfl, rx⟩ := rel.one
  cases rx
  obtain ⟨z, hs, xs, pr, o, es, ep, ho, hx, hdt, he, hn⟩ := (show ObjOk X.prog X.w H s.heap d (.dT kvs) from hd.ok I.hok)
  have l1 : es.size = xs.length := size_of_entries he
  have l2 : kvs.length = xs.length := Paired.length pr
  -- the keys' addresses
  have keyed : ∀ (kvs : List (List Key × V)) (xs : List (List Key × Addr × Value)) (ks : List (List Int)), Paired (fun (p : List Key × V) (q : List Key × Addr × Value) => p.1 = q.1 ∧ H q.2.1 = some (.tup (p.1.map kV)) ∧ RelV p.2 q.2.2) kvs xs → kvs.map (·.1) = ks.map (fun k => k.map Sum.inl) →
      xs.map (·.1) = ks.map (fun k => k.map Sum.inl) ∧ ∀ x ∈ (xs.map (·.2.1)).zip ks, H x.1 = some (.tup (x.2.map V.int)) := by
    intro kvs
    induction kvs with
    | nil =>
      intro xs ks pr hks
      cases pr
      cases ks with
      | nil => exact ⟨rfl, fun x hx => by cases hx⟩
      | cons k r => cases hks
    | cons a r ih =>
      intro xs ks pr hks
      cases pr with
      | cons h t =>
        rename_i q xs'
        cases ks with
        | nil => cases hks
        | cons k ks' =>
          obtain ⟨e1', e2⟩ := List.cons.inj hks
          have e1 : a.1 = k.map Sum.inl := e1'
          obtain ⟨i1, i2⟩ := ih _ _ t e2
          obtain ⟨h1, h2, _⟩ := h
          refine ⟨?_, fun x hx => ?_⟩
          · rw [List.map_cons, List.map_cons, i1, ← h1, e1]
          · rw [List.map_cons, List.zip_cons_cons] at hx
            rcases List.mem_cons.mp hx with e | hx
            · rw [e]
              show H q.2.1 = _
              rw [h2, e1, List.map_map]
              rfl
            · exact i2 x hx
  obtain ⟨kx, held⟩ := keyed kvs xs ks pr hks
  have lk : xs.length = ks.length := by
    have := congrArg List.length kx
    rwa [List.length_map, List.length_map] at this
  have nod : ks.Nodup := by
    rw [kx] at hn
    exact nodup_of_map hn
  apply Calls.call_function_entry kind_sorted plain_sorted entry_sorted (args_sorted1 (.ref d))
  unfold Builtin.«sorted»
  apply wpAny_bind (m := checkCount "sorted" 1 1 _)
  apply wpAny_pure
  refine wpAny_bind (PySem.W.kdu_collect (A := X.A.in1) (kdl_raw hs hx hdt) (I.ok.hd hcalm) ho (by omega) fun h' tk got hk hacc => ?_)
  have ea : got.toList = (xs.map (·.2.1)).map Value.ref := by
    have hl : got.toList.length = xs.length := by rw [Array.length_toList, hacc.1]; exact l1
    apply List.ext_getElem
    · rw [hl, List.length_map, List.length_map]
    · intro j hj1 hj2
      have g1 : got[j]? = some got.toList[j] := by
        rw [← Array.getElem?_toList]
        exact List.getElem?_eq_getElem hj1
      obtain ⟨en, hen, hv⟩ := hacc.2 j _ g1
      have qe := entry_at he j
      have hjx : j < xs.length := by omega
      rw [hen, List.getElem?_eq_getElem hjx] at qe
      have e2 := Option.some.inj qe
      rw [hv, e2, List.getElem_map, List.getElem_map]
      rfl
  have J1 : Inv X pins σ H { s with heap := h', toks := tk } := I.kept hk
  have gotk : got.toList.length = ks.length := by rw [ea, List.length_map, List.length_map, lk]
  have fits : got.toList.length ≤ sizeLine := by omega
  apply wpAny_bind
  refine wpAny_newList ?_ fits
  have atL : (h'.push (seqObj "list" got.toList.toArray 0)).get? h'.objs.size = some (seqObj "list" got.toList.toArray 0) := Heap.get?_push_size _ rfl
  show wpAny _ _ _ _ _ { s with heap := h'.push (seqObj "list" got.toList.toArray 0), toks := tk }
  -- each key stands in the heap
  have stands : ∀ (a : Addr) (k : List Int), H a = some (.tup (k.map V.int)) → ∃ its : List Value, Vals (k.map V.int) its ∧ IsTup h' a its.toArray := fun a k e => by
    obtain ⟨_, its, rv, it⟩ := (show ObjOk X.prog X.w H h' a (.tup (k.map V.int)) from J1.hok a _ e)
    exact ⟨its, rv, it⟩
  have keyOf : ∀ (a : Addr) (k : List Int), H a = some (.tup (k.map V.int)) → PyProof.Rows.G.tupKeyC (h'.push (seqObj "list" got.toList.toArray 0)) (fun _ => false) (.ref a) = some (k.map Sum.inl) := fun a k e => by
    obtain ⟨its, rv, ob, h1, h2, n, h3⟩ := stands a k e
    have g : (h'.push (seqObj "list" got.toList.toArray 0)).get? a = some ob := Heap.get?_push_of_some _ h1
    have it : PyProof.Rows.G.isTupObj (h'.push (seqObj "list" got.toList.toArray 0)) (.ref a) = true := by
      simp only [PyProof.Rows.G.isTupObj, g, h2]
      rfl
    unfold PyProof.Rows.G.tupKeyC
    rw [if_pos it]
    unfold tupKey
    dsimp only
    rw [g]
    dsimp only
    rw [h3]
    dsimp only
    exact tupItems_ints k its 0 rv
  have zipped : ∀ v ∈ got.toList, ∃ a k, v = Value.ref a ∧ k ∈ ks ∧ H a = some (.tup (k.map V.int)) := fun v hv => by
    obtain ⟨j, hj, e⟩ := List.getElem_of_mem hv
    have hjk : j < ks.length := by omega
    have hjx : j < (xs.map (·.2.1)).length := by rw [List.length_map]; omega
    have ev : v = Value.ref (xs.map (·.2.1))[j] := by
      rw [← e]
      simp only [ea, List.getElem_map]
    refine ⟨_, ks[j], ev, List.getElem_mem _, held ((xs.map (·.2.1))[j], ks[j]) ?_⟩
    rw [List.mem_iff_getElem]
    refine ⟨j, by rw [List.length_zip]; omega, ?_⟩
    rw [List.getElem_zip]
  have keys : KeysOf (PyProof.Rows.G.tupKindC (h'.push (seqObj "list" got.toList.toArray 0)) fun _ => false) (pairsOf got.toList) := PyProof.Rows.G.tupKeys fun v hv => by
    obtain ⟨a, k, rfl, _, hk⟩ := zipped v hv
    exact ⟨_, keyOf a k hk⟩
  have k6 := PyProof.Rows.G.keeps_sort6 (vs := got.toList) atL
  have tups : 2 ≤ got.toList.length → ∃ fs, 0 < fs.length ∧ TupsOf (h'.push (seqObj "list" got.toList.toArray 0)) (fun _ => false) got.toList fs := fun h2 => by
    have each : ∀ l : List Value, (∀ v ∈ l, ∃ a k, v = Value.ref a ∧ k ∈ ks ∧ H a = some (.tup (k.map V.int))) → ∃ fs, fs.length = l.length ∧ TupsOf (h'.push (seqObj "list" got.toList.toArray 0)) (fun _ => false) l fs := by
      intro l
      induction l with
      | nil => exact fun _ => ⟨[], rfl, .nil⟩
      | cons v r ih =>
        intro hv
        obtain ⟨fs, hl, ht⟩ := ih fun y hy => hv y (List.mem_cons_of_mem _ hy)
        obtain ⟨a, k, rfl, hm, hk⟩ := hv v List.mem_cons_self
        obtain ⟨its, rv, ob, h1, h2', n, h3⟩ := stands a k hk
        cases k with
        | nil => exact absurd rfl (hne (by omega) [] hm)
        | cons i k =>
          cases rv with
          | @cons _ u0 _ ur r0 rt =>
            obtain ⟨tk0, rfl⟩ := (show ∃ tk, u0 = Value.int i tk from r0)
            exact ⟨.int i tk0 :: fs, by rw [List.length_cons, List.length_cons, hl], .cons ⟨a, ob, _, n, rfl, Heap.get?_push_of_some _ h1, h2', h3, rfl, fun _ => ⟨i, tk0, rfl⟩, fun z => by cases z⟩ ht⟩
    obtain ⟨fs, hl, ht⟩ := each got.toList zipped
    exact ⟨fs, by omega, ht⟩
  refine wpAny_bind (wpAny_holding (wpAny_call_entry PyProof.Rows.slot_list_sort ⟨_, atL, rfl⟩ PyProof.Rows.entry_list_sort
    (PyProof.Rows.G.list_sort_treeG (κ := PyProof.Rows.G.tupKindC (h'.push (seqObj "list" got.toList.toArray 0)) fun _ => false) (kd := tuples' true) (s := { s with heap := h'.push (seqObj "list" got.toList.toArray 0), toks := tk }) atL keys
      (PyProof.Rows.G.tupC_ltAt true k6) (fun h2 R hq => ?kind) fits fun st' a1 a2 a3 => ⟨_, rfl, ?ret⟩) (PyProof.Rows.args_list_sort _)))
  case kind =>
    obtain ⟨fs, hl, ht⟩ := tups h2
    exact tup_kind hl (PyProof.Rows.G.TupsOf.keep k6 ht) hq
  case ret =>
    obtain ⟨o1, o2⟩ := sort_left a1 a2
    have out : ∃ out : List (Addr × List Int), (arrOf st').toList.map (·.2) = out.map (fun x => Value.ref x.1) ∧ ∀ x ∈ out, H x.1 = some (.tup (x.2.map V.int)) := by
      have each : ∀ l : List Value, (∀ v ∈ l, v ∈ got.toList) → ∃ out : List (Addr × List Int), l = out.map (fun x => Value.ref x.1) ∧ ∀ x ∈ out, H x.1 = some (.tup (x.2.map V.int)) := by
        intro l
        induction l with
        | nil => exact fun _ => ⟨[], rfl, fun x hx => by cases hx⟩
        | cons v r ih =>
          intro hv
          obtain ⟨out, e, ho'⟩ := ih fun y hy => hv y (List.mem_cons_of_mem _ hy)
          obtain ⟨a, k, rfl, _, hk⟩ := zipped v (hv v List.mem_cons_self)
          refine ⟨(a, k) :: out, by rw [List.map_cons, e], fun x hx => ?_⟩
          rcases List.mem_cons.mp hx with e' | hx
          · rw [e']
            exact hk
          · exact ho' x hx
      exact each _ fun v hv => o1.mem_iff.mp hv
    obtain ⟨out, eo, ho'⟩ := out
    obtain ⟨ep', he'⟩ := PyProof.Rows.sortedHeap_at (vs := got.toList) (out := (arrOf st').map (·.2)) atL
    have oz : out.length ≤ sizeLine := by
      have e1 := congrArg List.length eo
      have e2 := o1.length_eq
      rw [List.length_map] at e1 e2
      rw [List.length_map] at e1
      omega
    have inj : ∀ (a : Addr) (k l : List Int), H a = some (.tup (k.map V.int)) → H a = some (.tup (l.map V.int)) → k = l := fun a k l h1 h2 => by
      rw [h1] at h2
      exact ints_inj (HO.tup.inj (Option.some.inj h2))
    refine wpAny_pure ⟨_, rfl, .ref h'.objs.size, upd H h'.objs.size (.lst (out.map fun x => V.ref x.1)), J1.laid (t' := tk) (fun b u q => ?old) (Nat.le_refl _) ⟨by rw [List.length_map]; exact oz, ((arrOf st').map (·.2)).toList, ep', ?vals, he'⟩, rfl, want out _ ?perm ?pw nod ho' (J1.hok.fresh (Nat.le_refl _))⟩
    case old =>
      rw [PyProof.Rows.sortedHeap_old (Nat.ne_of_lt (Heap.lt_size q)) (Nat.lt_of_lt_of_le (Heap.lt_size q) (by rw [size_push']; exact Nat.le_succ _))]
      exact Heap.get?_push_of_some _ q
    case vals =>
      rw [Array.toList_map, eo]
      exact vals_refs' out
    case perm =>
      have p1 : (out.map (fun x => Value.ref x.1)).Perm got.toList := by rw [← eo]; exact o1
      have rd : ∀ v : Value, ∃ k : List Int, ∀ (a : Addr) (l : List Int), v = .ref a → H a = some (.tup (l.map V.int)) → k = l := fun v => by
        by_cases h : ∃ (a : Addr) (l : List Int), v = .ref a ∧ H a = some (.tup (l.map V.int))
        · obtain ⟨a, l, e, h⟩ := h
          refine ⟨l, fun a' l' e' h' => ?_⟩
          cases e.symm.trans e'
          exact inj _ _ _ h h'
        · exact ⟨[], fun a l e h' => absurd ⟨a, l, e, h'⟩ h⟩
      have p2 := p1.map fun v => (rd v).choose
      rw [List.map_map] at p2
      have e1 : out.map (((fun v => (rd v).choose)) ∘ fun x => Value.ref x.1) = out.map (·.2) := List.map_congr_left fun x hx => (rd (.ref x.1)).choose_spec _ _ rfl (ho' x hx)
      have e2 : got.toList.map (fun v => (rd v).choose) = ks := by
        apply List.ext_getElem
        · rw [List.length_map]; exact gotk
        · intro j h1 h2
          have h3 : j < (xs.map (·.2.1)).length := by rw [List.length_map]; omega
          rw [List.getElem_map]
          have ev : got.toList[j]'(by omega) = Value.ref (xs.map (·.2.1))[j] := by simp only [ea, List.getElem_map]
          refine (rd _).choose_spec _ _ ev (held ((xs.map (·.2.1))[j], ks[j]) ?_)
          rw [List.mem_iff_getElem]
          refine ⟨j, by rw [List.length_zip]; omega, ?_⟩
          rw [List.getElem_zip]
      rw [e1, e2] at p2
      exact p2
    case pw =>
      rw [eo, List.pairwise_map] at o2
      rw [List.pairwise_map]
      refine List.Pairwise.imp_of_mem (fun {x y} hx hy h => ?_) o2
      have hle := h _ _ (keyOf x.1 x.2 (ho' x hx)) (keyOf y.1 y.2 (ho' y hy))
      rw [← lexLt_inl]
      exact hle
end
end L2

set_option Elab.async false
set_option linter.all false
set_option maxRecDepth 100000
set_option maxHeartbeats 2000000
/-! rows: what a list of entries sums to, and the one row of the sums -/
namespace OT
open PySem PySem.Spec PyProof.Rows L2
abbrev Pl := List Int
abbrev Ent := List Int × Int
def numAt : List Ent → Pl → Int
  | [], _ => 0
  | e :: r, q => (if e.1 = q then e.2 else 0) + numAt r q
theorem numAt_app : ∀ (a b : List Ent) (q : Pl), numAt (a ++ b) q = numAt a q + numAt b q
  | [], b, q => by
    show numAt b q = 0 + numAt b q
    omega
  | e :: r, b, q => by
    show (if e.1 = q then e.2 else 0) + numAt (r ++ b) q = (if e.1 = q then e.2 else 0) + numAt r q + numAt b q
    rw [numAt_app r b q]
    omega
theorem numAt_out {es : List Ent} {q : Pl} (h : ∀ e ∈ es, e.1 ≠ q) : numAt es q = 0 := by
  induction es with
  | nil => rfl
  | cons e r ih =>
    show (if e.1 = q then e.2 else 0) + numAt r q = 0
    rw [if_neg (h e List.mem_cons_self), ih fun x hx => h x (List.mem_cons_of_mem _ hx)]
    rfl
theorem lt_irr (k : Pl) : HT.lexLt k k = false := by
  rw [← lexLt_inl]
  exact PyProof.Rows.lex_irrefl _
theorem lt_trans {a b c : Pl} (h1 : HT.lexLt a b = true) (h2 : HT.lexLt b c = true) : HT.lexLt a c = true := by
  rw [← lexLt_inl] at *
  exact PyProof.Rows.lex_trans _ _ _ h1 h2
theorem inl_inj {β : Type} : ∀ {a b : Pl}, a.map (Sum.inl : Int → Int ⊕ β) = b.map Sum.inl → a = b
  | [], [], _ => rfl
  | [], _ :: _, h => by cases h
  | _ :: _, [], h => by cases h
  | x :: r, y :: t, h => by
    rw [List.map_cons, List.map_cons] at h
    obtain ⟨e, h⟩ := List.cons.inj h
    rw [Sum.inl.inj e, inl_inj h]
theorem lt_tot {a b : Pl} (h1 : HT.lexLt a b = false) (h2 : HT.lexLt b a = false) : a = b := by
  rw [← lexLt_inl] at *
  exact inl_inj (PyProof.Rows.lex_total _ _ h1 h2)
theorem lt_ne {a b : Pl} (h : HT.lexLt a b = true) : a ≠ b := by
  rintro rfl
  rw [lt_irr] at h
  cases h
structure Valid (r : List Ent) : Prop where
  asc : r.Pairwise fun a b => HT.lexLt a.1 b.1 = true
  nz : ∀ e ∈ r, e.2 ≠ 0
theorem Valid.tail {e : Ent} {r : List Ent} (h : Valid (e :: r)) : Valid r := ⟨(List.pairwise_cons.mp h.asc).2, fun x hx => h.nz x (List.mem_cons_of_mem _ hx)⟩
theorem Valid.head_out {e : Ent} {r : List Ent} (h : Valid (e :: r)) {q : Pl} (hq : q = e.1 ∨ HT.lexLt q e.1 = true) : numAt r q = 0 := by
  refine numAt_out fun x hx z => ?_
  have h1 := (List.pairwise_cons.mp h.asc).1 x hx
  rcases hq with rfl | hq
  · exact lt_ne h1 z.symm
  · exact lt_ne (lt_trans hq h1) z.symm
theorem Valid.head_at {e : Ent} {r : List Ent} (h : Valid (e :: r)) : numAt (e :: r) e.1 = e.2 := by
  show (if e.1 = e.1 then e.2 else 0) + numAt r e.1 = e.2
  rw [if_pos rfl, h.head_out (.inl rfl)]
  omega
theorem Valid.low {e : Ent} {r : List Ent} (h : Valid (e :: r)) {q : Pl} (hq : HT.lexLt q e.1 = true) : numAt (e :: r) q = 0 := by
  show (if e.1 = q then e.2 else 0) + numAt r q = 0
  rw [if_neg (fun z => lt_ne hq z.symm), h.head_out (.inr hq)]
  rfl
theorem Valid.ext : ∀ {r t : List Ent}, Valid r → Valid t → (∀ q, numAt r q = numAt t q) → r = t
  | [], [], _, _, _ => rfl
  | [], e :: t, _, ht, h => by
    have h1 := h e.1
    rw [ht.head_at] at h1
    exact absurd h1.symm (ht.nz e List.mem_cons_self)
  | e :: r, [], hr, _, h => by
    have h1 := h e.1
    rw [hr.head_at] at h1
    exact absurd h1 (hr.nz e List.mem_cons_self)
  | e :: r, f :: t, hr, ht, h => by
    have k : e.1 = f.1 := by
      refine lt_tot ?_ ?_
      · cases z : HT.lexLt e.1 f.1 with
        | false => rfl
        | true =>
          have h1 := h e.1
          rw [hr.head_at, ht.low z] at h1
          exact absurd h1 (hr.nz e List.mem_cons_self)
      · cases z : HT.lexLt f.1 e.1 with
        | false => rfl
        | true =>
          have h1 := h f.1
          rw [ht.head_at, hr.low z] at h1
          exact absurd h1.symm (ht.nz f List.mem_cons_self)
    have n : e.2 = f.2 := by
      have h1 := h e.1
      rw [hr.head_at, k, ht.head_at] at h1
      exact h1
    have ef : e = f := Prod.ext k n
    subst ef
    refine congrArg _ (Valid.ext hr.tail ht.tail fun q => ?_)
    have h1 := h q
    have h2 : (if e.1 = q then e.2 else 0) + numAt r q = (if e.1 = q then e.2 else 0) + numAt t q := h1
    omega
/-- the row of the sums -/
structure RowIs (r es : List Ent) : Prop where
  v : Valid r
  s : ∀ q, numAt r q = numAt es q
theorem RowIs.one {r t es : List Ent} (h1 : RowIs r es) (h2 : RowIs t es) : r = t := h1.v.ext h2.v fun q => (h1.s q).trans (h2.s q).symm
theorem Valid.at : ∀ {r : List Ent}, Valid r → ∀ e ∈ r, numAt r e.1 = e.2
  | f :: t, h, e, he => by
    rcases List.mem_cons.mp he with rfl | he
    · exact h.head_at
    · show (if f.1 = e.1 then f.2 else 0) + numAt t e.1 = e.2
      rw [if_neg (lt_ne ((List.pairwise_cons.mp h.asc).1 e he)), Valid.at h.tail e he]
      omega
theorem RowIs.mem {r es : List Ent} (h : RowIs r es) {e : Ent} (he : e ∈ r) : ∃ x ∈ es, x.1 = e.1 := by
  have h1 := h.v.at e he
  rw [h.s] at h1
  by_cases z : ∃ x ∈ es, x.1 = e.1
  · exact z
  · rw [numAt_out fun x hx y => z ⟨x, hx, y⟩] at h1
    exact absurd h1.symm (h.v.nz e he)
theorem Valid.len : ∀ {r : List Ent} {l : List Pl}, Valid r → (∀ e ∈ r, e.1 ∈ l) → r.length ≤ l.length
  | [], _, _, _ => Nat.zero_le _
  | e :: t, l, h, k => by
    have h1 := k e List.mem_cons_self
    have ih := Valid.len (l := l.erase e.1) h.tail fun x hx => (List.mem_erase_of_ne (lt_ne ((List.pairwise_cons.mp h.asc).1 x hx)).symm).mpr (k x (List.mem_cons_of_mem _ hx))
    rw [List.length_erase_of_mem h1] at ih
    have h2 := List.length_pos_of_mem h1
    rw [List.length_cons]
    omega
theorem RowIs.len {r es : List Ent} (h : RowIs r es) : r.length ≤ es.length := by
  have := h.v.len (l := es.map (·.1)) fun e he => by
    obtain ⟨x, hx, ex⟩ := h.mem he
    rw [← ex]
    exact List.mem_map_of_mem hx
  rwa [List.length_map] at this
/-- the entries of the keys in turn -/
def mkR (f : Pl → Int) : List Pl → List Ent
  | [] => []
  | k :: r => if f k = 0 then mkR f r else (k, f k) :: mkR f r
theorem mkR_snoc (f : Pl → Int) (k : Pl) : ∀ ks : List Pl, mkR f (ks ++ [k]) = mkR f ks ++ (if f k = 0 then [] else [(k, f k)])
  | [] => by
    show (if f k = 0 then [] else [(k, f k)]) = [] ++ _
    rw [List.nil_append]
  | x :: r => by
    show (if f x = 0 then mkR f (r ++ [k]) else (x, f x) :: mkR f (r ++ [k])) = (if f x = 0 then mkR f r else (x, f x) :: mkR f r) ++ _
    rw [mkR_snoc f k r]
    by_cases h : f x = 0
    · rw [if_pos h, if_pos h]
    · rw [if_neg h, if_neg h]
      rfl
theorem mkR_mem {f : Pl → Int} {e : Ent} : ∀ {ks : List Pl}, e ∈ mkR f ks → e.1 ∈ ks ∧ e.2 = f e.1 ∧ e.2 ≠ 0
  | k :: r, h => by
    have h' : e ∈ (if f k = 0 then mkR f r else (k, f k) :: mkR f r) := h
    by_cases z : f k = 0
    · rw [if_pos z] at h'
      obtain ⟨h1, h2⟩ := mkR_mem h'
      exact ⟨List.mem_cons_of_mem _ h1, h2⟩
    · rw [if_neg z] at h'
      rcases List.mem_cons.mp h' with rfl | h'
      · exact ⟨List.mem_cons_self, rfl, z⟩
      · obtain ⟨h1, h2⟩ := mkR_mem h'
        exact ⟨List.mem_cons_of_mem _ h1, h2⟩
theorem mkR_valid {f : Pl → Int} : ∀ {ks : List Pl}, ks.Pairwise (fun a b => HT.lexLt a b = true) → Valid (mkR f ks)
  | [], _ => ⟨.nil, fun e h => by cases h⟩
  | k :: r, h => by
    obtain ⟨h1, h2⟩ := List.pairwise_cons.mp h
    have ih := mkR_valid (f := f) h2
    show Valid (if f k = 0 then mkR f r else (k, f k) :: mkR f r)
    by_cases z : f k = 0
    · rw [if_pos z]
      exact ih
    · rw [if_neg z]
      refine ⟨List.pairwise_cons.mpr ⟨fun e he => h1 _ (mkR_mem he).1, ih.asc⟩, fun e he => ?_⟩
      rcases List.mem_cons.mp he with rfl | he
      · exact z
      · exact ih.nz e he
theorem mkR_sum {f : Pl → Int} : ∀ {ks : List Pl}, ks.Nodup → ∀ q, numAt (mkR f ks) q = if q ∈ ks then f q else 0
  | [], _, q => rfl
  | k :: r, h, q => by
    obtain ⟨h1, h2⟩ := List.nodup_cons.mp h
    have ih := mkR_sum (f := f) h2 q
    show numAt (if f k = 0 then mkR f r else (k, f k) :: mkR f r) q = _
    have key : numAt (if f k = 0 then mkR f r else (k, f k) :: mkR f r) q = (if k = q then f k else 0) + numAt (mkR f r) q := by
      by_cases z : f k = 0
      · rw [if_pos z, z, ite_self]
        omega
      · rw [if_neg z]
        rfl
    rw [key, ih]
    by_cases e : k = q
    · subst e
      rw [if_pos rfl, if_neg h1, if_pos List.mem_cons_self]
      omega
    · rw [if_neg e]
      by_cases m : q ∈ r
      · rw [if_pos m, if_pos (List.mem_cons_of_mem _ m)]
        omega
      · rw [if_neg m, if_neg]
        · rfl
        · intro hq
          rcases List.mem_cons.mp hq with rfl | hq
          · exact e rfl
          · exact m hq
/-- a dict of sums: its keys are ks, at k it holds f k -/
structure Sums (kvs : List (List Key × V)) (ks : List Pl) (f : Pl → Int) : Prop where
  keys : kvs.map (·.1) = ks.map fun k => k.map Sum.inl
  val : ∀ k : Pl, valV kvs (k.map Sum.inl) = if k ∈ ks then some (V.int (f k)) else none
  out : ∀ k, k ∉ ks → f k = 0
theorem Sums.nil : Sums [] [] (fun _ => 0) := ⟨rfl, fun k => rfl, fun _ _ => rfl⟩
theorem Sums.len {kvs : List (List Key × V)} {ks : List Pl} {f : Pl → Int} (h : Sums kvs ks f) : kvs.length = ks.length := by
  have := congrArg List.length h.keys
  rwa [List.length_map, List.length_map] at this
theorem putK_keys {κ : Type} [DecidableEq κ] {kvs : List (κ × V)} {k : κ} {v : V} (h : (valV kvs k).isSome = true) : (putK kvs k v).map (·.1) = kvs.map (·.1) := by
  unfold putK
  rw [valV_any, if_pos h, List.map_map]
  refine List.map_congr_left fun x _ => ?_
  show (if x.1 = k then (x.1, v) else x).1 = x.1
  by_cases e : x.1 = k
  · rw [if_pos e]
  · rw [if_neg e]
theorem Sums.put {kvs : List (List Key × V)} {ks : List Pl} {f : Pl → Int} (h : Sums kvs ks f) (k : Pl) (n : Int) :
    Sums (putK kvs (k.map Sum.inl) (.int (f k + n))) (if k ∈ ks then ks else ks ++ [k]) (fun q => f q + if k = q then n else 0) := by
  have hv := h.val k
  refine ⟨?_, fun q => ?_, fun q hq => ?_⟩
  · by_cases m : k ∈ ks
    · rw [if_pos m] at hv ⊢
      rw [putK_keys (by rw [hv]; rfl), h.keys]
    · rw [if_neg m] at hv ⊢
      rw [putK_new _ hv, List.map_append, List.map_append, h.keys]
      rfl
  · rw [valV_put, h.val]
    by_cases e : q = k
    · subst e
      rw [if_pos rfl, if_pos rfl, if_pos]
      by_cases m : q ∈ ks
      · rw [if_pos m]
        exact m
      · rw [if_neg m]
        exact List.mem_append_right _ List.mem_cons_self
    · have ne1 : ¬ (q.map (Sum.inl : Int → Key) = k.map Sum.inl) := fun z => e (inl_inj z)
      have ne2 : ¬ (k = q) := fun z => e z.symm
      rw [if_neg ne1, if_neg ne2]
      have mm : (q ∈ if k ∈ ks then ks else ks ++ [k]) ↔ q ∈ ks := by
        by_cases m : k ∈ ks
        · rw [if_pos m]
        · rw [if_neg m, List.mem_append, List.mem_singleton]
          exact ⟨fun z => z.elim id fun z => absurd z e, .inl⟩
      by_cases m : q ∈ ks
      · rw [if_pos m, if_pos (mm.mpr m), Int.add_zero]
      · rw [if_neg m, if_neg (fun z => m (mm.mp z))]
  · have hq2 : q ∉ ks ∧ k ≠ q := by
      by_cases m : k ∈ ks
      · rw [if_pos m] at hq
        exact ⟨hq, fun z => hq (z ▸ m)⟩
      · rw [if_neg m] at hq
        exact ⟨fun z => hq (List.mem_append_left _ z), fun z => hq (List.mem_append_right _ (z ▸ List.mem_cons_self))⟩
    show f q + (if k = q then n else 0) = 0
    rw [if_neg hq2.2, h.out q hq2.1]
    rfl
theorem Sums.next {kvs : List (List Key × V)} {ks : List Pl} {es : List Ent} {i : Nat} {e : Ent} (hi : es[i]? = some e) (h : Sums kvs ks (numAt (es.take i))) :
    Sums (putK kvs (e.1.map Sum.inl) (.int (numAt (es.take i) e.1 + e.2))) (if e.1 ∈ ks then ks else ks ++ [e.1]) (numAt (es.take (i + 1))) := by
  have he : es.take (i + 1) = es.take i ++ [e] := by
    obtain ⟨h1, h2⟩ := List.getElem?_eq_some_iff.mp hi
    rw [List.take_add_one, hi]
    rfl
  have hf : numAt (es.take (i + 1)) = fun q => numAt (es.take i) q + if e.1 = q then e.2 else 0 := by
    funext q
    rw [he, numAt_app]
    show _ + ((if e.1 = q then e.2 else 0) + 0) = _
    omega
  rw [hf]
  exact h.put e.1 e.2
theorem Sums.get {kvs : List (List Key × V)} {ks : List Pl} {f : Pl → Int} (h : Sums kvs ks f) {k : Pl} (m : k ∈ ks) : valV kvs (k.map Sum.inl) = some (.int (f k)) := by
  rw [h.val, if_pos m]
theorem Sums.getD {kvs : List (List Key × V)} {ks : List Pl} {f : Pl → Int} (h : Sums kvs ks f) (k : Pl) : (valV kvs (k.map Sum.inl)).getD (.int 0) = .int (f k) := by
  rw [h.val]
  by_cases m : k ∈ ks
  · rw [if_pos m]
    rfl
  · rw [if_neg m, h.out k m]
    rfl
/-- sorted keys' entries are the row -/
theorem row_sorted {es : List Ent} {ks out : List Pl} (perm : out.Perm ks) (pw : out.Pairwise fun a b => HT.lexLt b a = false) (nod : ks.Nodup) (all : ∀ q, q ∉ ks → numAt es q = 0) : RowIs (mkR (numAt es) out) es := by
  have no : out.Nodup := perm.nodup_iff.mpr nod
  have asc : out.Pairwise fun a b => HT.lexLt a b = true := by
    have both := List.pairwise_and_iff.mpr ⟨pw, no⟩
    refine both.imp fun {a b} h => ?_
    cases z : HT.lexLt a b with
    | true => rfl
    | false => exact absurd (lt_tot z h.1) h.2
  refine ⟨mkR_valid asc, fun q => ?_⟩
  rw [mkR_sum no]
  by_cases m : q ∈ out
  · rw [if_pos m]
  · rw [if_neg m, all q fun z => m (perm.mem_iff.mpr z)]
/-! ### rows in the heap -/
def EntAt (H : Hp) (v : V) (e : Ent) : Prop := ∃ t p, v = .ref t ∧ H t = some (.tup [.ref p, .int e.2]) ∧ H p = some (.tup (e.1.map V.int))
inductive Ents (H : Hp) : List V → List Ent → Prop
  | nil : Ents H [] []
  | cons {v : V} {e : Ent} {vs : List V} {es : List Ent} : EntAt H v e → Ents H vs es → Ents H (v :: vs) (e :: es)
theorem Ents.len {H : Hp} {vs : List V} {es : List Ent} (h : Ents H vs es) : vs.length = es.length := by
  induction h with
  | nil => rfl
  | cons _ _ ih => rw [List.length_cons, List.length_cons, ih]
theorem EntAt.mono {H H' : Hp} {v : V} {e : Ent} (s : ∀ b o, H b = some o → H' b = some o) (h : EntAt H v e) : EntAt H' v e := by
  obtain ⟨t, p, rfl, h1, h2⟩ := h
  exact ⟨t, p, rfl, s _ _ h1, s _ _ h2⟩
theorem Ents.mono {H H' : Hp} {vs : List V} {es : List Ent} (s : ∀ b o, H b = some o → H' b = some o) (h : Ents H vs es) : Ents H' vs es := by
  induction h with
  | nil => exact .nil
  | cons h1 _ ih => exact .cons (h1.mono s) ih
theorem Ents.app {H : Hp} {vs ws : List V} {es fs : List Ent} (h : Ents H vs es) (g : Ents H ws fs) : Ents H (vs ++ ws) (es ++ fs) := by
  induction h with
  | nil => exact g
  | cons h1 _ ih => exact .cons h1 ih
theorem Ents.get {H : Hp} {vs : List V} {es : List Ent} (h : Ents H vs es) : ∀ {i : Nat} {v : V}, vs[i]? = some v → ∃ e, es[i]? = some e ∧ EntAt H v e := by
  induction h with
  | nil => intro i v h; simp at h
  | cons h1 _ ih =>
    intro i v hv
    cases i with
    | zero =>
      cases hv
      exact ⟨_, rfl, h1⟩
    | succ i => exact ih (i := i) hv
theorem Ents.at {H : Hp} {vs : List V} {es : List Ent} (h : Ents H vs es) {i : Nat} (hi : i < es.length) : ∃ v, vs[i]? = some v ∧ EntAt H v es[i] := by
  have h2 : i < vs.length := by rw [h.len]; exact hi
  obtain ⟨e, h3, h4⟩ := h.get (List.getElem?_eq_getElem h2)
  rw [List.getElem?_eq_getElem hi] at h3
  cases h3
  exact ⟨_, List.getElem?_eq_getElem h2, h4⟩
theorem Ents.set {H : Hp} {vs : List V} {es : List Ent} {v : V} {e : Ent} (h : Ents H vs es) (h1 : EntAt H v e) : ∀ i, Ents H (vs.set i v) (es.set i e) := by
  induction h with
  | nil => intro i; exact .nil
  | cons a b ih =>
    intro i
    cases i with
    | zero => exact .cons h1 b
    | succ i => exact .cons a (ih i)
/-- as data -/
def dPl (k : Pl) : PyData := .tuple (k.map .int)
def dEnt (e : Ent) : PyData := .tuple [dPl e.1, .int e.2]
def dRow (es : List Ent) : PyData := .list (es.map dEnt)
theorem dp_ints {K : PySem.W.Frag} {H : Hp} : ∀ k : Pl, DpAll K H (k.map V.int) (k.map PyData.int)
  | [] => .nil
  | n :: r => .cons (.int n) (dp_ints r)
theorem EntAt.dp {K : PySem.W.Frag} {H : Hp} {v : V} {e : Ent} (h : EntAt H v e) : Dp K H v (dEnt e) := by
  obtain ⟨t, p, rfl, h1, h2⟩ := h
  exact .tup (.inl (.inl h1)) (.cons (.tup (.inl (.inl h2)) (dp_ints _)) (.cons (.int _) .nil))
theorem Ents.dpAll {K : PySem.W.Frag} {H : Hp} {vs : List V} {es : List Ent} (h : Ents H vs es) : DpAll K H vs (es.map dEnt) := by
  induction h with
  | nil => exact .nil
  | cons h1 _ ih => exact .cons h1.dp ih
theorem Ents.dp {K : PySem.W.Frag} {H : Hp} {a : Addr} {vs : List V} {es : List Ent} (ha : SqL K H a vs) (h : Ents H vs es) : Dp K H (.ref a) (dRow es) := .lst ha h.dpAll
theorem lay_ints : ∀ k : Pl, PyData.canLayAll0 (k.map PyData.int) = true
  | [] => rfl
  | n :: r => by
    show (PyData.canLay0 (.int n) && PyData.canLayAll0 (r.map PyData.int)) = true
    rw [lay_ints r]
    rfl
theorem lay_row : ∀ es : List Ent, PyData.canLayAll0 (es.map dEnt) = true
  | [] => rfl
  | e :: r => by
    show (PyData.canLay0 (dEnt e) && PyData.canLayAll0 (r.map dEnt)) = true
    rw [lay_row r]
    show ((PyData.canLayAll0 (e.1.map PyData.int) && (PyData.canLay0 (.int e.2) && true)) && true) = true
    rw [lay_ints]
    rfl
end OT

set_option Elab.async false
set_option linter.all false
set_option maxRecDepth 100000
set_option maxHeartbeats 4000000
/-! raise C(), an own class whose __init__ takes no argument but the error itself -/
namespace L2
open PySem PySem.Spec PyProof.Rows PySem.W PySem.Calls PySem.HandSPX
section
variable {X : Cx} {p pos : Pos} {pins : List (Addr × Obj)} {σ : St} {H : Hp} {st : Shared}
/-- the heap with the bare error and its empty arguments behind the old objects -/
def bareHeap (C : Addr) (h : Heap) : Heap := (h.push (kdv_tup [])).push (excO C h.objs.size)
theorem bare_grows {C : Addr} {h : Heap} (b : Addr) (o : Obj) (e : h.get? b = some o) : (bareHeap C h).get? b = some o := Heap.get?_push_of_some _ (Heap.get?_push_of_some _ e)
theorem bare_there {C : Addr} {h : Heap} : (bareHeap C h).get? (h.objs.size + 1) = some (excO C h.objs.size) := by
  show ((h.push (kdv_tup [])).push (excO C h.objs.size)).get? (h.objs.size + 1) = _
  heap_get
theorem bare_inv {C : Addr} (I : Inv X pins σ H st) : H (st.heap.objs.size + 1) = none ∧ Inv X pins σ (upd H (st.heap.objs.size + 1) (exo (st.heap.objs.size + 1) C none)) ⟨bareHeap C st.heap, st.gens, st.drawn, st.toks, st.os⟩ :=
  ⟨I.hok.fresh (Nat.le_succ _), I.laid (t' := st.toks) (a := st.heap.objs.size + 1) (h' := bareHeap C st.heap) (o := exo (st.heap.objs.size + 1) C none) bare_grows (Nat.le_succ _) (exo_ok bare_there)⟩
theorem pmk_oex0 {CX : CXT} {x : Str} {C fI : Addr} {k : Nat} {fd : FuncData} {ps : List Str} {sp : Sp} (T : OexC X.K C) (iC : findIn X.K (.ref C) "__init__" = some (some (.ref fI))) (tI : typeIn X.K (.ref fI) = some (.type "function"))
    (G : FnOk X.prog X.w X.K X.mg X.base CX k fI fd ps sp) (hr : Room (k + 1) X.A) (bi : Binds X.K fd ps []) (no : Passes CX X fun _ _ _ => False) (hg : Gl X x) (hm : X.mg x = some (.ref C)) (nd : (x == ("__debug__" : Str)) = false := by decide) :
    PMk X (.Call (.Name x p) [] [] pos) (tMkO C sp [] tNil) := by
  intro pins σ0 σ H Q I want
  rcases σ0 with ⟨h, gs, dw, ts, os⟩
  obtain ⟨_, _, _, _, bm, _, _, _, _, _, _, _, _, _, _, stands, vb⟩ := T.cls
  obtain ⟨_, ask⟩ := want
  obtain ⟨free, J⟩ := bare_inv (C := C) I
  have promise := ask (h.objs.size + 1) free
  have one : ([Value.ref (h.objs.size + 1)] : List Value).length = ps.length := (G.len _ _ _ _ promise).symm ▸ rfl
  have body := G.run (X.A.under (.builtin "type.__call__" ⟨[.ref C], []⟩)) X.stack _ _ ⟨[.ref (h.objs.size + 1)], []⟩ [.ref (h.objs.size + 1)] _ _ (fun _ _ _ => False) (hr.make C [] []) (J.env0.make C [] []) (bi _ [.ref (h.objs.size + 1)] J.kIn one) (show Vals [V.ref (h.objs.size + 1)] [Value.ref (h.objs.size + 1)] from .cons rfl .nil) promise
  refine wpAny_Call_Name_kw (ld_glob I hg hm (callWith_K0 I.kIn T.kC ?_) nd)
  refine wpAny_call (call_own (rest := []) F.excBase_ValueError (fun Y => refsVE_contains Y bm vb) (I.kIn _ _ stands) (looks_findIn I.kIn iC) (fun me => bind_fn I.kIn me tI) (Nat.zero_le _) (codeAny_mono body ?_))
  rintro (er | fl) s2 end_
  · exact no pins σ _ _ er s2 J end_
  · cases fl with
    | ret u =>
      rcases s2 with ⟨h2, gs2, dw2, ts2, os2⟩
      obtain ⟨_, H2, same, bare, un, ok2, rel, rfl, d, fs, at_a, at_d, new, q⟩ := end_
      exact ⟨rel, mk_end (raises_own T.exC T.tyC) I (Nat.le_succ _) bare_grows un ok2 same bare at_a at_d new q⟩
    | next => cases end_
    | brk => cases end_
    | cont => cases end_
end
end L2

set_option Elab.async false
set_option linter.all false
set_option maxRecDepth 100000
set_option maxHeartbeats 2000000
/-! sums over entries with weights: they depend on the sums at the places alone -/
namespace OT
open PySem PySem.Spec PyProof.Rows L2
def sumW (w : Pl → Int) : List Ent → Int
  | [] => 0
  | e :: r => e.2 * w e.1 + sumW w r
theorem sumW_app (w : Pl → Int) : ∀ a b : List Ent, sumW w (a ++ b) = sumW w a + sumW w b
  | [], b => by show sumW w b = 0 + sumW w b; omega
  | e :: r, b => by
    show e.2 * w e.1 + sumW w (r ++ b) = e.2 * w e.1 + sumW w r + sumW w b
    rw [sumW_app w r b]
    omega
/-- 1 at the place -/
def at1 (q : Pl) : Pl → Int := fun k => if k = q then 1 else 0
theorem numAt_sumW (q : Pl) : ∀ es : List Ent, numAt es q = sumW (at1 q) es
  | [] => rfl
  | e :: r => by
    show (if e.1 = q then e.2 else 0) + numAt r q = e.2 * (if e.1 = q then 1 else 0) + sumW (at1 q) r
    rw [numAt_sumW q r]
    by_cases h : e.1 = q
    · rw [if_pos h, if_pos h, Int.mul_one]
    · rw [if_neg h, if_neg h, Int.mul_zero]
def negs (es : List Ent) : List Ent := es.map fun e => (e.1, -e.2)
theorem numAt_negs (q : Pl) : ∀ es : List Ent, numAt (negs es) q = - numAt es q
  | [] => rfl
  | e :: r => by
    have ih := numAt_negs q r
    show (if e.1 = q then -e.2 else 0) + numAt (negs r) q = -((if e.1 = q then e.2 else 0) + numAt r q)
    rw [ih]
    by_cases h : e.1 = q
    · rw [if_pos h, if_pos h]; omega
    · rw [if_neg h, if_neg h]; omega
theorem sumW_negs (w : Pl → Int) : ∀ es : List Ent, sumW w (negs es) = - sumW w es
  | [] => rfl
  | e :: r => by
    have ih := sumW_negs w r
    show -e.2 * w e.1 + sumW w (negs r) = -(e.2 * w e.1 + sumW w r)
    rw [ih, Int.neg_mul]
    omega
def off (k : Pl) (es : List Ent) : List Ent := es.filter fun e => decide (e.1 ≠ k)
theorem sumW_off (w : Pl → Int) (k : Pl) : ∀ es : List Ent, sumW w es = numAt es k * w k + sumW w (off k es)
  | [] => by show (0 : Int) = 0 * w k + 0; rw [Int.zero_mul]; rfl
  | e :: r => by
    have ih := sumW_off w k r
    show e.2 * w e.1 + sumW w r = ((if e.1 = k then e.2 else 0) + numAt r k) * w k + sumW w (off k (e :: r))
    unfold off at ih ⊢
    rw [List.filter_cons]
    by_cases h : e.1 = k
    · rw [if_pos h, if_neg (by simp [h]), ih, Int.add_mul, h]
      omega
    · rw [if_neg h, if_pos (decide_eq_true h), ih]
      show e.2 * w e.1 + _ = (0 + numAt r k) * w k + (e.2 * w e.1 + _)
      rw [Int.zero_add]
      omega
theorem numAt_off (k q : Pl) (es : List Ent) : numAt (off k es) q = if q = k then 0 else numAt es q := by
  by_cases h : q = k
  · subst h
    rw [if_pos rfl]
    refine numAt_out fun e he => ?_
    exact of_decide_eq_true (List.mem_filter.mp he).2
  · rw [if_neg h]
    have h1 := sumW_off (at1 q) k es
    rw [← numAt_sumW, ← numAt_sumW] at h1
    have : at1 q k = 0 := if_neg fun z => h z.symm
    rw [this, Int.mul_zero] at h1
    omega
theorem off_len {k : Pl} : ∀ {es : List Ent}, (∃ e ∈ es, e.1 = k) → (off k es).length < es.length := by
  intro es ⟨e, he, hk⟩
  unfold off
  refine List.length_filter_lt_length_iff_exists.mpr ⟨e, he, ?_⟩
  simp [hk]
theorem sumW_zero (w : Pl → Int) : ∀ (n : Nat) (es : List Ent), es.length ≤ n → (∀ q, numAt es q = 0) → sumW w es = 0
  | _, [], _, _ => rfl
  | 0, e :: r, h, _ => by simp at h
  | n + 1, e :: r, h, z => by
    rw [sumW_off w e.1, z e.1, Int.zero_mul, Int.zero_add]
    refine sumW_zero w n _ ?_ fun q => ?_
    · have := off_len (k := e.1) (es := e :: r) ⟨e, List.mem_cons_self, rfl⟩
      omega
    · rw [numAt_off]
      by_cases hq : q = e.1
      · rw [if_pos hq]
      · rw [if_neg hq]
        exact z q
/-- the key: sums with weights depend on the sums at the places alone -/
theorem sumW_eq (w : Pl → Int) {a b : List Ent} (h : ∀ q, numAt a q = numAt b q) : sumW w a = sumW w b := by
  have z := sumW_zero w _ (a ++ negs b) (Nat.le_refl _) fun q => by
    rw [numAt_app, numAt_negs, h q]
    omega
  rw [sumW_app, sumW_negs] at z
  omega
theorem RowIs.sum {r es : List Ent} (h : RowIs r es) (w : Pl → Int) : sumW w r = sumW w es := sumW_eq w h.s
/-- places moved by a function -/
def mapF (f : Pl → Pl) (es : List Ent) : List Ent := es.map fun e => (f e.1, e.2)
theorem sumW_mapF (w : Pl → Int) (f : Pl → Pl) : ∀ es : List Ent, sumW w (mapF f es) = sumW (fun k => w (f k)) es
  | [] => rfl
  | e :: r => by
    have ih := sumW_mapF w f r
    show e.2 * w (f e.1) + sumW w (mapF f r) = e.2 * w (f e.1) + sumW (fun k => w (f k)) r
    rw [ih]
theorem sumW_congr {w v : Pl → Int} : ∀ {es : List Ent}, (∀ e ∈ es, w e.1 = v e.1) → sumW w es = sumW v es
  | [], _ => rfl
  | e :: r, h => by
    show e.2 * w e.1 + sumW w r = e.2 * v e.1 + sumW v r
    rw [h e List.mem_cons_self, sumW_congr fun x hx => h x (List.mem_cons_of_mem _ hx)]
theorem numAt_mapF_eq (f : Pl → Pl) {a b : List Ent} (h : ∀ q, numAt a q = numAt b q) (q : Pl) : numAt (mapF f a) q = numAt (mapF f b) q := by
  rw [numAt_sumW, numAt_sumW, sumW_mapF, sumW_mapF]
  exact sumW_eq _ h
/-- the row of what is moved from a row -/
theorem RowIs.mapped {r es g : List Ent} {f : Pl → Pl} (h : RowIs r es) (hg : RowIs g (mapF f r)) : RowIs g (mapF f es) := ⟨hg.v, fun q => (hg.s q).trans (numAt_mapF_eq f h.s q)⟩
theorem RowIs.congr {r a b : List Ent} (h : RowIs r a) (e : ∀ q, numAt a q = numAt b q) : RowIs r b := ⟨h.v, fun q => (h.s q).trans (e q)⟩
theorem RowIs.app {r s a b c : List Ent} (h : RowIs r a) (k : RowIs s b) (g : RowIs c (r ++ s)) : RowIs c (a ++ b) := ⟨g.v, fun q => by
  rw [g.s, numAt_app, numAt_app, h.s, k.s]⟩
/-- products by pairs, with any sum of places -/
def prodL (op : Pl → Pl → Pl) (es fs : List Ent) : List Ent := es.flatMap fun e => fs.map fun g => (op e.1 g.1, e.2 * g.2)
theorem sumW_row (w : Pl → Int) (op : Pl → Pl → Pl) (e : Ent) : ∀ fs : List Ent, sumW w (fs.map fun g => (op e.1 g.1, e.2 * g.2)) = e.2 * sumW (fun l => w (op e.1 l)) fs
  | [] => by show (0 : Int) = e.2 * 0; rw [Int.mul_zero]
  | g :: r => by
    have ih := sumW_row w op e r
    show e.2 * g.2 * w (op e.1 g.1) + sumW w (r.map _) = e.2 * (g.2 * w (op e.1 g.1) + sumW _ r)
    rw [ih, Int.mul_add, Int.mul_assoc]
theorem sumW_prodL (w : Pl → Int) (op : Pl → Pl → Pl) : ∀ es fs : List Ent, sumW w (prodL op es fs) = sumW (fun k => sumW (fun l => w (op k l)) fs) es
  | [], fs => rfl
  | e :: r, fs => by
    have ih := sumW_prodL w op r fs
    show sumW w ((fs.map fun g => (op e.1 g.1, e.2 * g.2)) ++ prodL op r fs) = e.2 * sumW (fun l => w (op e.1 l)) fs + _
    rw [sumW_app, sumW_row, ih]
theorem numAt_prodL_eq (op : Pl → Pl → Pl) {a b c d : List Ent} (h : ∀ q, numAt a q = numAt b q) (k : ∀ q, numAt c q = numAt d q) (q : Pl) : numAt (prodL op a c) q = numAt (prodL op b d) q := by
  rw [numAt_sumW, numAt_sumW, sumW_prodL, sumW_prodL, sumW_eq _ h]
  refine sumW_congr fun e _ => sumW_eq _ k
end OT

set_option Elab.async false
set_option linter.all false
set_option maxRecDepth 100000
set_option maxHeartbeats 2000000
namespace OT
open PySem PySem.Spec PyProof.Rows L2
def topS (i : Nat) : Stmt := PySem.Challenge.pw_owntables_k51_whole_combs.main.body.getD i (.Pass ⟨0, 0, 0, 0⟩)
abbrev s_TableError___init__ : Stmt := inClass (topS 1) 0
theorem sc_TableError___init__ : FnScope ["self"] ["self"] (C8.fnScope s_TableError___init__) := C8.fnScope_by (by decide +kernel)
abbrev s_IndexedError___init__ : Stmt := inClass (topS 2) 0
theorem sc_IndexedError___init__ : FnScope ["self", "index"] ["self", "index"] (C8.fnScope s_IndexedError___init__) := C8.fnScope_by (by decide +kernel)
abbrev s_OneDirectionOnly___init__ : Stmt := inClass (topS 4) 0
theorem sc_OneDirectionOnly___init__ : FnScope ["self", "dimension"] ["self", "dimension"] (C8.fnScope s_OneDirectionOnly___init__) := C8.fnScope_by (by decide +kernel)
abbrev s_places_length : Stmt := topS 8
theorem sc_places_length : FnScope ["row"] ["row"] (C8.fnScope s_places_length) := C8.fnScope_by (by decide +kernel)
abbrev s_same_lengths : Stmt := topS 9
theorem sc_same_lengths : FnScope ["lengths", "known", "length"] ["lengths"] (C8.fnScope s_same_lengths) := C8.fnScope_by (by decide +kernel)
abbrev s_same_dimension : Stmt := topS 10
theorem sc_same_dimension : FnScope ["rows", "places", "row", "place"] ["rows", "places"] (C8.fnScope s_same_dimension) := C8.fnScope_by (by decide +kernel)
abbrev s_one_direction : Stmt := topS 11
theorem sc_one_direction : FnScope ["rows", "row"] ["rows"] (C8.fnScope s_one_direction) := C8.fnScope_by (by decide +kernel)
abbrev s_bounds : Stmt := topS 13
theorem sc_bounds : FnScope ["row", "places", "column", "place", "number"] ["row"] (C8.fnScope s_bounds) := C8.fnScope_by (by decide +kernel)
abbrev s_product_sizes : Stmt := topS 16
theorem sc_product_sizes : FnScope ["first", "second", "low", "high", "other_low", "other_high"] ["first", "second"] (C8.fnScope s_product_sizes) := C8.fnScope_by (by decide +kernel)
abbrev s_longest : Stmt := topS 17
theorem sc_longest : FnScope ["row", "place", "number"] ["row"] (C8.fnScope s_longest) := C8.fnScope_by (by decide +kernel)
abbrev s_digit_bits : Stmt := topS 18
theorem sc_digit_bits : FnScope ["first", "second", "many"] ["first", "second"] (C8.fnScope s_digit_bits) := C8.fnScope_by (by decide +kernel)
abbrev s_is_crowded : Stmt := topS 19
theorem sc_is_crowded : FnScope ["first", "second", "many", "length", "size"] ["first", "second"] (C8.fnScope s_is_crowded) := C8.fnScope_by (by decide +kernel)
abbrev s_digit_at : Stmt := topS 20
theorem sc_digit_at : FnScope ["place", "lows", "sizes", "index", "x", "low", "size"] ["place", "lows", "sizes"] (C8.fnScope s_digit_at) := C8.fnScope_by (by decide +kernel)
abbrev s_place_at : Stmt := topS 21
theorem sc_place_at : FnScope ["index", "lows", "sizes", "coordinates", "low", "size"] ["index", "lows", "sizes"] (C8.fnScope s_place_at) := C8.fnScope_by (by decide +kernel)
abbrev s_joined_digits : Stmt := topS 22
theorem sc_joined_digits : FnScope ["digits", "bits", "padded", "low", "high"] ["digits", "bits"] (C8.fnScope s_joined_digits) := C8.fnScope_by (by decide +kernel)
abbrev s_low_digit : Stmt := topS 23
theorem sc_low_digit : FnScope ["number", "bits", "half"] ["number", "bits"] (C8.fnScope s_low_digit) := C8.fnScope_by (by decide +kernel)
abbrev s_split_digits : Stmt := topS 24
theorem sc_split_digits : FnScope ["number", "bits", "many", "digits", "width", "lows", "digit", "part", "low"] ["number", "bits", "many"] (C8.fnScope s_split_digits) := C8.fnScope_by (by decide +kernel)
abbrev s_great_integer : Stmt := topS 25
theorem sc_great_integer : FnScope ["row", "sizes", "bits", "lows", "digits", "place", "number", "low", "high"] ["row", "sizes", "bits"] (C8.fnScope s_great_integer) := C8.fnScope_by (by decide +kernel)
abbrev s_crowded_product : Stmt := topS 26
theorem sc_crowded_product : FnScope ["first", "second", "sizes", "bits", "lows", "number", "many", "digits", "index", "digit", "low", "high", "other", "top", "size"] ["first", "second"] (C8.fnScope s_crowded_product) := C8.fnScope_by (by decide +kernel)
abbrev s_row_of : Stmt := topS 28
theorem sc_row_of : FnScope ["numbers", "place"] ["numbers"] (C8.fnScope s_row_of) := C8.fnScope_by (by decide +kernel)
abbrev s_reach : Stmt := topS 29
theorem sc_reach : FnScope ["row", "x", "place", "number"] ["row"] (C8.fnScope s_reach) := C8.fnScope_by (by decide +kernel)
abbrev s_key_base : Stmt := topS 30
theorem sc_key_base : FnScope ["first", "second"] ["first", "second"] (C8.fnScope s_key_base) := C8.fnScope_by (by decide +kernel)
abbrev s_key_of : Stmt := topS 31
theorem sc_key_of : FnScope ["place", "base", "key", "x"] ["place", "base"] (C8.fnScope s_key_of) := C8.fnScope_by (by decide +kernel)
abbrev s_place_of : Stmt := topS 32
theorem sc_place_of : FnScope ["key", "base", "length", "half", "coordinates", "step", "x"] ["key", "base", "length"] (C8.fnScope s_place_of) := C8.fnScope_by (by decide +kernel)
abbrev s_keyed : Stmt := topS 33
theorem sc_keyed : FnScope ["row", "base", "place", "number"] ["row", "base"] (C8.fnScope s_keyed) := C8.fnScope_by (by decide +kernel)
abbrev s_unkeyed : Stmt := topS 34
theorem sc_unkeyed : FnScope ["numbers", "base", "length", "key"] ["numbers", "base", "length"] (C8.fnScope s_unkeyed) := C8.fnScope_by (by decide +kernel)
abbrev s_multiply : Stmt := topS 35
theorem sc_multiply : FnScope ["first", "second", "base", "right", "sums", "key", "number", "other", "times"] ["first", "second"] (C8.fnScope s_multiply) := C8.fnScope_by (by decide +kernel)
abbrev s_mirror : Stmt := topS 36
theorem sc_mirror : FnScope ["row", "place", "number", "x"] ["row"] (C8.fnScope s_mirror) := C8.fnScope_by (by decide +kernel)
abbrev s_comb : Stmt := topS 38
theorem sc_comb : FnScope ["row", "count", "rows", "place", "number", "index"] ["row", "count"] (C8.fnScope s_comb) := C8.fnScope_by (by decide +kernel)
abbrev s_uncomb : Stmt := topS 39
theorem sc_uncomb : FnScope ["rows", "count", "numbers", "index", "row", "place", "number"] ["rows"] (C8.fnScope s_uncomb) := C8.fnScope_by (by decide +kernel)
abbrev s_cross_table : Stmt := topS 41
theorem sc_cross_table : FnScope ["first", "second"] ["first", "second"] (C8.fnScope s_cross_table) := C8.fnScope_by (by decide +kernel)
abbrev s_own_table : Stmt := topS 42
theorem sc_own_table : FnScope ["row"] ["row"] (C8.fnScope s_own_table) := C8.fnScope_by (by decide +kernel)
abbrev s_list_tables : Stmt := topS 44
theorem sc_list_tables : FnScope ["rows", "first", "second"] ["rows"] (C8.fnScope s_list_tables) := C8.fnScope_by (by decide +kernel)
abbrev s__law_cell : Stmt := topS 46
theorem sc__law_cell : FnScope ["_law_script", "_law_k"] ["_law_script", "_law_k"] (C8.fnScope s__law_cell) := C8.fnScope_by (by decide +kernel)
abbrev s__law_draws : Stmt := topS 47
theorem sc__law_draws : FnScope ["_law_cell_here", "_law_sizes", "_law_draws_here", "_law_rest", "_law_k", "_law_mixed"] ["_law_cell_here", "_law_sizes"] (C8.fnScope s__law_draws) := C8.fnScope_by (by decide +kernel)
abbrev s__law_is_integer : Stmt := topS 48
theorem sc__law_is_integer : FnScope ["_law_actual"] ["_law_actual"] (C8.fnScope s__law_is_integer) := C8.fnScope_by (by decide +kernel)
abbrev s__law_is_place : Stmt := topS 49
theorem sc__law_is_place : FnScope ["_law_actual", "_law_x"] ["_law_actual"] (C8.fnScope s__law_is_place) := C8.fnScope_by (by decide +kernel)
abbrev s__law_is_row : Stmt := topS 50
theorem sc__law_is_row : FnScope ["_law_actual", "_law_k", "_law_entry"] ["_law_actual"] (C8.fnScope s__law_is_row) := C8.fnScope_by (by decide +kernel)
abbrev s__law_same : Stmt := topS 51
theorem sc__law_same : FnScope ["_law_actual", "_law_expected"] ["_law_actual", "_law_expected"] (C8.fnScope s__law_same) := C8.fnScope_by (by decide +kernel)
abbrev s__law_is_error : Stmt := topS 52
theorem sc__law_is_error : FnScope ["_law_e", "_law_word"] ["_law_e", "_law_word"] (C8.fnScope s__law_is_error) := C8.fnScope_by (by decide +kernel)
abbrev s__law_plus : Stmt := topS 53
theorem sc__law_plus : FnScope ["_law_place", "_law_other", "_law_k"] ["_law_place", "_law_other"] (C8.fnScope s__law_plus) := C8.fnScope_by (by decide +kernel)
abbrev s__law_back : Stmt := topS 54
theorem sc__law_back : FnScope ["_law_place", "_law_x"] ["_law_place"] (C8.fnScope s__law_back) := C8.fnScope_by (by decide +kernel)
abbrev s__law_row : Stmt := topS 55
theorem sc__law_row : FnScope ["_law_pairs", "_law_sums", "_law_place", "_law_number"] ["_law_pairs"] (C8.fnScope s__law_row) := C8.fnScope_by (by decide +kernel)
abbrev s__law_scaled : Stmt := topS 56
theorem sc__law_scaled : FnScope ["_law_row_here", "_law_factor", "_law_entry"] ["_law_row_here", "_law_factor"] (C8.fnScope s__law_scaled) := C8.fnScope_by (by decide +kernel)
abbrev s__law_times : Stmt := topS 57
theorem sc__law_times : FnScope ["_law_first", "_law_second", "_law_pairs", "_law_place", "_law_number", "_law_other", "_law_factor"] ["_law_first", "_law_second"] (C8.fnScope s__law_times) := C8.fnScope_by (by decide +kernel)
abbrev s__law_mirror : Stmt := topS 58
theorem sc__law_mirror : FnScope ["_law_row_here", "_law_entry"] ["_law_row_here"] (C8.fnScope s__law_mirror) := C8.fnScope_by (by decide +kernel)
abbrev s__law_moved : Stmt := topS 59
theorem sc__law_moved : FnScope ["_law_row_here", "_law_by", "_law_entry"] ["_law_row_here", "_law_by"] (C8.fnScope s__law_moved) := C8.fnScope_by (by decide +kernel)
abbrev s__law_cross : Stmt := topS 60
theorem sc__law_cross : FnScope ["_law_first", "_law_second"] ["_law_first", "_law_second"] (C8.fnScope s__law_cross) := C8.fnScope_by (by decide +kernel)
abbrev s__law_zero : Stmt := topS 61
theorem sc__law_zero : FnScope ["_law_count", "_law_k"] ["_law_count"] (C8.fnScope s__law_zero) := C8.fnScope_by (by decide +kernel)
abbrev s__law_places : Stmt := topS 62
theorem sc__law_places : FnScope ["_law_box", "_law_places_here", "_law_width", "_law_longer", "_law_place", "_law_k"] ["_law_box"] (C8.fnScope s__law_places) := C8.fnScope_by (by decide +kernel)
abbrev s__law_drawn : Stmt := topS 63
theorem sc__law_drawn : FnScope ["_law_cell_here", "_law_box", "_law_reach", "_law_moves", "_law_places_here", "_law_draws_here", "_law_by", "_law_k"] ["_law_cell_here", "_law_box", "_law_reach", "_law_moves"] (C8.fnScope s__law_drawn) := C8.fnScope_by (by decide +kernel)
abbrev s__law_copies : Stmt := topS 64
theorem sc__law_copies : FnScope ["_law_rows_here", "_law_row_here"] ["_law_rows_here"] (C8.fnScope s__law_copies) := C8.fnScope_by (by decide +kernel)
abbrev s__law_same_list : Stmt := topS 65
theorem sc__law_same_list : FnScope ["_law_actual", "_law_expected", "_law_k"] ["_law_actual", "_law_expected"] (C8.fnScope s__law_same_list) := C8.fnScope_by (by decide +kernel)
abbrev s__law_apart : Stmt := topS 66
theorem sc__law_apart : FnScope ["_law_rows_here", "_law_sizes", "_law_row_here", "_law_k"] ["_law_rows_here"] (C8.fnScope s__law_apart) := C8.fnScope_by (by decide +kernel)
abbrev s__law_rows : Stmt := topS 67
theorem sc__law_rows : FnScope ["_law_script", "_law_count", "_law_start", "_law_holes", "_law_wide_here", "_law_rows_here", "_law_k", "_law_row_here"] ["_law_script", "_law_count", "_law_start"] (C8.fnScope s__law_rows) := C8.fnScope_by (by decide +kernel)
abbrev s__law_line : Stmt := topS 68
theorem sc__law_line : FnScope ["_law_cell_here", "_law_reach", "_law_draws_here", "_law_k"] ["_law_cell_here", "_law_reach"] (C8.fnScope s__law_line) := C8.fnScope_by (by decide +kernel)
abbrev s__law_whole : Stmt := topS 69
theorem sc__law_whole : FnScope ["_law_rows_here", "_law_count", "_law_pairs", "_law_i", "_law_place", "_law_number"] ["_law_rows_here"] (C8.fnScope s__law_whole) := C8.fnScope_by (by decide +kernel)
abbrev s__law_combed : Stmt := topS 70
theorem sc__law_combed : FnScope ["_law_row_here", "_law_count", "_law_found", "_law_i", "_law_line_here", "_law_place", "_law_number"] ["_law_row_here", "_law_count"] (C8.fnScope s__law_combed) := C8.fnScope_by (by decide +kernel)
abbrev s__law_tables : Stmt := topS 71
theorem sc__law_tables : FnScope ["_law_rows_here", "_law_tables_here", "_law_i", "_law_j", "_law_row_here", "_law_table", "_law_other"] ["_law_rows_here"] (C8.fnScope s__law_tables) := C8.fnScope_by (by decide +kernel)
abbrev s__law_sum : Stmt := topS 72
theorem sc__law_sum : FnScope ["_law_tables_here", "_law_r", "_law_count", "_law_pairs", "_law_i", "_law_j"] ["_law_tables_here", "_law_r"] (C8.fnScope s__law_sum) := C8.fnScope_by (by decide +kernel)
abbrev s__law_uncombs : Stmt := topS 73
theorem sc__law_uncombs : FnScope ["_law_rows_here", "_law_given", "_law_whole_here", "_law_turn", "_law_told"] ["_law_rows_here", "_law_given", "_law_whole_here"] (C8.fnScope s__law_uncombs) := C8.fnScope_by (by decide +kernel)
abbrev s__law_combs : Stmt := topS 74
theorem sc__law_combs : FnScope ["_law_row_here", "_law_expected", "_law_passed", "_law_turn", "_law_told"] ["_law_row_here", "_law_expected"] (C8.fnScope s__law_combs) := C8.fnScope_by (by decide +kernel)
abbrev s__law_tables_told : Stmt := topS 75
theorem sc__law_tables_told : FnScope ["_law_rows_here", "_law_given", "_law_tables_here", "_law_turn", "_law_actual", "_law_told", "_law_k"] ["_law_rows_here", "_law_given", "_law_tables_here"] (C8.fnScope s__law_tables_told) := C8.fnScope_by (by decide +kernel)
abbrev s__law_refusal : Stmt := topS 76
theorem sc__law_refusal : FnScope ["_law_door", "_law_rows_here", "_law_count", "_law_e", "_law_kinds"] ["_law_door", "_law_rows_here", "_law_count"] (C8.fnScope s__law_refusal) := C8.fnScope_by (by decide +kernel)
abbrev s__law_refused : Stmt := topS 77
theorem sc__law_refused : FnScope ["_law_door", "_law_rows_here", "_law_count", "_law_due", "_law_given", "_law_turn"] ["_law_door", "_law_rows_here", "_law_count", "_law_due"] (C8.fnScope s__law_refused) := C8.fnScope_by (by decide +kernel)
abbrev s__law_wide : Stmt := topS 78
theorem sc__law_wide : FnScope ["_law_cell_here", "_law_size", "_law_row_here", "_law_k"] ["_law_cell_here", "_law_size"] (C8.fnScope s__law_wide) := C8.fnScope_by (by decide +kernel)
abbrev s__law_doors : Stmt := topS 79
theorem sc__law_doors : FnScope ["_law_script", "_law_rows_here", "_law_draws_here", "_law_size", "_law_wide_here", "_law_other", "_law_at", "_law_alone", "_law_narrow", "_law_line_here", "_law_beside", "_law_near", "_law_pair", "_law_row_here", "_law_mixed", "_law_door"] ["_law_script", "_law_rows_here", "_law_draws_here"] (C8.fnScope s__law_doors) := C8.fnScope_by (by decide +kernel)
abbrev s_law : Stmt := topS 80
theorem sc_law : FnScope ["_law_script", "_law_head", "_law_count", "_law_rows_here", "_law_one", "_law_other", "_law_given", "_law_whole_here", "_law_tables_here", "_law_sums", "_law_own", "_law_line_here", "_law_parts", "_law_r"] ["_law_script"] (C8.fnScope s_law) := C8.fnScope_by (by decide +kernel)
theorem iteD {c A B : Prop} [Decidable c] (h1 : c → A) (h2 : ¬ c → B) : if decide c = true then A else B := by
  by_cases h : c
  · rw [decide_eq_true h]
    exact iteT (h1 h)
  · rw [decide_eq_false h]
    exact iteF (h2 h)
theorem iteND {c A B : Prop} [Decidable c] (h1 : ¬ c → A) (h2 : c → B) : if (!decide c) = true then A else B := by
  by_cases h : c
  · rw [decide_eq_true h]
    exact iteF (h2 h)
  · rw [decide_eq_false h]
    exact iteT (h1 h)
theorem iteB {c : Bool} {A B : Prop} (h1 : c = true → A) (h2 : c = false → B) : if c = true then A else B := by
  cases c with
  | true => exact iteT (h1 rfl)
  | false => exact iteF (h2 rfl)
theorem atI_int {ns : List Int} {k : Int} (h0 : 0 ≤ k) (h1 : k < (ns.length : Int)) : ∃ c, atI (ns.map V.int) k = some (.int c) ∧ ns[k.toNat]? = some c := by
  obtain ⟨j, rfl⟩ := Int.eq_ofNat_of_zero_le h0
  have hj : j < ns.length := by omega
  refine ⟨ns[j], atI_nat ?_, ?_⟩
  · rw [List.getElem?_map, List.getElem?_eq_getElem hj]
    rfl
  · rw [Int.toNat_natCast, List.getElem?_eq_getElem hj]
theorem same_upd {H : Hp} {p : Addr} {o : HO} (h : H p = none) : Same H (upd H p o) := fun b x e => by
  rw [upd_ne (ne_of_none e h)]
  exact e
theorem same_mut {H H' : Hp} {p : Addr} {o : HO} (e : Same H H') (h : H p = none) : Same H (upd H' p o) := fun b x z => by
  rw [upd_ne (ne_of_none z h)]
  exact e b x z
theorem same_t {K : PySem.W.Frag} {H H' : Hp} {a : Addr} {xs : List V} (e : Same H H') (h : SqT K H a xs) : SqT K H' a xs := by
  rcases h with (h | ⟨o, h⟩) | h
  · exact .inl (.inl (e _ _ h))
  · exact .inl (.inr ⟨o, e _ _ h⟩)
  · exact .inr h
/-- the module's names that stay the built-in ones -/
structure Bi (mg : Str → Option Value) : Prop where
  n_len : mg "len" = none
  n_int : mg "int" = none
  n_str : mg "str" = none
  n_bool : mg "bool" = none
  n_list : mg "list" = none
  n_tuple : mg "tuple" = none
  n_range : mg "range" = none
  n_enumerate : mg "enumerate" = none
  n_isinstance : mg "isinstance" = none
  n_sorted : mg "sorted" = none
  n_abs : mg "abs" = none
  n_any : mg "any" = none
  n_all : mg "all" = none
  n_sum : mg "sum" = none
  n_min : mg "min" = none
  n_max : mg "max" = none
  n_zip : mg "zip" = none
  n_set : mg "set" = none
section
variable {P : Program} {w : World} {K : PySem.W.Frag} {mg : Str → Option Value} {base : Heap}
/-! ### a cell of the script -/
def spCell (K : PySem.W.Frag) : Sp := fun vs H Q _ => ∃ (a : Addr) (ns : List Int) (k : Int), vs = [.ref a, .int k] ∧ SqL K H a (ns.map V.int) ∧ 0 ≤ k ∧ ∀ c : Int, Q (.int c) H
theorem c__law_cell {f : Addr} {fd : FuncData} (D : C8.Def K mg "_law_cell" s__law_cell f fd) (b : Binds K fd ["_law_script", "_law_k"] []) (T : Bi mg) : C8.Cal P w K mg base 1 "_law_cell" (spCell K) [] := by
  refine C8.cal0 D b .nil sc__law_cell (fun vs H Q E h => ?_) (fun cdv A outer s H vs Q E hr h => ?_)
  · obtain ⟨a, ns, k, rfl, _⟩ := h
    rfl
  · obtain ⟨a, ns, k, rfl, hS, hk, q⟩ := h
    refine ⟨_, (pss_cons (ps_if (pt_cmpR op_lt (pv 1) (pe_callB call_len_seq (by rfl) T.n_len OT.b_len (pa_cons (pv 0) pa_nil)) (nomark _)) (pss_one (ps_ret (pe_ix ix_list (pv 0) (pv 1) (fun _ _ => rfl)))) pss_nil)
  (pss_cons (ps_if (pt_cmpR op_eq (pe_callB call_len_seq (by rfl) T.n_len OT.b_len (pa_cons (pv 0) pa_nil)) pe_int (nomark _)) (pss_one (ps_ret (pe_op op_add (pe_op op_mul pe_int (pv 1)) pe_int))) pss_nil)
  (pss_one (ps_ret (pe_op op_mod (pe_callTy call_int1 (by rfl) T.n_int OT.b_int (pa_cons (pe_op op_add (pe_op op_add (pe_op op_mul (pe_ix ix_list (pv 0) (pe_op op_mod (pe_callTy call_int1 (by rfl) T.n_int OT.b_int (pa_cons (pv 1) pa_nil)) (pe_callB call_len_seq (by rfl) T.n_len OT.b_len (pa_cons (pv 0) pa_nil))) (fun _ _ => rfl)) pe_int) (pe_op op_mul pe_int (pv 1))) pe_int) pa_nil)) pe_int))))), ?_⟩
    refine ⟨_, rfl, _, rfl, a, _, rfl, .inl hS, _, _, rfl, rfl, _, rfl, ?_⟩
    refine iteD (fun h1 => ?_) (fun h1 => ?_)
    · rw [List.length_map] at h1
      obtain ⟨c, hc, _⟩ := atI_int hk h1
      exact ⟨_, rfl, _, rfl, a, _, _, _, rfl, rfl, hS, hc, q c⟩
    · refine ⟨_, rfl, a, _, rfl, .inl hS, rfl, _, rfl, ?_⟩
      refine iteD (fun h2 => ?_) (fun h2 => ?_)
      · exact ⟨_, rfl, _, _, rfl, rfl, .inl ⟨by decide, by decide⟩, _, _, rfl, rfl, q _⟩
      · have hp : 0 < ns.length := by
          have h3 : ¬ (V.int ((ns.map V.int).length : Int) = V.int 0) := h2
          rw [List.length_map] at h3
          cases ns with
          | nil => exact absurd rfl h3
          | cons x r => exact Nat.succ_pos _
        have hm : 0 ≤ k % (ns.length : Int) := Int.emod_nonneg _ (by omega)
        have hm2 : k % (ns.length : Int) < ns.length := Int.emod_lt_of_pos _ (by omega)
        obtain ⟨c, hc, _⟩ := atI_int hm hm2
        refine ⟨_, rfl, _, rfl, .inl ⟨k, rfl, _, rfl, a, _, rfl, .inl hS, k, _, rfl, rfl, ?_, a, _, _, _, rfl, rfl, hS, ?_, c, _, rfl, rfl, .inr ⟨by decide, by decide⟩, _, rfl, _, _, rfl, rfl, .inl ⟨by decide, by decide⟩, _, _, rfl, rfl, _, _, rfl, rfl, .inl ⟨_, rfl, _, _, rfl, rfl, by show (0 : Int) < 2147483647; decide, q _⟩⟩⟩
        · rw [List.length_map]
          show (0 : Int) < (ns.length : Int)
          omega
        · rw [List.length_map]
          exact hc
/-! ### draws -/
theorem cmul_m1 (x y : Int) : CMul (x % 2147483647) y := by
  refine .inl ?_
  have h1 := Int.emod_nonneg x (show (2147483647 : Int) ≠ 0 by decide)
  have h2 := Int.emod_lt_of_pos x (show (0 : Int) < 2147483647 by decide)
  have h3 : (2 : Int) ^ 64 = 18446744073709551616 := by decide
  omega
theorem cmul_m2 (x y : Int) : CMul (x % 2147483629) y := by
  refine .inl ?_
  have h1 := Int.emod_nonneg x (show (2147483629 : Int) ≠ 0 by decide)
  have h2 := Int.emod_lt_of_pos x (show (0 : Int) < 2147483629 by decide)
  have h3 : (2 : Int) ^ 64 = 18446744073709551616 := by decide
  omega

theorem small64 {z : Int} (h1 : 0 < z) (h2 : z < 1000000000000000) : z.natAbs < 2 ^ 64 := by
  have : (2 : Nat) ^ 64 = 18446744073709551616 := by decide
  omega
def InR (ds zs : List Int) : Prop := ds.length = zs.length ∧ ∀ (i : Nat) (d z : Int), ds[i]? = some d → zs[i]? = some z → 0 ≤ d ∧ d < z
def spDraws (K : PySem.W.Frag) : Sp := fun vs H Q _ => ∃ (a : Addr) (zs : List Int) (c : Int), vs = [.int c, .ref a] ∧ SqL K H a (zs.map V.int) ∧ zs.length ≤ 1000 ∧ (∀ z ∈ zs, 0 < z ∧ z < 1000000000000000) ∧
  ∀ (ds : List Int) H' p, InR ds zs → Same H H' → H p = none → H' p = some (.lst (ds.map V.int)) → Q (.ref p) H'
theorem c__law_draws {f : Addr} {fd : FuncData} (D : C8.Def K mg "_law_draws" s__law_draws f fd) (b : Binds K fd ["_law_cell_here", "_law_sizes"] []) (T : Bi mg) : C8.Cal P w K mg base 1 "_law_draws" (spDraws K) [] := by
  refine C8.cal0 D b .nil sc__law_draws (fun vs H Q E h => ?_) (fun cdv A outer s H vs Q E hr h => ?_)
  · obtain ⟨a, zs, c, rfl, _⟩ := h
    rfl
  · obtain ⟨a, zs, c, rfl, hS, hl, hz, q⟩ := h
    refine ⟨_, (pss_cons (ps_set (i := 2) sc__law_draws.nd rfl (Or.inl rfl) (pe_lst pa_nil))
  (pss_cons (ps_set (i := 3) sc__law_draws.nd rfl (Or.inl rfl) (pe_op op_sub (pv 0) (pe_op op_pow pe_int pe_int)))
  (pss_cons (ps_for PassesOwn.never rfl (pi_range1 rfl T.n_range (pa_cons (pe_callB call_len_seq (by rfl) T.n_len OT.b_len (pa_cons (pv 1) pa_nil)) pa_nil)) (pg_name (i := 4) sc__law_draws.nd rfl (Or.inl rfl)) (pss_one (ps_if (pt_cmpR op_ge (pv 0) (pe_op op_pow pe_int pe_int) (nomark _)) (pss_cons (ps_expr (pe_bm PySem.F.plainAttrs_list PySem.F.slot_list_append PySem.F.type_list_append mt_append (pv 2) (pa_cons (pe_op op_mod (pe_callTy call_int1 (by rfl) T.n_int OT.b_int (pa_cons (pv 3) pa_nil)) (pe_ix ix_list (pv 1) (pv 4) (fun _ _ => rfl))) pa_nil)))
  (pss_one (ps_set (i := 3) sc__law_draws.nd rfl (Or.inl rfl) (pe_op op_fdivW (pv 3) (pe_ix ix_list (pv 1) (pv 4) (fun _ _ => rfl)))))) (pss_cons (ps_set (i := 5) sc__law_draws.nd rfl (Or.inl rfl) (pe_op op_mod (pe_callTy call_int1 (by rfl) T.n_int OT.b_int (pa_cons (pe_op op_add (pe_op op_add (pv 0) (pe_op op_mul pe_int (pv 4))) pe_int) pa_nil)) pe_int))
  (pss_cons (ps_set (i := 5) sc__law_draws.nd rfl (Or.inl rfl) (pe_op op_mod (pe_callTy call_int1 (by rfl) T.n_int OT.b_int (pa_cons (pe_op op_mul (pv 5) (pe_op op_add (pv 5) pe_int)) pa_nil)) pe_int))
  (pss_cons (ps_set (i := 5) sc__law_draws.nd rfl (Or.inl rfl) (pe_op op_mod (pe_callTy call_int1 (by rfl) T.n_int OT.b_int (pa_cons (pe_op op_add (pe_op op_mul (pv 5) (pe_op op_add (pv 5) pe_int)) (pe_op op_mul pe_int (pv 4))) pa_nil)) pe_int))
  (pss_one (ps_expr (pe_bm PySem.F.plainAttrs_list PySem.F.slot_list_append PySem.F.type_list_append mt_append (pv 2) (pa_cons (pe_op op_mod (pe_callTy call_int1 (by rfl) T.n_int OT.b_int (pa_cons (pe_op op_fdiv (pv 5) pe_int) pa_nil)) (pe_ix ix_list (pv 1) (pv 4) (fun _ _ => rfl))) pa_nil))))))))))
  (pss_one (ps_ret (pv 2)))))), ?_⟩
    refine ⟨Nat.zero_le _, fun p np => ?_⟩
    have s1 : Same H (upd H p (.lst [])) := same_upd np
    refine ⟨_, rfl, 10, 18, rfl, rfl, ?cp, _, _, rfl, rfl, ?_⟩
    case cp => exact ⟨by decide, by decide⟩
    refine ⟨_, rfl, a, _, rfl, .inl (s1.seq hS), _, rfl, ?_, ?_, ?_⟩
    · rw [List.length_map]
      omega
    · rw [List.length_map]
      have : (2 : Int) ^ 62 = 4611686018427387904 := by decide
      omega
    rw [List.length_map, Int.toNat_natCast]
    refine for_range (fun i σ H2 => ∃ (ds : List Int) (r : Int) (y4 y5 : Option V), σ = [some (.int c), some (.ref a), some (.ref p), some (.int r), y4, y5] ∧ Same H H2 ∧ H2 p = some (.lst (ds.map V.int)) ∧ InR ds (zs.take i)) ?_ ?_ ?_
    · exact ⟨[], _, none, none, rfl, s1, upd_same, rfl, fun i d z h => by simp at h⟩
    · rintro i σ H2 hi ⟨ds, r, y4, y5, rfl, sm, hp, hr2⟩
      have hzi : zs[i]? = some zs[i] := List.getElem?_eq_getElem hi
      obtain ⟨z1, z2⟩ := hz zs[i] (List.getElem_mem hi)
      have hix : atI (zs.map V.int) ((0 : Int) + (i : Int)) = some (.int zs[i]) := by
        rw [Int.zero_add]
        exact atI_nat (by rw [List.getElem?_map, hzi]; rfl)
      have hS2 := sm.seq hS
      have hlen : ds.length = i := by
        rw [hr2.1, List.length_take]
        omega
      have hlt : (ds.map V.int).length < sizeLine := by
        rw [List.length_map]
        exact small1000 (by omega)
      have more : ∀ x : Int, InR (ds ++ [x % zs[i]]) (zs.take (i + 1)) := fun x => by
        refine ⟨?_, fun j d z h1 h2 => ?_⟩
        · rw [List.length_append, List.length_take, hlen]
          simp
          omega
        · by_cases hj : j < i
          · rw [List.getElem?_append_left (by omega)] at h1
            rw [List.getElem?_take_of_lt (by omega)] at h2
            exact hr2.2 j d z h1 (by rw [List.getElem?_take_of_lt hj]; exact h2)
          · by_cases ej : j = i
            · subst ej
              rw [List.getElem?_append_right (by omega), hlen, Nat.sub_self] at h1
              rw [List.getElem?_take_of_lt (by omega), hzi] at h2
              have e1 : x % zs[j] = d := Option.some.inj h1
              have e2 : zs[j] = z := Option.some.inj h2
              rw [← e1, ← e2]
              exact ⟨Int.emod_nonneg _ (by omega), Int.emod_lt_of_pos _ z1⟩
            · rw [List.getElem?_eq_none (by rw [List.length_take]; omega)] at h2
              cases h2
      have fin : ∀ (x r' : Int) (y4 y5 : Option V), ∃ (ds2 : List Int) (r2 : Int) (z4 z5 : Option V), [some (.int c), some (.ref a), some (.ref p), some (.int r'), y4, y5] = [some (.int c), some (.ref a), some (.ref p), some (.int r2), z4, z5] ∧
          Same H (upd H2 p (.lst (ds.map V.int ++ [V.int (x % zs[i])]))) ∧ (upd H2 p (.lst (ds.map V.int ++ [V.int (x % zs[i])]))) p = some (.lst (ds2.map V.int)) ∧ InR ds2 (zs.take (i + 1)) := fun x r' y4 y5 => by
        refine ⟨ds ++ [x % zs[i]], r', y4, y5, rfl, same_mut sm np, ?_, more x⟩
        rw [upd_same, List.map_append]
        rfl
      refine ⟨_, rfl, 10, 18, rfl, rfl, ⟨by decide, by decide⟩, _, _, rfl, rfl, _, rfl, ?_⟩
      refine iteD (fun _ => ?_) (fun _ => ?_)
      · refine ⟨_, rfl, .inl ⟨rfl, _, .inl (.inl hp)⟩, _, rfl, .inl ⟨r, rfl, _, rfl, _, rfl, a, _, _, _, rfl, rfl, hS2, hix, _, _, rfl, rfl, z1, p, _, _, rfl, rfl, hp, hlt, ?_⟩⟩
        have sm3 : Same H (upd H2 p (.lst (ds.map V.int ++ [V.int (r % zs[i])]))) := same_mut sm np
        refine ⟨_, rfl, _, rfl, _, rfl, a, _, _, _, rfl, rfl, sm3.seq hS, hix, _, _, rfl, rfl, wide_div z1 (b := 64) (small64 z1 z2) (by decide) (by decide), ?_⟩
        exact fin _ _ _ _
      · refine ⟨_, rfl, _, rfl, _, _, rfl, rfl, .inl ⟨by decide, by decide⟩, _, _, rfl, rfl, _, _, rfl, rfl, .inl ⟨_, rfl, _, _, rfl, rfl, by show (0 : Int) < 2147483647; decide, ?_⟩⟩
        refine ⟨_, rfl, _, rfl, _, _, rfl, rfl, _, _, rfl, rfl, cmul_m1 _ _, .inl ⟨_, rfl, _, _, rfl, rfl, by show (0 : Int) < 2147483629; decide, ?_⟩⟩
        refine ⟨_, rfl, _, rfl, _, _, rfl, rfl, _, _, rfl, rfl, cmul_m2 _ _, _, rfl, _, _, rfl, rfl, .inl ⟨by decide, by decide⟩, _, _, rfl, rfl, .inl ⟨_, rfl, _, _, rfl, rfl, by show (0 : Int) < 2147483647; decide, ?_⟩⟩
        refine ⟨_, rfl, .inl ⟨rfl, _, .inl (.inl hp)⟩, _, rfl, _, _, rfl, rfl, ⟨by decide, by decide⟩, .inl ⟨_, rfl, _, rfl, _, rfl, a, _, _, _, rfl, rfl, hS2, hix, _, _, rfl, rfl, z1, p, _, _, rfl, rfl, hp, hlt, ?_⟩⟩
        exact fin _ _ _ _
    · rintro σ H2 ⟨ds, r, y4, y5, rfl, sm, hp, hr2⟩
      rw [List.take_length] at hr2
      exact ⟨_, rfl, q ds H2 p hr2 sm np hp⟩
end
end OT

set_option Elab.async false
set_option linter.all false
set_option maxRecDepth 100000
set_option maxHeartbeats 2000000
namespace OT
open PySem PySem.Spec PyProof.Rows L2
theorem take_map_succ {α β : Type} {l : List α} {i : Nat} (f : α → β) (h : i < l.length) : (l.take (i + 1)).map f = (l.take i).map f ++ [f l[i]] := by
  rw [List.take_add_one, List.getElem?_eq_getElem h, List.map_append]
  rfl
theorem getm {α β : Type} {l : List α} {i : Nat} {f : α → β} {x : β} (h : (l.map f)[i]? = some x) : ∃ hi : i < l.length, x = f l[i] := by
  rw [List.getElem?_map] at h
  cases e : l[i]? with
  | none =>
    rw [e] at h
    cases h
  | some z =>
    rw [e] at h
    obtain ⟨hi, hz⟩ := List.getElem?_eq_some_iff.mp e
    exact ⟨hi, by rw [hz]; exact (Option.some.inj h).symm⟩
theorem tYes_of {A B : Hp → Prop} {σ : L2.St} {H : Hp} (h : A H) : tYes σ H (fun b H3 => if b = true then A H3 else B H3) := by
  show (if true = true then A H else B H)
  rw [if_pos rfl]
  exact h
theorem drop_cons {α : Type} {l : List α} {i : Nat} (h : i < l.length) : l.drop i = l[i] :: l.drop (i + 1) := List.drop_eq_getElem_cons h
theorem kb_ii : kitB "int" "int" = some true := by decide +kernel
theorem kb_ib : kitB "int" "bool" = some false := by decide +kernel
theorem kb_tt : kitB "tuple" "tuple" = some true := by decide +kernel
theorem kb_ss : kitB "str" "str" = some true := by decide +kernel
theorem kb_ll : kitB "list" "list" = some true := by decide +kernel
theorem depth_ints : ∀ ns : List Int, PyData.depthAll (ns.map PyData.int) = 0
  | [] => by simp only [List.map_nil, PyData.depthAll]
  | n :: r => by simp only [List.map_cons, PyData.depthAll, PyData.depth, depth_ints r, Nat.max_self]
theorem depth_row : ∀ es : List Ent, PyData.depthAll (es.map dEnt) ≤ 3
  | [] => by simp only [List.map_nil, PyData.depthAll]; decide
  | e :: r => by
    have ih := depth_row r
    simp only [List.map_cons, PyData.depthAll, dEnt, dPl, PyData.depth, depth_ints] at ih ⊢
    omega
theorem shaped_row (es : List Ent) : SeqAt.shaped (dRow es) = true := by
  unfold SeqAt.shaped
  have h1 : (dRow es).canLay0 = true := lay_row es
  rw [h1, Bool.true_and]
  refine decide_eq_true ?_
  have := depth_row es
  simp only [dRow, PyData.depth]
  omega
section
variable {P : Program} {w : World} {K : PySem.W.Frag} {mg : Str → Option Value} {base : Heap}
def spIsInt : Sp := fun vs H Q _ => ∃ i : Int, vs = [.int i] ∧ Q (.bl true) H
theorem c__law_is_integer {f : Addr} {fd : FuncData} (D : C8.Def K mg "_law_is_integer" s__law_is_integer f fd) (b : Binds K fd ["_law_actual"] []) (T : Bi mg) : C8.Cal P w K mg base 1 "_law_is_integer" spIsInt [] := by
  refine C8.cal0 D b .nil sc__law_is_integer (fun vs H Q E h => ?_) (fun cdv A outer s H vs Q E hr h => ?_)
  · obtain ⟨i, rfl, _⟩ := h
    rfl
  · obtain ⟨i, rfl, q⟩ := h
    refine ⟨_, (pss_one (ps_ret (pe_and (pe_callB call_isi (by rfl) T.n_isinstance OT.b_isinstance (pa_cons (pv 0) (pa_cons (pe_bltn (v := .ty "int") (by rfl) T.n_int OT.b_int rfl) pa_nil))) (pe_one (pe_not (pe_callB call_isi (by rfl) T.n_isinstance OT.b_isinstance (pa_cons (pv 0) (pa_cons (pe_bltn (v := .ty "bool") (by rfl) T.n_bool OT.b_bool rfl) pa_nil)))))))), ?_⟩
    refine ⟨_, rfl, _, _, _, _, _, rfl, .ty _, .base (.int i), kit_ty kb_ii, _, rfl, ?_⟩
    refine iteT ?_
    exact ⟨_, rfl, _, _, _, _, _, rfl, .ty _, .base (.int i), kit_ty kb_ib, _, rfl, q⟩
def spIsPlace (K : PySem.W.Frag) : Sp := fun vs H Q _ => ∃ (a : Addr) (ns : List Int), vs = [.ref a] ∧ H a = some (.tup (ns.map V.int)) ∧ 1 ≤ ns.length ∧ ns.length ≤ 3 ∧ Q (.bl true) H
theorem c__law_is_place {f : Addr} {fd : FuncData} (D : C8.Def K mg "_law_is_place" s__law_is_place f fd) (b : Binds K fd ["_law_actual"] []) (T : Bi mg) (c__law_is_integer : C8.Cal P w K mg base 1 "_law_is_integer" spIsInt []) : C8.Cal P w K mg base 2 "_law_is_place" (spIsPlace K) [] := by
  refine C8.cal0 D b .nil sc__law_is_place (fun vs H Q E h => ?_) (fun cdv A outer s H vs Q E hr h => ?_)
  · obtain ⟨a, ns, rfl, _⟩ := h
    rfl
  · obtain ⟨a, ns, rfl, hS, h1, h3, q⟩ := h
    have hT : SqT K H a (ns.map V.int) := .inl (.inl hS)
    refine ⟨_, (pss_cons (ps_if (PW.pt (pw_or (pt_not (pt_val (pe_callB call_isi (by rfl) T.n_isinstance OT.b_isinstance (pa_cons (pv 0) (pa_cons (pe_bltn (v := .ty "tuple") (by rfl) T.n_tuple OT.b_tuple rfl) pa_nil))))) (pw_or (pt_cmpR op_lt (pe_callB call_len_seq (by rfl) T.n_len OT.b_len (pa_cons (pv 0) pa_nil)) pe_int (nomark _)) (pw_or1 (pt_cmpR op_gt (pe_callB call_len_seq (by rfl) T.n_len OT.b_len (pa_cons (pv 0) pa_nil)) pe_int (nomark _)))))) (pss_one (ps_ret pe_bl)) pss_nil)
  (pss_cons (ps_for PassesOwn.never rfl (pi_tup (pv 0)) (pg_name (i := 1) sc__law_is_place.nd rfl (Or.inl rfl)) (pss_one (ps_if (pt_not (pt_val (C8.pe_c c__law_is_integer hr (by decide) (by rfl) (pa_cons (pv 1) pa_nil)))) (pss_one (ps_ret pe_bl)) pss_nil)))
  (pss_one (ps_ret pe_bl)))), ?_⟩
    refine ⟨_, rfl, _, _, _, _, _, rfl, .ty _, .base (.tup hS), kit_ty kb_tt, _, rfl, ?_⟩
    refine iteF ?_
    refine ⟨_, rfl, a, _, rfl, .inr hT, _, _, rfl, rfl, _, rfl, iteD (fun z => ?_) (fun _ => ?_)⟩
    · rw [List.length_map] at z
      omega
    refine ⟨_, rfl, a, _, rfl, .inr hT, _, _, rfl, rfl, _, rfl, iteD (fun z => ?_) (fun _ => ?_)⟩
    · rw [List.length_map] at z
      omega
    refine ⟨_, rfl, a, rfl, ⟨_, hT⟩, ?_⟩
    refine for_tup (K := K) (xs := ns.map V.int) (fun i σ H2 => ∃ y, σ = [some (.ref a), y] ∧ H2 = H) ⟨none, rfl, rfl⟩ (fun i σ H2 _ ⟨_, _, e⟩ => by rw [e]; exact hT) ?_ ?_
    · rintro i x σ H2 hx ⟨y, rfl, rfl⟩
      obtain ⟨hi, rfl⟩ := getm hx
      exact ⟨_, rfl, _, rfl, _, rfl, iteF ⟨_, rfl, rfl⟩⟩
    · rintro σ H2 ⟨y, rfl, rfl⟩
      exact q
end
end OT

set_option Elab.async false
set_option linter.all false
set_option maxRecDepth 100000
set_option maxHeartbeats 2000000
namespace OT
open PySem PySem.Spec PyProof.Rows L2
theorem kV_ints (k : Pl) : (k.map (Sum.inl : Int → Key)).map kV = k.map V.int := by
  rw [List.map_map]
  rfl
theorem dgetT {H : Hp} {d b : Addr} {kvs : List (List Key × V)} {k : Pl} {o : Option V} (e : H d = some (.dT kvs)) (eb : H b = some (.tup (k.map V.int))) (h : valV kvs (k.map Sum.inl) = o) : DGet H d (.ref b) o := by
  rw [← h]
  exact DGet.t e (by rw [kV_ints]; exact eb)
theorem ne_lst {H : Hp} {a D : Addr} {xs l : List V} (h : H a = some (.tup xs)) (hD : H D = some (.lst l)) : a ≠ D := fun e => by
  rw [e, hD] at h
  cases h
theorem EntAt.updL {H : Hp} {D : Addr} {l l' : List V} {v : V} {e : Ent} (hD : H D = some (.lst l)) (h : EntAt H v e) : EntAt (upd H D (.lst l')) v e := by
  obtain ⟨t, p, rfl, h1, h2⟩ := h
  exact ⟨t, p, rfl, by rw [upd_ne (ne_lst h1 hD)]; exact h1, by rw [upd_ne (ne_lst h2 hD)]; exact h2⟩
theorem Ents.updL {H : Hp} {D : Addr} {l l' : List V} {vs : List V} {es : List Ent} (hD : H D = some (.lst l)) (h : Ents H vs es) : Ents (upd H D (.lst l')) vs es := by
  induction h with
  | nil => exact .nil
  | cons h1 _ ih => exact .cons (h1.updL hD) ih
theorem mkR_len (f : Pl → Int) : ∀ ks : List Pl, (mkR f ks).length ≤ ks.length
  | [] => Nat.le_refl _
  | k :: r => by
    have ih := mkR_len f r
    show (if f k = 0 then mkR f r else (k, f k) :: mkR f r).length ≤ r.length + 1
    by_cases h : f k = 0
    · rw [if_pos h]
      omega
    · rw [if_neg h, List.length_cons]
      omega
theorem none_of_upd {H : Hp} {p D : Addr} {o : HO} (h : upd H p o D = none) : H D = none ∧ p ≠ D := by
  have ne : p ≠ D := ne_of_none upd_same h
  exact ⟨by rw [upd_ne ne.symm] at h; exact h, ne⟩
section
variable {P : Program} {w : World} {K : PySem.W.Frag} {mg : Str → Option Value} {base : Heap}
def wantRow (H : Hp) (es : List Ent) (Q : VK) : Prop := ∀ (r : List Ent) (p : Addr) (ws : List V) (H' : Hp), RowIs r es → Same H H' → H p = none → H' p = some (.lst ws) → Ents H' ws r → Q (.ref p) H'
def spRowOf (K : PySem.W.Frag) : Sp := fun vs H Q _ => ∃ (d : Addr) (kvs : List (List Key × V)) (ks : List Pl) (es : List Ent), vs = [.ref d] ∧ H d = some (.dT kvs) ∧ Sums kvs ks (numAt es) ∧ (∀ k ∈ ks, k ≠ []) ∧ ks.length < sizeLine ∧ wantRow H es Q
end
end OT

set_option Elab.async false
set_option linter.all false
set_option maxRecDepth 100000
set_option maxHeartbeats 2000000
namespace OT
open PySem PySem.Spec PyProof.Rows L2
section
variable {P : Program} {w : World} {K : PySem.W.Frag} {mg : Str → Option Value} {base : Heap}
theorem put_keys_ne {ks : List Pl} {e : Pl} (h : ∀ k ∈ ks, k ≠ []) (he : e ≠ []) : ∀ k ∈ (if e ∈ ks then ks else ks ++ [e]), k ≠ [] := by
  by_cases m : e ∈ ks
  · rw [if_pos m]
    exact h
  · rw [if_neg m]
    intro k hk
    rcases List.mem_append.mp hk with hk | hk
    · exact h k hk
    · rw [List.mem_singleton.mp hk]
      exact he
theorem put_keys_len {ks : List Pl} {e : Pl} {i : Nat} (h : ks.length ≤ i) : (if e ∈ ks then ks else ks ++ [e]).length ≤ i + 1 := by
  by_cases m : e ∈ ks
  · rw [if_pos m]
    omega
  · rw [if_neg m, List.length_append, List.length_singleton]
    omega
theorem Ents.updD {H : Hp} {D : Addr} {l l' : List (List Key × V)} {vs : List V} {es : List Ent} (hD : H D = some (.dT l)) (h : Ents H vs es) : Ents (upd H D (.dT l')) vs es := by
  have ne : ∀ {a : Addr} {xs : List V}, H a = some (.tup xs) → a ≠ D := fun {a xs} h e => by
    rw [e, hD] at h
    cases h
  induction h with
  | nil => exact .nil
  | cons h1 _ ih =>
    obtain ⟨t, p, rfl, h1, h2⟩ := h1
    exact .cons ⟨t, p, rfl, by rw [upd_ne (ne h1)]; exact h1, by rw [upd_ne (ne h2)]; exact h2⟩ ih
theorem seq_upd {H : Hp} {D a : Addr} {o : HO} {xs : List V} (h : SqL K H a xs) (ne : a ≠ D) : SqL K (upd H D o) a xs := by
  rcases h with (h | ⟨o', h⟩) | h
  · exact .inl (.inl (by rw [upd_ne ne]; exact h))
  · exact .inl (.inr ⟨o', by rw [upd_ne ne]; exact h⟩)
  · exact .inr h
/-- what a list of entries asks -/
structure InEnts (K : PySem.W.Frag) (H : Hp) (a : Addr) (vs : List V) (es : List Ent) : Prop where
  l : SqL K H a vs
  e : Ents H vs es
  z : es.length < sizeLine
theorem InEnts.mono {H H' : Hp} {a : Addr} {vs : List V} {es : List Ent} (s : Same H H') (h : InEnts K H a vs es) : InEnts K H' a vs es := ⟨s.seq h.l, h.e.mono s, h.z⟩
def spGather (K : PySem.W.Frag) : Sp := fun vs H Q _ => ∃ (a : Addr) (xs : List V) (es : List Ent), vs = [.ref a] ∧ InEnts K H a xs es ∧ (∀ e ∈ es, e.1 ≠ []) ∧ wantRow H es Q
theorem c__law_row {f : Addr} {fd : FuncData} (D : C8.Def K mg "_law_row" s__law_row f fd) (b : Binds K fd ["_law_pairs"] []) (T : Bi mg) : C8.Cal P w K mg base 1 "_law_row" (spGather K) [] := by
  refine C8.cal0 D b .nil sc__law_row (fun vs H Q E h => ?_) (fun cdv A outer s H vs Q E hr h => ?_)
  · obtain ⟨a, xs, es, rfl, _⟩ := h
    rfl
  · obtain ⟨a, xs, es, rfl, hE, hne, q⟩ := h
    refine ⟨_, (pss_cons (ps_set (i := 1) sc__law_row.nd rfl (Or.inr rfl) pe_dnewT)
  (pss_cons (ps_for PassesOwn.never rfl (pi_list (pv 0)) (pg_tup rfl (pgs_cons (pg_name (i := 2) sc__law_row.nd rfl (Or.inl rfl)) (pgs_cons (pg_name (i := 3) sc__law_row.nd rfl (Or.inl rfl)) pgs_nil))) (pss_one (ps_dput (hu_of hr) (pv 1) (pv 2) (pe_op op_add (pe_dget2 (hu_of hr) (pv 1) (pv 2) pe_int ⟨rfl, rfl, rfl, rfl⟩) (pv 3)) rfl)))
  (pss_one (ps_ret (pe_lc (own := [("_law_place", 2)]) (g := (gName 2)) rfl sc__law_row.nd (pi_list (pe_callB (cr_sortedDT rfl) (by rfl) T.n_sorted OT.b_sorted (pa_cons (pv 1) pa_nil))) (blkOk_by (N := ["_law_pairs", "_law_sums", "_law_place", "_law_number"]) (sc := C8.fnScope s__law_row) (by decide +kernel)) (fun _ _ _ _ _ => (pg_name (i := 2) sc__law_row.nd rfl (Or.inl rfl))) (fun _ _ _ _ _ => (pts_one (pt_cmpR op_ne (pe_dget (hu_of hr) (pv 1) (pv 2) (fun _ _ => rfl)) pe_int (nomark _)))) (fun _ _ _ _ _ => (pe_tup (pa_cons (pv 2) (pa_cons (pe_dget (hu_of hr) (pv 1) (pv 2) (fun _ _ => rfl)) pa_nil))))))))), ?_⟩
    refine fun d nd => ?_
    have s1 : Same H (upd H d (.dT [])) := same_upd nd
    refine ⟨_, rfl, a, rfl, ⟨xs, s1.seq hE.l⟩, ?_⟩
    refine for_list (K := K) (xs := xs) (fun i σ H2 => ∃ (kvs : List (List Key × V)) (ks : List Pl) (y2 y3 : Option V), σ = [some (.ref a), some (.ref d), y2, y3] ∧ Same H H2 ∧ H2 d = some (.dT kvs) ∧ Sums kvs ks (numAt (es.take i)) ∧ (∀ k ∈ ks, k ≠ []) ∧ ks.length ≤ i) ?_ ?_ ?_ ?_
    · exact ⟨[], [], none, none, rfl, s1, upd_same, Sums.nil, fun k hk => (by cases hk), Nat.le_refl _⟩
    · rintro i σ H2 _ ⟨_, _, _, _, _, sm, _⟩
      exact sm.seq hE.l
    · rintro i x σ H2 hx ⟨kvs, ks, y2, y3, rfl, sm, hd, hs, hk, hl⟩
      obtain ⟨e, he, hv⟩ := (hE.e.mono sm).get hx
      obtain ⟨t, p, rfl, ht, hp⟩ := hv
      have hi := (List.getElem?_eq_some_iff.mp he).1
      have hm : e ∈ es := List.mem_of_getElem? he
      have hz := hE.z
      refine ⟨t, _, rfl, .inl (.inl ht), rfl, _, _, rfl, _, _, rfl, rfl, ?_⟩
      refine ⟨_, rfl, d, rfl, .inr ⟨kvs, .inl hd⟩, _, rfl, _, dgetT hd hp rfl, _, rfl, numAt (es.take i) e.1, e.2, hs.getD _, rfl, _, rfl, _, rfl, d, _, rfl, DPut.t hd (k := e.1.map Sum.inl) (by rw [kV_ints]; exact hp) ?_, ?_⟩
      · rw [hs.len]
        omega
      · exact ⟨_, _, _, _, rfl, same_mut sm nd, upd_same, hs.next he, put_keys_ne hk (hne e hm), put_keys_len hl⟩
    · rintro σ H2 ⟨kvs, ks, y2, y3, rfl, sm, hd, hs, hk, hl⟩
      have hz := hE.z
      have hlen := hE.e.len
      rw [hlen, List.take_length] at hs
      have hkz : ks.length < sizeLine := by omega
      refine ⟨_, rfl, d, kvs, ks, rfl, .inl hd, hs.keys, fun _ => hk, fun out p perm pw nod held np => ?_⟩
      refine ⟨p, rfl, ⟨_, .inl (.inl upd_same)⟩, fun D nD => ?_⟩
      have hpD : p ≠ D := ne_of_none upd_same nD
      obtain ⟨hDn, _⟩ := none_of_upd nD
      have hkd : ∀ x ∈ out, x.2 ∈ ks := fun x hx => perm.mem_iff.mp (List.mem_map_of_mem hx)
      refine lc_list (K := K) (a := p) (xs := out.map fun x => V.ref x.1) (fun i H3 => Same H2 H3 ∧ H3 p = some (.lst (out.map fun x => V.ref x.1)) ∧ ∃ ws, H3 D = some (.lst ws) ∧ Ents H3 ws (mkR (numAt es) ((out.take i).map (·.2)))) ?_ ?_ ?_ ?_
      · refine ⟨(same_upd np).trans (same_upd nD), ?_, [], upd_same, .nil⟩
        rw [upd_ne hpD, upd_same]
      · rintro i H3 _ ⟨_, hp, _⟩
        exact .inl (.inl hp)
      · rintro i x H3 hx ⟨sm3, hp, ws, hD, hE3⟩
        obtain ⟨hi, rfl⟩ := getm hx
        have hm := List.getElem_mem hi
        have hk3 := sm3 _ _ (held _ hm)
        have hv := hs.get (hkd _ hm)
        have hd2 := sm3 _ _ hd
        refine ⟨rfl, _, rfl, _, rfl, d, _, rfl, dgetT hd2 hk3 hv, ?_⟩
        refine ⟨rfl, _, rfl, ?_⟩
        have htk : (out.take (i + 1)).map (·.2) = (out.take i).map (·.2) ++ [out[i].2] := take_map_succ (·.2) hi
        rw [htk, mkR_snoc]
        refine iteND (fun hn => ?_) (fun h0 => ?_)
        · have hn0 : numAt es out[i].2 ≠ 0 := fun z => hn (by rw [z])
          rw [if_neg hn0]
          refine ⟨_, rfl, _, rfl, _, rfl, d, _, rfl, dgetT hd2 hk3 hv, (by show 2 ≤ sizeLine; decide), fun t nt => ?_⟩
          have ntD : D ≠ t := ne_of_none hD nt
          have smt : Same H3 (upd H3 t (.tup [.ref out[i].1, .int (numAt es out[i].2)])) := same_upd nt
          have hD3 := smt _ _ hD
          refine ⟨ws, hD3, ?_, same_mut (sm3.trans smt) hDn, ?_, ws ++ [.ref t], upd_same, ?_⟩
          · have h1 := hE3.len
            have h2 := mkR_len (numAt es) ((out.take i).map (·.2))
            have h3 := perm.length_eq
            rw [List.length_map] at h2 h3
            rw [List.length_take] at h2
            omega
          · rw [upd_ne hpD]
            exact smt _ _ hp
          · refine ((hE3.mono smt).updL hD3).app (.cons (EntAt.updL hD3 ⟨t, _, rfl, upd_same, ?_⟩) .nil)
            exact smt _ _ hk3
        · have h0' : numAt es out[i].2 = 0 := V.int.inj h0
          rw [if_pos h0', List.append_nil]
          exact ⟨sm3, hp, ws, hD, hE3⟩
      · rintro H3 ⟨sm3, hp, ws, hD, hE3⟩
        rw [List.length_map, List.take_length] at hE3
        refine q _ D ws H3 (row_sorted perm pw nod hs.out) (sm.trans sm3) ?_ hD hE3
        cases z : H D with
        | none => rfl
        | some o =>
          rw [sm _ _ z] at hDn
          cases hDn
end
end OT

set_option Elab.async false
set_option linter.all false
set_option maxRecDepth 100000
set_option maxHeartbeats 2000000
namespace OT
open PySem PySem.Spec PyProof.Rows L2
section
variable {P : Program} {w : World} {K : PySem.W.Frag} {mg : Str → Option Value} {base : Heap}
/-- a row of places of n coordinates -/
structure RowN (n : Nat) (r : List Ent) : Prop where
  v : Valid r
  n1 : 1 ≤ n
  n3 : n ≤ 3
  at_ : ∀ e ∈ r, e.1.length = n
theorem asc_get {r : List Ent} (h : Valid r) {i j : Nat} (hi : i < r.length) (hj : j < r.length) (hij : i < j) : HT.lexLt r[i].1 r[j].1 = true := List.pairwise_iff_getElem.mp h.asc i j hi hj hij
def spIsRow (K : PySem.W.Frag) : Sp := fun vs H Q _ => ∃ (a : Addr) (ws : List V) (r : List Ent) (n : Nat), vs = [.ref a] ∧ H a = some (.lst ws) ∧ Ents H ws r ∧ RowN n r ∧ r.length ≤ 100000 ∧ Q (.bl true) H
theorem c__law_is_row {f : Addr} {fd : FuncData} (D : C8.Def K mg "_law_is_row" s__law_is_row f fd) (b : Binds K fd ["_law_actual"] []) (T : Bi mg) (c__law_is_place : C8.Cal P w K mg base 2 "_law_is_place" (spIsPlace K) []) (c__law_is_integer : C8.Cal P w K mg base 1 "_law_is_integer" spIsInt []) :
    C8.Cal P w K mg base 3 "_law_is_row" (spIsRow K) [] := by
  refine C8.cal0 D b .nil sc__law_is_row (fun vs H Q E h => ?_) (fun cdv A outer s H vs Q E hr h => ?_)
  · obtain ⟨a, ws, r, n, rfl, _⟩ := h
    rfl
  · obtain ⟨a, ws, r, n, rfl, ha, hE, hN, hz, q⟩ := h
    have hS : SqL K H a ws := .inl (.inl ha)
    refine ⟨_, (pss_cons (ps_if (pt_not (pt_val (pe_callB call_isi (by rfl) T.n_isinstance OT.b_isinstance (pa_cons (pv 0) (pa_cons (pe_bltn (v := .ty "list") (by rfl) T.n_list OT.b_list rfl) pa_nil))))) (pss_one (ps_ret pe_bl)) pss_nil)
  (pss_cons (ps_for PassesOwn.never rfl (pi_range1 rfl T.n_range (pa_cons (pe_callB call_len_seq (by rfl) T.n_len OT.b_len (pa_cons (pv 0) pa_nil)) pa_nil)) (pg_name (i := 1) sc__law_is_row.nd rfl (Or.inl rfl)) (pss_cons (ps_set (i := 2) sc__law_is_row.nd rfl (Or.inl rfl) (pe_ix ix_list (pv 0) (pv 1) (fun _ _ => rfl)))
  (pss_cons (ps_if (PW.pt (pw_or (pt_not (pt_val (pe_callB call_isi (by rfl) T.n_isinstance OT.b_isinstance (pa_cons (pv 2) (pa_cons (pe_bltn (v := .ty "tuple") (by rfl) T.n_tuple OT.b_tuple rfl) pa_nil))))) (pw_or1 (pt_cmpR op_ne (pe_callB call_len_seq (by rfl) T.n_len OT.b_len (pa_cons (pv 2) pa_nil)) pe_int (nomark _))))) (pss_one (ps_ret pe_bl)) pss_nil)
  (pss_cons (ps_if (PW.pt (pw_or (pt_not (pt_val (C8.pe_c c__law_is_place hr (by decide) (by rfl) (pa_cons (pe_ix ix_tup (pv 2) pe_int (fun _ _ => rfl)) pa_nil)))) (pw_or (pt_not (pt_val (C8.pe_c c__law_is_integer hr (by decide) (by rfl) (pa_cons (pe_ix ix_tup (pv 2) pe_int (fun _ _ => rfl)) pa_nil)))) (pw_or1 (pt_cmpR op_eq (pe_ix ix_tup (pv 2) pe_int (fun _ _ => rfl)) pe_int (nomark _)))))) (pss_one (ps_ret pe_bl)) pss_nil)
  (pss_cons (ps_if (pt_cmpR op_ne (pe_callB call_len_seq (by rfl) T.n_len OT.b_len (pa_cons (pe_ix ix_tup (pv 2) pe_int (fun _ _ => rfl)) pa_nil)) (pe_callB call_len_seq (by rfl) T.n_len OT.b_len (pa_cons (pe_ix ix_tup (pe_ix ix_list (pv 0) pe_int (fun _ _ => rfl)) pe_int (fun _ _ => rfl)) pa_nil)) (nomark _)) (pss_one (ps_ret pe_bl)) pss_nil)
  (pss_one (ps_if (PW.pt (pw_and (pt_cmpR op_gt (pv 1) pe_int (nomark _)) (pw_and1 (pt_not (pt_cmpR (op_ltT hr.units0) (pe_ix ix_tup (pe_ix ix_list (pv 0) (pe_op op_sub (pv 1) pe_int) (fun _ _ => rfl)) pe_int (fun _ _ => rfl)) (pe_ix ix_tup (pv 2) pe_int (fun _ _ => rfl)) (nomark _)))))) (pss_one (ps_ret pe_bl)) pss_nil)))))))
  (pss_one (ps_ret pe_bl)))), ?_⟩
    refine ⟨_, rfl, _, _, _, _, _, rfl, .ty _, .base (.lst ha), kit_ty kb_ll, _, rfl, ?_⟩
    refine iteF ?_
    refine ⟨_, rfl, a, _, rfl, .inl hS, _, rfl, ?_, ?_, ?_⟩
    · omega
    · have h2 := hE.len
      have : (2 : Int) ^ 62 = 4611686018427387904 := by decide
      omega
    rw [Int.toNat_natCast, hE.len]
    refine for_range (fun i σ H2 => ∃ y1 y2, σ = [some (.ref a), y1, y2] ∧ H2 = H) ⟨none, none, rfl, rfl⟩ ?_ ?_
    · rintro i σ H2 hi ⟨y1, y2, rfl, rfl⟩
      obtain ⟨v, hv, t, p, rfl, ht, hp⟩ := hE.at hi
      obtain ⟨v0, hv0, t0, p0, rfl, ht0, hp0⟩ := hE.at (i := 0) (by omega)
      have hm := List.getElem_mem hi
      have hm0 := List.getElem_mem (show 0 < r.length by omega)
      have hT : SqT K H2 t [.ref p, .int r[i].2] := .inl (.inl ht)
      have hT0 : SqT K H2 t0 [.ref p0, .int (r[0]'(by omega)).2] := .inl (.inl ht0)
      have hP : SqT K H2 p (r[i].1.map V.int) := .inl (.inl hp)
      have hP0 : SqT K H2 p0 ((r[0]'(by omega)).1.map V.int) := .inl (.inl hp0)
      refine ⟨_, rfl, _, rfl, a, _, _, .ref t, rfl, rfl, hS, by rw [Int.zero_add]; exact atI_nat hv, ?_⟩
      refine ⟨_, rfl, _, _, _, _, _, rfl, .ty _, .base (.tup ht), kit_ty kb_tt, _, rfl, ?_⟩
      refine iteF ?_
      refine ⟨_, rfl, t, _, rfl, .inr hT, rfl, _, rfl, ?_⟩
      refine iteF ?_
      refine ⟨_, rfl, t, _, 0, _, rfl, rfl, hT, atI_nat (j := 0) rfl, p, _, rfl, hp, by rw [hN.at_ _ hm]; exact hN.n1, by rw [hN.at_ _ hm]; exact hN.n3, _, rfl, ?_⟩
      refine iteF ?_
      refine ⟨_, rfl, t, _, 1, _, rfl, rfl, hT, atI_nat (j := 1) rfl, _, rfl, _, rfl, ?_⟩
      refine iteF ?_
      refine ⟨_, rfl, t, _, 1, _, rfl, rfl, hT, atI_nat (j := 1) rfl, rfl, _, rfl, iteD (fun z => absurd (V.int.inj z) (hN.v.nz _ hm)) (fun _ => ?_)⟩
      refine ⟨_, rfl, t, _, 0, _, rfl, rfl, hT, atI_nat (j := 0) rfl, p, _, rfl, .inr hP, _, rfl, a, _, 0, _, rfl, rfl, hS, atI_nat (j := 0) hv0, t0, _, 0, _, rfl, rfl, hT0, atI_nat (j := 0) rfl, p0, _, rfl, .inr hP0, rfl, _, rfl, iteND (fun z => ?_) (fun _ => ?_)⟩
      · rw [List.length_map, List.length_map, hN.at_ _ hm, hN.at_ _ hm0] at z
        exact absurd rfl z
      refine ⟨_, rfl, _, _, rfl, rfl, _, rfl, iteD (fun hk => ?_) (fun _ => ?_)⟩
      · have hi1 : i - 1 < r.length := by omega
        obtain ⟨v1, hv1, t1, p1, rfl, ht1, hp1⟩ := hE.at (i := i - 1) hi1
        have hT1 : SqT K H2 t1 [.ref p1, .int (r[i - 1]'hi1).2] := .inl (.inl ht1)
        refine ⟨_, rfl, _, rfl, _, _, rfl, rfl, a, _, _, _, rfl, rfl, hS, ?_, t1, _, 0, _, rfl, rfl, hT1, atI_nat (j := 0) rfl, _, rfl, t, _, 0, _, rfl, rfl, hT, atI_nat (j := 0) rfl, p1, p, _, _, rfl, rfl, .inl (.inl hp1), hP, _, rfl, ?_⟩
        · rw [show (0 : Int) + (i : Int) - 1 = ((i - 1 : Nat) : Int) by omega]
          exact atI_nat hv1
        · rw [asc_get hN.v hi1 hi (by omega)]
          refine iteF ?_
          exact ⟨_, _, rfl, rfl⟩
      · exact ⟨_, _, rfl, rfl⟩
    · rintro σ H2 ⟨y1, y2, rfl, rfl⟩
      exact q
def spSame (K : PySem.W.Frag) : Sp := fun vs H Q _ => ∃ (a c : Addr) (ws us : List V) (r : List Ent) (n : Nat), vs = [.ref a, .ref c] ∧ H a = some (.lst ws) ∧ Ents H ws r ∧ H c = some (.lst us) ∧ Ents H us r ∧ RowN n r ∧ r.length ≤ 100000 ∧ Q (.bl true) H
theorem c__law_same {f : Addr} {fd : FuncData} (D : C8.Def K mg "_law_same" s__law_same f fd) (b : Binds K fd ["_law_actual", "_law_expected"] []) (T : Bi mg) (c__law_is_row : C8.Cal P w K mg base 3 "_law_is_row" (spIsRow K) []) :
    C8.Cal P w K mg base 4 "_law_same" (spSame K) [] := by
  refine C8.cal0 D b .nil sc__law_same (fun vs H Q E h => ?_) (fun cdv A outer s H vs Q E hr h => ?_)
  · obtain ⟨a, c, ws, us, r, n, rfl, _⟩ := h
    rfl
  · obtain ⟨a, c, ws, us, r, n, rfl, ha, hE, hc, hF, hN, hz, q⟩ := h
    refine ⟨_, (pss_one (ps_ret (pe_and (C8.pe_c c__law_is_row hr (by decide) (by rfl) (pa_cons (pv 0) pa_nil)) (pe_one (pe_cmpR (op_eqD hr.units) (pv 0) (pv 1) (nomark _)))))), ?_⟩
    refine ⟨_, rfl, a, ws, r, n, rfl, ha, hE, hN, hz, _, rfl, ?_⟩
    refine iteT ?_
    refine ⟨_, rfl, _, rfl, dRow r, dRow r, hE.dp (.inl (.inl ha)), hF.dp (.inl (.inl hc)), shaped_row r, shaped_row r, ?_⟩
    rw [SeqAt.eqv_refl _ (SeqAt.canLay_of_shaped (shaped_row r))]
    exact q
end
end OT

set_option Elab.async false
set_option linter.all false
set_option maxRecDepth 100000
set_option maxHeartbeats 2000000
namespace OT
open PySem PySem.Spec PyProof.Rows L2
/-! ### places -/
def plusP (k l : Pl) : Pl := List.zipWith (· + ·) k l
theorem plusP_len {k l : Pl} (h : k.length ≤ l.length) : (plusP k l).length = k.length := by
  unfold plusP
  rw [List.length_zipWith, Nat.min_eq_left h]
theorem plusP_get {k l : Pl} {i : Nat} (h : i < (plusP k l).length) (h1 : i < k.length) (h2 : i < l.length) : (plusP k l)[i] = k[i] + l[i] := by
  unfold plusP
  exact List.getElem_zipWith ..
theorem plusP_mem {k l : Pl} {x : Int} (h : x ∈ plusP k l) : ∃ a ∈ k, ∃ b ∈ l, x = a + b := by
  obtain ⟨i, hi, rfl⟩ := List.getElem_of_mem h
  have hk : i < k.length := by
    unfold plusP at hi
    rw [List.length_zipWith] at hi
    omega
  have hl : i < l.length := by
    unfold plusP at hi
    rw [List.length_zipWith] at hi
    omega
  exact ⟨_, List.getElem_mem hk, _, List.getElem_mem hl, plusP_get hi hk hl⟩
theorem plusP_lt : ∀ {a b l : Pl}, a.length ≤ l.length → b.length ≤ l.length → HT.lexLt (plusP a l) (plusP b l) = HT.lexLt a b
  | [], [], _, _, _ => rfl
  | [], _ :: _, _ :: _, _, _ => rfl
  | _ :: _, [], _ :: _, _, _ => rfl
  | x :: a, y :: b, z :: l, h1, h2 => by
    show (if x + z = y + z then HT.lexLt (plusP a l) (plusP b l) else decide (x + z < y + z)) = if x = y then HT.lexLt a b else decide (x < y)
    rw [plusP_lt (Nat.le_of_succ_le_succ h1) (Nat.le_of_succ_le_succ h2)]
    by_cases e : x = y
    · rw [if_pos e, if_pos (by rw [e])]
    · rw [if_neg e, if_neg (by omega)]
      by_cases h : x < y
      · rw [decide_eq_true h, decide_eq_true (by omega)]
      · rw [decide_eq_false h, decide_eq_false (by omega)]
def movL (es : List Ent) (l : Pl) : List Ent := es.map fun e => (plusP e.1 l, e.2)
theorem movL_valid {es : List Ent} {l : Pl} (h : Valid es) (hl : ∀ e ∈ es, e.1.length ≤ l.length) : Valid (movL es l) := by
  refine ⟨?_, fun e he => ?_⟩
  · unfold movL
    rw [List.pairwise_map]
    refine List.Pairwise.imp_of_mem (fun {x y} hx hy q => ?_) h.asc
    rw [plusP_lt (hl x hx) (hl y hy)]
    exact q
  · obtain ⟨x, hx, rfl⟩ := List.mem_map.mp he
    exact h.nz x hx
theorem numAt_bound {es : List Ent} {m : Nat} (h : ∀ e ∈ es, e.2.natAbs ≤ m) (q : Pl) : (numAt es q).natAbs ≤ es.length * m := by
  induction es with
  | nil => exact Nat.zero_le _
  | cons e r ih =>
    have h1 := h e List.mem_cons_self
    have h2 := ih fun x hx => h x (List.mem_cons_of_mem _ hx)
    show ((if e.1 = q then e.2 else 0) + numAt r q).natAbs ≤ (r.length + 1) * m
    rw [Nat.succ_mul]
    by_cases c : e.1 = q
    · rw [if_pos c]
      omega
    · rw [if_neg c]
      omega
theorem RowIs.bound {r es : List Ent} {m : Nat} (h : RowIs r es) (hb : ∀ e ∈ es, e.2.natAbs ≤ m) : ∀ e ∈ r, e.2.natAbs ≤ es.length * m := fun e he => by
  have h1 := h.v.at e he
  rw [h.s] at h1
  rw [← h1]
  exact numAt_bound hb _
/-- tuples of ints, in turn -/
inductive Pls (H : Hp) : List V → List Pl → Prop
  | nil : Pls H [] []
  | cons {p : Addr} {k : Pl} {vs : List V} {ks : List Pl} : H p = some (.tup (k.map V.int)) → Pls H vs ks → Pls H (.ref p :: vs) (k :: ks)
theorem Pls.len {H : Hp} {vs : List V} {ks : List Pl} (h : Pls H vs ks) : vs.length = ks.length := by
  induction h with
  | nil => rfl
  | cons _ _ ih => rw [List.length_cons, List.length_cons, ih]
theorem Pls.mono {H H' : Hp} {vs : List V} {ks : List Pl} (s : ∀ b o, H b = some o → H' b = some o) (h : Pls H vs ks) : Pls H' vs ks := by
  induction h with
  | nil => exact .nil
  | cons h1 _ ih => exact .cons (s _ _ h1) ih
theorem Pls.app {H : Hp} {vs ws : List V} {ks ls : List Pl} (h : Pls H vs ks) (g : Pls H ws ls) : Pls H (vs ++ ws) (ks ++ ls) := by
  induction h with
  | nil => exact g
  | cons h1 _ ih => exact .cons h1 ih
theorem Pls.updL {H : Hp} {D : Addr} {l l' : List V} {vs : List V} {ks : List Pl} (hD : H D = some (.lst l)) (h : Pls H vs ks) : Pls (upd H D (.lst l')) vs ks := by
  induction h with
  | nil => exact .nil
  | cons h1 _ ih => exact .cons (by rw [upd_ne (ne_lst h1 hD)]; exact h1) ih
theorem Pls.get {H : Hp} {vs : List V} {ks : List Pl} (h : Pls H vs ks) : ∀ {i : Nat} {v : V}, vs[i]? = some v → ∃ p k, v = .ref p ∧ ks[i]? = some k ∧ H p = some (.tup (k.map V.int)) := by
  induction h with
  | nil => intro i v h; simp at h
  | cons h1 _ ih =>
    intro i v hv
    cases i with
    | zero =>
      cases hv
      exact ⟨_, _, rfl, rfl, h1⟩
    | succ i => exact ih (i := i) hv
section
variable {P : Program} {w : World} {K : PySem.W.Frag} {mg : Str → Option Value} {base : Heap}
theorem small100k {n : Nat} (h : n ≤ 100000) : n < sizeLine := Nat.lt_of_le_of_lt h (by decide)
theorem b62 {n : Nat} (h : n ≤ 100000) : (n : Int) < 2 ^ 62 := by
  have : (2 : Int) ^ 62 = 4611686018427387904 := by decide
  omega
def spPlus (K : PySem.W.Frag) : Sp := fun vs H Q _ => ∃ (a b : Addr) (k l : Pl), vs = [.ref a, .ref b] ∧ SqT K H a (k.map V.int) ∧ SqT K H b (l.map V.int) ∧ k.length ≤ l.length ∧ k.length ≤ 1000 ∧ ∀ p H', Same H H' → H' p = some (.tup ((plusP k l).map V.int)) → Q (.ref p) H'
theorem c__law_plus {f : Addr} {fd : FuncData} (D : C8.Def K mg "_law_plus" s__law_plus f fd) (b : Binds K fd ["_law_place", "_law_other"] []) (T : Bi mg) : C8.Cal P w K mg base 1 "_law_plus" (spPlus K) [] := by
  refine C8.cal0 D b .nil sc__law_plus (fun vs H Q E h => ?_) (fun cdv A outer s H vs Q E hr h => ?_)
  · obtain ⟨a, b, k, l, rfl, _⟩ := h
    rfl
  · obtain ⟨a, b, k, l, rfl, hk, hl, hkl, hz, q⟩ := h
    refine ⟨_, (pss_one (ps_ret (pe_callTy call_tuple_of (by rfl) T.n_tuple OT.b_tuple (pa_cons (pe_lc (own := [("_law_k", 2)]) (g := (gName 2)) (tt := tYes) rfl sc__law_plus.nd (pi_range1 rfl T.n_range (pa_cons (pe_callB call_len_seq (by rfl) T.n_len OT.b_len (pa_cons (pv 0) pa_nil)) pa_nil)) (blkOk_by (N := ["_law_place", "_law_other", "_law_k"]) (sc := C8.fnScope s__law_plus) (by decide +kernel)) (fun _ _ _ _ _ => (pg_name (i := 2) sc__law_plus.nd rfl (Or.inl rfl))) (fun _ _ _ _ _ => pts_nil) (fun _ _ _ _ _ => (pe_op op_add (pe_ix (show IxR _ (rIxT K) from ix_tup) (pv 0) (pv 2) (fun _ _ => rfl)) (pe_ix (show IxR _ (rIxT K) from ix_tup) (pv 1) (pv 2) (fun _ _ => rfl))))) pa_nil)))), ?_⟩
    have hpl := plusP_len hkl
    refine ⟨_, rfl, a, _, rfl, .inr hk, _, rfl, by omega, b62 (by rw [List.length_map]; omega), fun p np => ?_⟩
    rw [List.length_map, Int.toNat_natCast]
    refine lc_range (lo := 0) (n := k.length) (fun i H2 => Same H H2 ∧ H2 p = some (.lst (((plusP k l).take i).map V.int))) ⟨same_upd np, upd_same⟩ ?_ ?_
    · rintro i H2 hi ⟨sm, hp⟩
      have hil : i < l.length := by omega
      have hip : i < (plusP k l).length := by omega
      have gk : atI (k.map V.int) ((0 : Int) + (i : Int)) = some (.int k[i]) := by
        rw [Int.zero_add]
        exact atI_nat (by rw [List.getElem?_map, List.getElem?_eq_getElem hi]; rfl)
      have gl : atI (l.map V.int) ((0 : Int) + (i : Int)) = some (.int l[i]) := by
        rw [Int.zero_add]
        exact atI_nat (by rw [List.getElem?_map, List.getElem?_eq_getElem hil]; rfl)
      refine ⟨rfl, tYes_of ?_⟩
      refine ⟨_, rfl, _, rfl, a, _, _, _, rfl, rfl, same_t sm hk, gk, _, rfl, _, rfl, b, _, _, _, rfl, rfl, same_t sm hl, gl, _, _, rfl, rfl, _, hp, ?_, same_mut sm np, ?_⟩
      · rw [List.length_map, List.length_take]
        exact small1000 (by omega)
      · rw [upd_same, take_map_succ V.int hip, plusP_get hip hi hil]
    · rintro H2 ⟨sm, hp⟩
      rw [← hpl, List.take_length] at hp
      exact ⟨p, _, rfl, .inl ⟨.inl (.inl hp), fun t nt => q t _ (sm.trans (same_upd nt)) upd_same⟩⟩
def spMoved (K : PySem.W.Frag) : Sp := fun vs H Q _ => ∃ (a b : Addr) (xs : List V) (es : List Ent) (l : Pl), vs = [.ref a, .ref b] ∧ InEnts K H a xs es ∧ SqT K H b (l.map V.int) ∧ (∀ e ∈ es, e.1.length ≤ l.length) ∧ l.length ≤ 1000 ∧
  ∀ p ws H', Same H H' → H p = none → H' p = some (.lst ws) → Ents H' ws (movL es l) → Q (.ref p) H'
theorem c__law_moved {f : Addr} {fd : FuncData} (D : C8.Def K mg "_law_moved" s__law_moved f fd) (b : Binds K fd ["_law_row_here", "_law_by"] []) (T : Bi mg) (c__law_plus : C8.Cal P w K mg base 1 "_law_plus" (spPlus K) []) : C8.Cal P w K mg base 2 "_law_moved" (spMoved K) [] := by
  refine C8.cal0 D b .nil sc__law_moved (fun vs H Q E h => ?_) (fun cdv A outer s H vs Q E hr h => ?_)
  · obtain ⟨a, b, xs, es, l, rfl, _⟩ := h
    rfl
  · obtain ⟨a, b, xs, es, l, rfl, hE, hl, hle, hz, q⟩ := h
    refine ⟨_, (pss_one (ps_ret (pe_lc (own := [("_law_entry", 2)]) (g := (gName 2)) (tt := tYes) rfl sc__law_moved.nd (pi_list (pv 0)) (blkOk_by (N := ["_law_row_here", "_law_by", "_law_entry"]) (sc := C8.fnScope s__law_moved) (by decide +kernel)) (fun _ _ _ _ _ => (pg_name (i := 2) sc__law_moved.nd rfl (Or.inl rfl))) (fun _ _ _ _ _ => pts_nil) (fun _ _ _ _ _ => (pe_tup (pa_cons (C8.pe_c c__law_plus hr (by decide) (by rfl) (pa_cons (pe_ix (show IxR _ (rIxT K) from ix_tup) (pv 2) pe_int (fun _ _ => rfl)) (pa_cons (pv 1) pa_nil))) (pa_cons (pe_ix (show IxR _ (rIxT K) from ix_tup) (pv 2) pe_int (fun _ _ => rfl)) pa_nil))))))), ?_⟩
    have hx := hE.e.len
    have hez := hE.z
    refine ⟨_, rfl, a, rfl, ⟨_, hE.l⟩, fun p np => ?_⟩
    refine lc_list (K := K) (xs := xs) (fun i H2 => Same H H2 ∧ ∃ ws, H2 p = some (.lst ws) ∧ Ents H2 ws (movL (es.take i) l)) ?_ ?_ ?_ ?_
    · exact ⟨same_upd np, [], upd_same, .nil⟩
    · rintro i H2 _ ⟨sm, _⟩
      exact sm.seq hE.l
    · rintro i x H2 hxi ⟨sm, ws, hp, hW⟩
      obtain ⟨e, he, t, pe, rfl, ht, hpe⟩ := (hE.e.mono sm).get hxi
      obtain ⟨hi, hee⟩ := List.getElem?_eq_some_iff.mp he
      have hm := List.mem_of_getElem? he
      have hT : SqT K H2 t [.ref pe, .int e.2] := .inl (.inl ht)
      refine ⟨rfl, tYes_of ?_⟩
      refine ⟨_, rfl, t, _, 0, _, rfl, rfl, hT, atI_nat (j := 0) rfl, _, rfl, pe, b, e.1, l, rfl, .inl (.inl hpe), same_t sm hl, hle e hm, Nat.le_trans (hle e hm) hz, fun p3 H3 sm3 hp3 => ?_⟩
      refine ⟨_, rfl, t, _, 1, _, rfl, rfl, same_t sm3 hT, atI_nat (j := 1) rfl, (by show 2 ≤ sizeLine; decide), fun t4 nt4 => ?_⟩
      have sm4 : Same H3 (upd H3 t4 (.tup [.ref p3, .int e.2])) := same_upd nt4
      have smA := sm3.trans sm4
      have hv : EntAt (upd H3 t4 (.tup [.ref p3, .int e.2])) (.ref t4) (plusP e.1 l, e.2) := ⟨t4, p3, rfl, upd_same, sm4 _ _ hp3⟩
      have hD := smA _ _ hp
      have hwl := hW.len
      refine ⟨ws, hD, ?_, same_mut (sm.trans smA) np, ws ++ [.ref t4], upd_same, ?_⟩
      · unfold movL at hwl
        rw [List.length_map, List.length_take] at hwl
        omega
      · have ht1 : es.take (i + 1) = es.take i ++ [e] := by
          rw [List.take_add_one, he]
          rfl
        unfold movL
        rw [ht1, List.map_append]
        exact ((hW.mono smA).app (.cons hv .nil)).updL hD
    · rintro H2 ⟨sm, ws, hp, hW⟩
      rw [hx, List.take_length] at hW
      exact q p ws H2 sm np hp hW
end
end OT

set_option Elab.async false
set_option linter.all false
set_option maxRecDepth 100000
set_option maxHeartbeats 2000000
namespace OT
open PySem PySem.Spec PyProof.Rows L2
theorem InR.get {ds zs : List Int} (h : InR ds zs) {i : Nat} {z : Int} (hz : zs[i]? = some z) : ∃ d, (ds.map V.int)[i]? = some (.int d) ∧ 0 ≤ d ∧ d < z := by
  have hi : i < ds.length := by
    rw [h.1]
    exact (List.getElem?_eq_some_iff.mp hz).1
  have e : ds[i]? = some ds[i] := List.getElem?_eq_getElem hi
  exact ⟨ds[i], by rw [List.getElem?_map, e]; rfl, h.2 i _ z e hz⟩
theorem ixN_nat {n j : Nat} (h : j < n) : ixN n (j : Int) = some j := by
  unfold ixN
  rw [if_pos (by omega), if_pos (by omega), Int.toNat_natCast]
theorem mod_nat {n : Nat} (h : 0 < n) (z : Int) : ∃ j : Nat, z % (n : Int) = (j : Int) ∧ j < n := by
  have h0 : 0 ≤ z % (n : Int) := Int.emod_nonneg _ (by omega)
  have h1 : z % (n : Int) < n := Int.emod_lt_of_pos _ (by omega)
  obtain ⟨j, hj⟩ := Int.eq_ofNat_of_zero_le h0
  exact ⟨j, hj, by omega⟩
/-- how many places a box has -/
def pr (bs : List Nat) : Nat := bs.foldl (· * ·) 1
theorem pr_snoc (bs : List Nat) (n : Nat) : pr (bs ++ [n]) = pr bs * n := by
  unfold pr
  rw [List.foldl_append]
  rfl
theorem pr_take {bs : List Nat} {i : Nat} (h : i < bs.length) : pr (bs.take (i + 1)) = pr (bs.take i) * bs[i] := by
  rw [List.take_add_one, List.getElem?_eq_getElem h]
  exact pr_snoc _ _
/-- within a box, direction by direction -/
def InN (o : Pl) (bs : List Nat) (k : Pl) : Prop := ∀ (i : Nat) (x y : Int) (b : Nat), k[i]? = some x → o[i]? = some y → bs[i]? = some b → y ≤ x ∧ x < y + (b : Int)
def zeros (n : Nat) : Pl := List.replicate n 0
theorem InN.push {n : Nat} {bs : List Nat} {k : Pl} {m w : Nat} (h : InN (zeros n) bs k) (hl : k.length = bs.length) (hm : m < w) (hn : bs.length ≤ n) : InN (zeros (n + 1)) (bs ++ [w]) (k ++ [(m : Int)]) := by
  intro i x y b hx hy hb
  have hy0 : y = 0 := by
    have := List.mem_of_getElem? hy
    exact (List.mem_replicate.mp this).2
  subst hy0
  by_cases c : i < k.length
  · rw [List.getElem?_append_left c] at hx
    rw [List.getElem?_append_left (by omega)] at hb
    refine h i x 0 b hx ?_ hb
    unfold zeros
    rw [List.getElem?_replicate, if_pos (by omega)]
  · have hi := (List.getElem?_eq_some_iff.mp hx).1
    rw [List.length_append, List.length_singleton] at hi
    have e : i = k.length := by omega
    subst e
    rw [List.getElem?_append_right (by omega), Nat.sub_self] at hx
    rw [hl, List.getElem?_append_right (by omega), Nat.sub_self] at hb
    cases hx
    cases hb
    omega
structure PlaceN (W : Nat) (cs : List Nat) (ks : List Pl) : Prop where
  l : ∀ k ∈ ks, k.length = cs.length
  c : ∀ k ∈ ks, ∀ x ∈ k, 0 ≤ x ∧ x < (W : Int)
  b : ∀ k ∈ ks, InN (zeros cs.length) cs k
theorem PlaceN.push {W : Nat} {cs : List Nat} {w : Nat} {ks : List Pl} {k : Pl} {m : Nat} (h : PlaceN W (cs ++ [w]) ks) (hl : k.length = cs.length) (hc : ∀ x ∈ k, 0 ≤ x ∧ x < (W : Int)) (hb : InN (zeros cs.length) cs k) (hm : m < W) (hw : m < w) : PlaceN W (cs ++ [w]) (ks ++ [k ++ [(m : Int)]]) := by
  constructor
  · intro y hy
    rcases List.mem_append.mp hy with hy | hy
    · exact h.l y hy
    · rw [List.mem_singleton.mp hy, List.length_append, hl, List.length_append]
      rfl
  · intro y hy x hx
    rcases List.mem_append.mp hy with hy | hy
    · exact h.c y hy x hx
    · rw [List.mem_singleton.mp hy] at hx
      rcases List.mem_append.mp hx with hx | hx
      · exact hc x hx
      · rw [List.mem_singleton.mp hx]
        omega
  · intro y hy
    rcases List.mem_append.mp hy with hy | hy
    · exact h.b y hy
    · rw [List.mem_singleton.mp hy, List.length_append, List.length_singleton]
      exact hb.push hl hw (Nat.le_refl _)
section
variable {P : Program} {w : World} {K : PySem.W.Frag} {mg : Str → Option Value} {base : Heap}
/-- a box that is small -/
structure BoxOk (W : Nat) (bs : List Nat) : Prop where
  n : bs.length ≤ 3
  w : ∀ n ∈ bs, n ≤ W
  p : ∀ i, pr (bs.take i) ≤ 64000
def spPlaces (K : PySem.W.Frag) : Sp := fun vs H Q _ => ∃ (b : Addr) (bs : List Nat) (W : Nat), vs = [.ref b] ∧ SqL K H b (bs.map fun (n : Nat) => V.int n) ∧ BoxOk W bs ∧ W ≤ 1000 ∧
  ∀ p ws ks H', Same H H' → H' p = some (.lst ws) → Pls H' ws ks → ks.length = pr bs → PlaceN W bs ks → Q (.ref p) H'
theorem c__law_places {f : Addr} {fd : FuncData} (D : C8.Def K mg "_law_places" s__law_places f fd) (b : Binds K fd ["_law_box"] []) (T : Bi mg) : C8.Cal P w K mg base 1 "_law_places" (spPlaces K) [] := by
  refine C8.cal0 D b .nil sc__law_places (fun vs H Q E h => ?_) (fun cdv A outer s H vs Q E hr h => ?_)
  · obtain ⟨b, bs, W, rfl, _⟩ := h
    rfl
  · obtain ⟨b, bs, W, rfl, hB, ok, hW0, q⟩ := h
    refine ⟨_, (pss_cons (ps_set (i := 1) sc__law_places.nd rfl (Or.inl rfl) (pe_lst (pa_cons (pe_tup pa_nil) pa_nil)))
  (pss_cons (ps_for PassesOwn.never rfl (pi_list (pv 0)) (pg_name (i := 2) sc__law_places.nd rfl (Or.inl rfl)) (pss_cons (ps_set (i := 3) sc__law_places.nd rfl (Or.inl rfl) (pe_lst pa_nil))
  (pss_cons (ps_for PassesOwn.never rfl (pi_list (pe_callTy call_list_of (by rfl) T.n_list OT.b_list (pa_cons (pv 1) pa_nil))) (pg_name (i := 4) sc__law_places.nd rfl (Or.inl rfl)) (pss_one (ps_for PassesOwn.never rfl (pi_range1 rfl T.n_range (pa_cons (pv 2) pa_nil)) (pg_name (i := 5) sc__law_places.nd rfl (Or.inl rfl)) (pss_one (ps_expr (pe_bm PySem.F.plainAttrs_list PySem.F.slot_list_append PySem.F.type_list_append mt_append (pv 3) (pa_cons (pe_op op_catA (pv 4) (pe_tup (pa_cons (pv 5) pa_nil))) pa_nil)))))))
  (pss_one (ps_set (i := 1) sc__law_places.nd rfl (Or.inl rfl) (pv 3))))))
  (pss_one (ps_ret (pv 1))))), ?_⟩
    refine ⟨(by show 0 ≤ sizeLine; decide), fun t0 nt0 => ⟨(by show 1 ≤ sizeLine; decide), fun p0 np0 => ?_⟩⟩
    have s0 : Same H (upd H t0 (.tup [])) := same_upd nt0
    have s1 : Same (upd H t0 (.tup [])) (upd (upd H t0 (.tup [])) p0 (.lst [.ref t0])) := same_upd np0
    refine ⟨_, rfl, b, rfl, ⟨_, (s0.trans s1).seq hB⟩, ?_⟩
    refine for_list (K := K) (xs := bs.map fun (n : Nat) => V.int n) (fun i σ H2 => ∃ (p : Addr) (ws : List V) (ks : List Pl) (y2 y3 y4 y5 : Option V), σ = [some (.ref b), some (.ref p), y2, y3, y4, y5] ∧ Same H H2 ∧ H2 p = some (.lst ws) ∧ Pls H2 ws ks ∧ ks.length = pr (bs.take i) ∧ PlaceN W (bs.take i) ks) ?_ ?_ ?_ ?_
    · refine ⟨p0, _, [[]], none, none, none, none, rfl, s0.trans s1, upd_same, .cons (s1 _ _ upd_same) .nil, rfl, ⟨fun k hk => ?_, fun k hk x hx => ?_, fun k hk => ?_⟩⟩
      · rw [List.mem_singleton.mp hk]
        rfl
      · rw [List.mem_singleton.mp hk] at hx
        cases hx
      · rw [List.mem_singleton.mp hk]
        intro i x y b hx _ _
        cases hx
    · rintro i σ H2 _ ⟨_, _, _, _, _, _, _, _, sm, _⟩
      exact sm.seq hB
    · rintro i x σ H2 hx ⟨p, ws, ks, y2, y3, y4, y5, rfl, sm, hp, hW, hkl, hN⟩
      obtain ⟨hi, rfl⟩ := getm hx
      have hwi := ok.w _ (List.getElem_mem hi)
      have hpi := ok.p i
      have hpi1 := ok.p (i + 1)
      rw [pr_take hi] at hpi1
      have htk : bs.take (i + 1) = bs.take i ++ [bs[i]] := by
        rw [List.take_add_one, List.getElem?_eq_getElem hi]
        rfl
      have htl : (bs.take i).length = i := by
        rw [List.length_take]
        omega
      rw [htk]
      generalize hbn : bs[i] = n at hwi hpi1 htk ⊢
      rw [← hkl] at hpi hpi1
      have hwl := hW.len
      refine ⟨Nat.zero_le _, fun D nD => ?_⟩
      have s2 : Same H2 (upd H2 D (.lst [])) := same_upd nD
      have hl0 := s2 _ _ hp
      refine ⟨_, rfl, p, ws, rfl, .inl (.inl (.inl hl0)), fun l nl => ?_⟩
      have sl : Same (upd H2 D (.lst [])) (upd (upd H2 D (.lst [])) l (.lst ws)) := same_upd nl
      have nDl : D ≠ l := ne_of_none upd_same nl
      refine ⟨l, rfl, ⟨_, .inl (.inl upd_same)⟩, ?_⟩
      refine for_list (K := K) (a := l) (xs := ws) (fun j σ H3 => ∃ (us : List V) (ls : List Pl) (z4 z5 : Option V), σ = [some (.ref b), some (.ref p), some (.int (n : Int)), some (.ref D), z4, z5] ∧ Same H2 H3 ∧ H3 l = some (.lst ws) ∧ H3 D = some (.lst us) ∧ Pls H3 us ls ∧ ls.length = j * n ∧ PlaceN W (bs.take i ++ [n]) ls) ?_ ?_ ?_ ?_
      · exact ⟨[], [], y4, y5, rfl, s2.trans sl, upd_same, sl _ _ upd_same, .nil, by rw [Nat.zero_mul]; rfl, ⟨fun k hk => (by cases hk), fun k hk => (by cases hk), fun k hk => (by cases hk)⟩⟩
      · rintro j σ H3 _ ⟨_, _, _, _, _, _, hl, _⟩
        exact .inl (.inl hl)
      · rintro j x σ H3 hxj ⟨us, ls, z4, z5, rfl, sm3, hl, hD, hU, hll, hN3⟩
        obtain ⟨a, k, rfl, hkk, hak⟩ := (hW.mono sm3).get hxj
        have hj := (List.getElem?_eq_some_iff.mp hkk).1
        have hkm := List.mem_of_getElem? hkk
        have hjn : (j + 1) * n ≤ ks.length * n := Nat.mul_le_mul_right _ hj
        rw [Nat.succ_mul] at hjn
        refine ⟨_, rfl, _, rfl, by omega, b62 (by omega), ?_⟩
        rw [Int.toNat_natCast]
        refine for_range (lo := 0) (n := n) (fun m σ H4 => ∃ (us : List V) (ls : List Pl) (z5 : Option V), σ = [some (.ref b), some (.ref p), some (.int (n : Int)), some (.ref D), some (.ref a), z5] ∧ Same H2 H4 ∧ H4 l = some (.lst ws) ∧ H4 D = some (.lst us) ∧ Pls H4 us ls ∧ ls.length = j * n + m ∧ PlaceN W (bs.take i ++ [n]) ls) ⟨us, ls, z5, rfl, sm3, hl, hD, hU, hll, hN3⟩ ?_ ?_
        · rintro m σ H4 hm ⟨us, ls, z5, rfl, sm4, hl4, hD4, hU4, hll4, hN4⟩
          have hak4 : H4 a = some (.tup (k.map V.int)) := by
            obtain ⟨a2, k2, e1, e2, e3⟩ := (hW.mono sm4).get hxj
            cases e1
            rw [hkk] at e2
            cases e2
            exact e3
          have hul := hU4.len
          have nl4 : ∀ {o : HO}, upd H4 D o l = H4 l := fun {o} => upd_ne (Ne.symm nDl)
          refine ⟨_, rfl, .inl ⟨rfl, _, .inl (.inl hD4)⟩, _, rfl, _, rfl, (by show 1 ≤ sizeLine; decide), fun t nt => ?_⟩
          have sm5 : Same H4 (upd H4 t (.tup [.int ((0 : Int) + (m : Int))])) := same_upd nt
          have hN5 := hN4.push (hN.l k hkm) (hN.c k hkm) (hN.b k hkm) (show m < W by omega) hm
          have hlen5 : (ls ++ [k ++ [(m : Int)]]).length = j * n + (m + 1) := by
            rw [List.length_append, hll4]
            rfl
          refine ⟨a, t, _, _, rfl, rfl, .inl (.inl (sm5 _ _ hak4)), .inl (.inl upd_same), ?_, fun h0 => ?_, fun _ h => (by cases h), fun _ _ u nu => ?_⟩
          · rw [List.length_map, hN.l k hkm, htl]
            exact Nat.le_of_lt (small1000 (by show i + 1 ≤ 1000; have := ok.n; omega))
          · have hk0 : k = [] := List.map_eq_nil_iff.mp h0
            have hD5 := sm5 _ _ hD4
            refine ⟨D, us, _, rfl, rfl, hD5, small100k (by omega), ?_⟩
            refine ⟨us ++ [.ref t], ls ++ [k ++ [(m : Int)]], _, rfl, same_mut (sm4.trans sm5) nD, ?_, upd_same, ((hU4.mono sm5).app (.cons ?_ .nil)).updL hD5, hlen5, hN5⟩
            · rw [upd_ne (Ne.symm nDl)]
              exact sm5 _ _ hl4
            · rw [upd_same, hk0, Int.zero_add]
              rfl
          · have sm6 : Same (upd H4 t (.tup [.int ((0 : Int) + (m : Int))])) (upd (upd H4 t (.tup [.int ((0 : Int) + (m : Int))])) u (.tup (k.map V.int ++ [.int ((0 : Int) + (m : Int))]))) := same_upd nu
            have sm7 := sm5.trans sm6
            have hD5 := sm7 _ _ hD4
            refine ⟨D, us, _, rfl, rfl, hD5, small100k (by omega), ?_⟩
            refine ⟨us ++ [.ref u], ls ++ [k ++ [(m : Int)]], _, rfl, same_mut (sm4.trans sm7) nD, ?_, upd_same, ((hU4.mono sm7).app (.cons ?_ .nil)).updL hD5, hlen5, hN5⟩
            · rw [upd_ne (Ne.symm nDl)]
              exact sm7 _ _ hl4
            · rw [upd_same, List.map_append, Int.zero_add]
              rfl
        · rintro σ H4 ⟨us, ls, z5, rfl, sm4, hl4, hD4, hU4, hll4, hN4⟩
          exact ⟨us, ls, _, _, rfl, sm4, hl4, hD4, hU4, by rw [hll4, Nat.succ_mul], hN4⟩
      · rintro σ H3 ⟨us, ls, z4, z5, rfl, sm3, hl, hD, hU, hll, hN3⟩
        refine ⟨_, rfl, ?_⟩
        refine ⟨D, us, ls, _, _, _, _, rfl, sm.trans sm3, hD, hU, ?_, hN3⟩
        rw [hll, hwl, hkl, pr_snoc]
    · rintro σ H2 ⟨p, ws, ks, y2, y3, y4, y5, rfl, sm, hp, hW, hkl, hN⟩
      rw [List.length_map] at hkl hN
      rw [List.take_length] at hkl hN
      exact ⟨_, rfl, q p ws ks H2 sm hp hW hkl hN⟩
end
end OT

set_option Elab.async false
set_option linter.all false
set_option maxRecDepth 100000
set_option maxHeartbeats 2000000
namespace OT
open PySem PySem.Spec PyProof.Rows L2
/-- a row that is drawn: at most m places of n coordinates -/
structure DrawnR (n m c u : Nat) (r : List Ent) : Prop where
  v : Valid r
  m : r.length ≤ m
  n : ∀ e ∈ r, e.1.length = n
  c : ∀ e ∈ r, ∀ x ∈ e.1, x.natAbs ≤ c
  u : ∀ e ∈ r, e.2.natAbs ≤ u
/-- within some box of these sizes -/
def Boxed (bs : List Nat) (r : List Ent) : Prop := ∃ o : Pl, o.length = bs.length ∧ ∀ e ∈ r, InN o bs e.1
theorem InN.mov {n : Nat} {bs : List Nat} {k o : Pl} (h : InN (zeros n) bs k) (hk : k.length = o.length) (hn : o.length ≤ n) : InN o bs (plusP k o) := by
  intro i x y b hx hy hb
  have hi := (List.getElem?_eq_some_iff.mp hy).1
  have hik : i < k.length := by omega
  have hip : i < (plusP k o).length := (List.getElem?_eq_some_iff.mp hx).1
  rw [List.getElem?_eq_getElem hip] at hx
  rw [plusP_get hip hik hi] at hx
  have ho : o[i] = y := Option.some.inj ((List.getElem?_eq_getElem hi).symm.trans hy)
  obtain ⟨h1, h2⟩ := h i k[i] 0 b (List.getElem?_eq_getElem hik) (by
    unfold zeros
    rw [List.getElem?_replicate, if_pos (by omega)]) hb
  have := Option.some.inj hx
  omega
section
variable {P : Program} {w : World} {K : PySem.W.Frag} {mg : Str → Option Value} {base : Heap}
def spDrawn (K : PySem.W.Frag) : Sp := fun vs H Q _ => ∃ (c : Int) (b : Addr) (bs : List Nat) (rc mv W : Nat), vs = [.int c, .ref b, .int (rc : Int), .int (mv : Int)] ∧ SqL K H b (bs.map fun (n : Nat) => V.int n) ∧ BoxOk W bs ∧ W ≤ 1000 ∧ 1 ≤ bs.length ∧ pr bs ≤ 900 ∧ rc ≤ 1000 ∧ mv ≤ 100000 ∧
  ∀ p ws r H', Same H H' → H p = none → H' p = some (.lst ws) → Ents H' ws r → DrawnR bs.length (pr bs) (W + mv) (pr bs * rc) r → Boxed bs r → Q (.ref p) H'
theorem rep_get {n : Nat} {z : Int} {i : Nat} (h : i < n) (ys : List Int) : (List.replicate n z ++ ys)[i]? = some z := by
  rw [List.getElem?_append_left (by rw [List.length_replicate]; exact h), List.getElem?_replicate, if_pos h]
theorem rep_get2 {n m : Nat} {y z : Int} {i : Nat} (h : i < m) : (List.replicate n y ++ List.replicate m z)[n + i]? = some z := by
  rw [List.getElem?_append_right (by rw [List.length_replicate]; exact Nat.le_add_right _ _), List.length_replicate, Nat.add_sub_cancel_left, List.getElem?_replicate, if_pos h]
theorem c__law_drawn {f : Addr} {fd : FuncData} (D : C8.Def K mg "_law_drawn" s__law_drawn f fd) (b : Binds K fd ["_law_cell_here", "_law_box", "_law_reach", "_law_moves"] []) (T : Bi mg) (c__law_places : C8.Cal P w K mg base 1 "_law_places" (spPlaces K) []) (c__law_draws : C8.Cal P w K mg base 1 "_law_draws" (spDraws K) [])
    (c__law_row : C8.Cal P w K mg base 1 "_law_row" (spGather K) []) (c__law_moved : C8.Cal P w K mg base 2 "_law_moved" (spMoved K) []) : C8.Cal P w K mg base 3 "_law_drawn" (spDrawn K) [] := by
  refine C8.cal0 D b .nil sc__law_drawn (fun vs H Q E h => ?_) (fun cdv A outer s H vs Q E hr h => ?_)
  · obtain ⟨c, b, bs, rc, mv, W, rfl, _⟩ := h
    rfl
  · obtain ⟨c, b, bs, rc, mv, W, rfl, hB, ok, hW0, hb1, hpr, hrc, hmv, q⟩ := h
    refine ⟨_, (pss_cons (ps_set (i := 4) sc__law_drawn.nd rfl (Or.inr rfl) (C8.pe_c c__law_places hr (by decide) (by rfl) (pa_cons (pv 1) pa_nil)))
  (pss_cons (ps_set (i := 5) sc__law_drawn.nd rfl (Or.inr rfl) (C8.pe_c c__law_draws hr (by decide) (by rfl) (pa_cons (pv 0) (pa_cons (pe_op op_cat (pe_lc (own := [("_law_k", 7)]) (g := (gName 7)) (tt := tYes) rfl sc__law_drawn.nd (pi_list (pv 4)) (blkOk_by (N := ["_law_cell_here", "_law_box", "_law_reach", "_law_moves", "_law_places_here", "_law_draws_here", "_law_by", "_law_k"]) (sc := C8.fnScope s__law_drawn) (by decide +kernel)) (fun _ _ _ _ _ => (pg_name (i := 7) sc__law_drawn.nd rfl (Or.inl rfl))) (fun _ _ _ _ _ => pts_nil) (fun _ _ _ _ _ => (pe_op op_add (pe_op op_mul pe_int (pv 2)) pe_int))) (pe_lc (own := [("_law_k", 7)]) (g := (gName 7)) (tt := tYes) rfl sc__law_drawn.nd (pi_list (pv 1)) (blkOk_by (N := ["_law_cell_here", "_law_box", "_law_reach", "_law_moves", "_law_places_here", "_law_draws_here", "_law_by", "_law_k"]) (sc := C8.fnScope s__law_drawn) (by decide +kernel)) (fun _ _ _ _ _ => (pg_name (i := 7) sc__law_drawn.nd rfl (Or.inl rfl))) (fun _ _ _ _ _ => pts_nil) (fun _ _ _ _ _ => (pe_op op_add (pe_op op_mul pe_int (pv 3)) pe_int)))) pa_nil))))
  (pss_cons (ps_set (i := 6) sc__law_drawn.nd rfl (Or.inl rfl) (pe_callTy call_tuple_of (by rfl) T.n_tuple OT.b_tuple (pa_cons (pe_lc (own := [("_law_k", 7)]) (g := (gName 7)) (tt := tYes) rfl sc__law_drawn.nd (pi_range1 rfl T.n_range (pa_cons (pe_callB call_len_seq (by rfl) T.n_len OT.b_len (pa_cons (pv 1) pa_nil)) pa_nil)) (blkOk_by (N := ["_law_cell_here", "_law_box", "_law_reach", "_law_moves", "_law_places_here", "_law_draws_here", "_law_by", "_law_k"]) (sc := C8.fnScope s__law_drawn) (by decide +kernel)) (fun _ _ _ _ _ => (pg_name (i := 7) sc__law_drawn.nd rfl (Or.inl rfl))) (fun _ _ _ _ _ => pts_nil) (fun _ _ _ _ _ => (pe_op op_sub (pe_ix (show IxR _ (rIxL K) from ix_list) (pv 5) (pe_op op_add (pe_callB (show CallR _ _ (Evl.rLenS K) from call_len_seq) (by rfl) T.n_len OT.b_len (pa_cons (pv 4) pa_nil)) (pv 7)) (fun _ _ => rfl)) (pv 3)))) pa_nil)))
  (pss_one (ps_ret (C8.pe_c c__law_moved hr (by decide) (by rfl) (pa_cons (C8.pe_c c__law_row hr (by decide) (by rfl) (pa_cons (pe_lc (own := [("_law_k", 7)]) (g := (gName 7)) (tt := tYes) rfl sc__law_drawn.nd (pi_range1 rfl T.n_range (pa_cons (pe_callB call_len_seq (by rfl) T.n_len OT.b_len (pa_cons (pv 4) pa_nil)) pa_nil)) (blkOk_by (N := ["_law_cell_here", "_law_box", "_law_reach", "_law_moves", "_law_places_here", "_law_draws_here", "_law_by", "_law_k"]) (sc := C8.fnScope s__law_drawn) (by decide +kernel)) (fun _ _ _ _ _ => (pg_name (i := 7) sc__law_drawn.nd rfl (Or.inl rfl))) (fun _ _ _ _ _ => pts_nil) (fun _ _ _ _ _ => (pe_tup (pa_cons (pe_ix (show IxR _ (rIxL K) from ix_list) (pv 4) (pv 7) (fun _ _ => rfl)) (pa_cons (pe_op op_sub (pe_ix (show IxR _ (rIxL K) from ix_list) (pv 5) (pv 7) (fun _ _ => rfl)) (pv 2)) pa_nil))))) pa_nil)) (pa_cons (pv 6) pa_nil)))))))), ?_⟩
    refine ⟨_, rfl, b, bs, W, rfl, hB, ok, hW0, fun p ws ks H1 sm1 hp hW hkl hN => ?_⟩
    have hS : SqL K H1 p ws := .inl (.inl hp)
    have hwl := hW.len
    have hbn := ok.n
    refine ⟨_, rfl, _, rfl, p, rfl, ⟨_, hS⟩, fun D1 nD1 => ?_⟩
    refine lc_list (K := K) (xs := ws) (fun i H2 => Same H1 H2 ∧ H2 D1 = some (.lst (List.replicate i (V.int (2 * (rc : Int) + 1))))) ⟨same_upd nD1, upd_same⟩ ?_ ?_ ?_
    · rintro i H2 _ ⟨sm, _⟩
      exact sm.seq hS
    · rintro i x H2 hx ⟨sm, hD⟩
      have hi := (List.getElem?_eq_some_iff.mp hx).1
      refine ⟨rfl, tYes_of ?_⟩
      refine ⟨_, rfl, _, _, rfl, rfl, .inl ⟨by decide, by decide⟩, _, _, rfl, rfl, _, hD, ?_, same_mut sm nD1, ?_⟩
      · rw [List.length_replicate]
        exact small1000 (by omega)
      · rw [upd_same, List.replicate_succ']
    rintro H2 ⟨sm2, hD1⟩
    have sA := sm1.trans sm2
    refine ⟨_, rfl, b, rfl, ⟨_, sA.seq hB⟩, fun D2 nD2 => ?_⟩
    refine lc_list (K := K) (xs := bs.map fun (n : Nat) => V.int n) (fun i H3 => Same H2 H3 ∧ H3 D2 = some (.lst (List.replicate i (V.int (2 * (mv : Int) + 1))))) ⟨same_upd nD2, upd_same⟩ ?_ ?_ ?_
    · rintro i H3 _ ⟨sm, _⟩
      exact (sA.trans sm).seq hB
    · rintro i x H3 hx ⟨sm, hD⟩
      have hi := (List.getElem?_eq_some_iff.mp hx).1
      rw [List.length_map] at hi
      refine ⟨rfl, tYes_of ?_⟩
      refine ⟨_, rfl, _, _, rfl, rfl, .inl ⟨by decide, by decide⟩, _, _, rfl, rfl, _, hD, ?_, same_mut sm nD2, ?_⟩
      · rw [List.length_replicate]
        exact small1000 (by omega)
      · rw [upd_same, List.replicate_succ']
    rintro H3 ⟨sm3, hD2⟩
    rw [List.length_map] at hD2
    refine ⟨D1, D2, _, _, rfl, rfl, sm3 _ _ hD1, hD2, ?_, fun p3 np3 => ?_⟩
    · rw [List.length_replicate, List.length_replicate]
      exact Nat.le_of_lt (small1000 (by omega))
    let zs : List Int := List.replicate ws.length (2 * (rc : Int) + 1) ++ List.replicate bs.length (2 * (mv : Int) + 1)
    have hzl : zs.length = ws.length + bs.length := by
      show (_ ++ _ : List Int).length = _
      rw [List.length_append, List.length_replicate, List.length_replicate]
    have hzm : zs.map V.int = List.replicate ws.length (V.int (2 * (rc : Int) + 1)) ++ List.replicate bs.length (V.int (2 * (mv : Int) + 1)) := by
      show (_ ++ _ : List Int).map V.int = _
      rw [List.map_append, List.map_replicate, List.map_replicate]
    have sB := (sA.trans sm3).trans (same_upd (o := .lst (List.replicate ws.length (V.int (2 * (rc : Int) + 1)) ++ List.replicate bs.length (V.int (2 * (mv : Int) + 1)))) np3)
    have sB1 := (sm2.trans sm3).trans (same_upd (o := .lst (List.replicate ws.length (V.int (2 * (rc : Int) + 1)) ++ List.replicate bs.length (V.int (2 * (mv : Int) + 1)))) np3)
    refine ⟨p3, zs, c, rfl, .inl (.inl ?_), by omega, fun z hz => ?_, fun ds H4 p4 hin sm4 np4 hp4 => ?_⟩
    · rw [upd_same, hzm]
    · rcases List.mem_append.mp hz with hz | hz
      · rw [(List.mem_replicate.mp hz).2]
        omega
      · rw [(List.mem_replicate.mp hz).2]
        omega
    have sC := sB.trans sm4
    have sC1 := sB1.trans sm4
    have L4 : SqL K H4 p4 (ds.map V.int) := .inl (.inl hp4)
    refine ⟨_, rfl, b, _, rfl, .inl (sC.seq hB), _, rfl, by omega, b62 (by rw [List.length_map]; omega), fun p5 np5 => ?_⟩
    rw [List.length_map, Int.toNat_natCast]
    refine lc_range (lo := 0) (n := bs.length) (fun i H5 => ∃ ys : List Int, ys.length = i ∧ (∀ y ∈ ys, y.natAbs ≤ mv) ∧ Same H4 H5 ∧ H5 p5 = some (.lst (ys.map V.int))) ⟨[], rfl, fun y hy => (by cases hy), same_upd np5, upd_same⟩ ?_ ?_
    · rintro i H5 hi ⟨ys, hyl, hyb, sm5, hp5⟩
      obtain ⟨d, gd, gda, gdb⟩ := hin.get (i := ws.length + i) (rep_get2 hi)
      refine ⟨rfl, tYes_of ?_⟩
      have hix : atI (ds.map V.int) (((ws.length : Nat) : Int) + ((0 : Int) + (i : Int))) = some (.int d) := by
        rw [show ((ws.length : Nat) : Int) + ((0 : Int) + (i : Int)) = ((ws.length + i : Nat) : Int) by omega]
        exact atI_nat gd
      refine ⟨_, rfl, _, rfl, p, _, rfl, .inl ((sC1.trans sm5).seq hS), _, rfl, _, _, rfl, rfl, p4, _, _, _, rfl, rfl, sm5.seq L4, hix, ?_⟩
      refine ⟨_, rfl, _, _, rfl, rfl, ?_⟩
      refine ⟨_, hp5, ?_, ys ++ [d - (mv : Int)], by rw [List.length_append, hyl]; rfl, fun y hy => ?_, same_mut sm5 np5, ?_⟩
      · rw [List.length_map]
        exact small1000 (by omega)
      · rcases List.mem_append.mp hy with hy | hy
        · exact hyb y hy
        · rw [List.mem_singleton.mp hy]
          omega
      · rw [upd_same, List.map_append]
        rfl
    rintro H5 ⟨ys, hyl, hyb, sm5, hp5⟩
    refine ⟨p5, _, rfl, .inl ⟨.inl (.inl hp5), fun bt nbt => ?_⟩⟩
    have sm6 := sm5.trans (same_upd (o := .tup (ys.map V.int)) nbt)
    have hbt : (upd H5 bt (.tup (ys.map V.int))) bt = some (.tup (ys.map V.int)) := upd_same
    generalize upd H5 bt (.tup (ys.map V.int)) = H6 at sm6 hbt ⊢
    have sD := sC.trans sm6
    have sD1 := sC1.trans sm6
    refine ⟨_, rfl, p, _, rfl, .inl (sD1.seq hS), _, rfl, by omega, b62 (by omega), fun p7 np7 => ?_⟩
    rw [Int.toNat_natCast]
    refine lc_range (lo := 0) (n := ws.length) (fun i H7 => ∃ (us : List V) (es : List Ent), es.length = i ∧ Same H6 H7 ∧ H7 p7 = some (.lst us) ∧ Ents H7 us es ∧ (∀ e ∈ es, e.1 ∈ ks) ∧ ∀ e ∈ es, e.2.natAbs ≤ rc) ⟨[], [], rfl, same_upd np7, upd_same, .nil, fun e he => (by cases he), fun e he => (by cases he)⟩ ?_ ?_
    · rintro i H7 hi ⟨us, es, hel, sm7, hp7, hU, hek, hen⟩
      obtain ⟨d, gd, gda, gdb⟩ := hin.get (i := i) (rep_get hi _)
      have hWs := hW.mono (sD1.trans sm7)
      obtain ⟨a, k, ea, hk, hak⟩ := hWs.get (List.getElem?_eq_getElem hi)
      have hix : atI ws ((0 : Int) + (i : Int)) = some (.ref a) := by
        rw [Int.zero_add, ← ea]
        exact atI_nat (List.getElem?_eq_getElem hi)
      have hid : atI (ds.map V.int) ((0 : Int) + (i : Int)) = some (.int d) := by
        rw [Int.zero_add]
        exact atI_nat gd
      refine ⟨rfl, tYes_of ?_⟩
      refine ⟨_, rfl, _, rfl, p, _, _, _, rfl, rfl, (sD1.trans sm7).seq hS, hix, _, rfl, _, rfl, p4, _, _, _, rfl, rfl, (sm6.trans sm7).seq L4, hid, _, rfl, _, _, rfl, rfl, (by show 2 ≤ sizeLine; decide), fun t nt => ?_⟩
      have smt : Same H7 (upd H7 t (.tup [.ref a, .int (d - (rc : Int))])) := same_upd nt
      have hv : EntAt (upd H7 t (.tup [.ref a, .int (d - (rc : Int))])) (.ref t) (k, d - (rc : Int)) := ⟨t, a, rfl, upd_same, smt _ _ hak⟩
      have hul := hU.len
      refine ⟨us, smt _ _ hp7, small1000 (by omega), us ++ [.ref t], es ++ [(k, d - (rc : Int))], by rw [List.length_append, hel]; rfl, same_mut (sm7.trans smt) np7, upd_same, ((hU.mono smt).app (.cons hv .nil)).updL (smt _ _ hp7), fun e he => ?_, fun e he => ?_⟩
      · rcases List.mem_append.mp he with he | he
        · exact hek e he
        · rw [List.mem_singleton.mp he]
          exact List.mem_of_getElem? hk
      · rcases List.mem_append.mp he with he | he
        · exact hen e he
        · rw [List.mem_singleton.mp he]
          show (d - (rc : Int)).natAbs ≤ rc
          omega
    rintro H7 ⟨us, es, hel, sm7, hp7, hU, hek, hen⟩
    have hel2 : es.length ≤ pr bs := by omega
    refine ⟨p7, us, es, rfl, ⟨.inl (.inl hp7), hU, small1000 (by omega)⟩, fun e he z => ?_, fun r p8 rws H8 hr sm8 np8 hp8 he8 => ?_⟩
    · have := hN.l e.1 (hek e he)
      rw [z] at this
      have h0 : (0 : Nat) = bs.length := this
      omega
    have hrl := hr.len
    have hrk : ∀ e ∈ r, e.1 ∈ ks := fun e he => by
      obtain ⟨x, hx, ex⟩ := hr.mem he
      rw [← ex]
      exact hek x hx
    have hrn := hr.bound hen
    have hle : ∀ e ∈ r, e.1.length ≤ ys.length := fun e he => by
      rw [hN.l _ (hrk e he), hyl]
      exact Nat.le_refl _
    refine ⟨_, rfl, p8, bt, rws, r, ys, rfl, ⟨.inl (.inl hp8), he8, small1000 (by omega)⟩, .inl (.inl ((sm7.trans sm8) _ _ hbt)), hle, by omega, fun p9 ws9 H9 sm9 np9 hp9 he9 => ?_⟩
    have sZ := sD.trans (sm7.trans sm8)
    refine q p9 ws9 (movL r ys) H9 (sZ.trans sm9) ?_ hp9 he9 ⟨movL_valid hr.v hle, ?_, fun e he => ?_, fun e he x hx => ?_, fun e he => ?_⟩ ⟨ys, hyl, fun e he => ?_⟩
    · cases z : H p9 with
      | none => rfl
      | some o =>
        rw [sZ _ _ z] at np9
        cases np9
    · unfold movL
      rw [List.length_map]
      omega
    · obtain ⟨y, hy, rfl⟩ := List.mem_map.mp he
      show (plusP y.1 ys).length = _
      rw [plusP_len (hle y hy)]
      exact hN.l _ (hrk y hy)
    · obtain ⟨y, hy, rfl⟩ := List.mem_map.mp he
      obtain ⟨a, ha, b2, hb2, rfl⟩ := plusP_mem hx
      have h1 := hN.c _ (hrk y hy) a ha
      have h2 := hyb b2 hb2
      omega
    · obtain ⟨y, hy, rfl⟩ := List.mem_map.mp he
      exact Nat.le_trans (hrn y hy) (Nat.mul_le_mul_right _ hel2)
    · obtain ⟨y, hy, rfl⟩ := List.mem_map.mp he
      exact (hN.b _ (hrk y hy)).mov (by rw [hN.l _ (hrk y hy), hyl]) (by rw [hyl]; exact Nat.le_refl _)
end
end OT

set_option Elab.async false
set_option linter.all false
set_option maxRecDepth 100000
set_option maxHeartbeats 2000000
namespace OT
open PySem PySem.Spec PyProof.Rows L2
def negP (k : Pl) : Pl := k.map fun x => -x
theorem negP_len (k : Pl) : (negP k).length = k.length := List.length_map _
def scaleL (es : List Ent) (f : Int) : List Ent := es.map fun e => (e.1, e.2 * f)
def mirL (es : List Ent) : List Ent := es.map fun e => (negP e.1, e.2)
section
variable {P : Program} {w : World} {K : PySem.W.Frag} {mg : Str → Option Value} {base : Heap}
def spBack (K : PySem.W.Frag) : Sp := fun vs H Q _ => ∃ (a : Addr) (ns : Pl), vs = [.ref a] ∧ SqT K H a (ns.map V.int) ∧ ns.length ≤ 1000 ∧ ∀ p H', Same H H' → H' p = some (.tup ((negP ns).map V.int)) → Q (.ref p) H'
theorem c__law_back {f : Addr} {fd : FuncData} (D : C8.Def K mg "_law_back" s__law_back f fd) (b : Binds K fd ["_law_place"] []) (T : Bi mg) : C8.Cal P w K mg base 1 "_law_back" (spBack K) [] := by
  refine C8.cal0 D b .nil sc__law_back (fun vs H Q E h => ?_) (fun cdv A outer s H vs Q E hr h => ?_)
  · obtain ⟨a, ns, rfl, _⟩ := h
    rfl
  · obtain ⟨a, ns, rfl, hS, hl, q⟩ := h
    refine ⟨_, (pss_one (ps_ret (pe_callTy call_tuple_of (by rfl) T.n_tuple OT.b_tuple (pa_cons (pe_lc (own := [("_law_x", 1)]) (g := (gName 1)) (tt := tYes) rfl sc__law_back.nd (pi_tup (pv 0)) (blkOk_by (N := ["_law_place", "_law_x"]) (sc := C8.fnScope s__law_back) (by decide +kernel)) (fun _ _ _ _ _ => (pg_name (i := 1) sc__law_back.nd rfl (Or.inl rfl))) (fun _ _ _ _ _ => pts_nil) (fun _ _ _ _ _ => (pe_un un_neg (pv 1)))) pa_nil)))), ?_⟩
    refine ⟨_, rfl, a, rfl, ⟨_, hS⟩, fun p np => ?_⟩
    refine lc_tup (K := K) (xs := ns.map V.int) (fun i H2 => Same H H2 ∧ H2 p = some (.lst ((ns.take i).map fun n => V.int (-n)))) ?_ ?_ ?_ ?_
    · exact ⟨same_upd np, upd_same⟩
    · rintro i H2 _ ⟨sm, _⟩
      exact same_t sm hS
    · rintro i x H2 hx ⟨sm, hp⟩
      obtain ⟨hi, rfl⟩ := getm hx
      refine ⟨rfl, tYes_of ?_⟩
      refine ⟨_, rfl, _, rfl, _, hp, ?_, same_mut sm np, ?_⟩
      · rw [List.length_map, List.length_take]
        exact small1000 (by omega)
      · rw [upd_same, take_map_succ (fun n => V.int (-n)) hi]
    · rintro H2 ⟨sm, hp⟩
      rw [List.length_map, List.take_length] at hp
      refine ⟨p, _, rfl, .inl ⟨.inl (.inl hp), fun l nl => ?_⟩⟩
      refine q l _ (sm.trans (same_upd nl)) ?_
      rw [upd_same]
      unfold negP
      rw [List.map_map]
      rfl
/-- a list of entries of places that are not empty -/
structure Lst (H : Hp) (a : Addr) (xs : List V) (es : List Ent) : Prop where
  l : H a = some (.lst xs)
  e : Ents H xs es
  z : es.length ≤ 1000
  p : ∀ e ∈ es, e.1 ≠ []
theorem Lst.mono {H H' : Hp} {a : Addr} {xs : List V} {es : List Ent} (s : Same H H') (h : Lst H a xs es) : Lst H' a xs es := ⟨s _ _ h.l, h.e.mono s, h.z, h.p⟩
theorem wantRow.mono {H H2 : Hp} {es : List Ent} {Q : VK} (sm : Same H H2) (q : wantRow H es Q) : wantRow H2 es Q := by
  intro r p ws H3 hr sm3 np hp he
  refine q r p ws H3 hr (sm.trans sm3) ?_ hp he
  cases z : H p with
  | none => rfl
  | some o =>
    rw [sm _ _ z] at np
    cases np
def spScaled : Sp := fun vs H Q _ => ∃ (a : Addr) (xs : List V) (es : List Ent) (m : Int), vs = [.ref a, .int m] ∧ Lst H a xs es ∧ (-(2 ^ 64) < m ∧ m < 2 ^ 64) ∧ wantRow H (scaleL es m) Q
theorem take_snoc {es : List Ent} {i : Nat} {e : Ent} (h : es[i]? = some e) : es.take (i + 1) = es.take i ++ [e] := by
  rw [List.take_add_one, h]
  rfl
theorem c__law_scaled {f : Addr} {fd : FuncData} (D : C8.Def K mg "_law_scaled" s__law_scaled f fd) (b : Binds K fd ["_law_row_here", "_law_factor"] []) (T : Bi mg) (c__law_row : C8.Cal P w K mg base 1 "_law_row" (spGather K) []) : C8.Cal P w K mg base 2 "_law_scaled" spScaled [] := by
  refine C8.cal0 D b .nil sc__law_scaled (fun vs H Q E h => ?_) (fun cdv A outer s H vs Q E hr h => ?_)
  · obtain ⟨a, xs, es, m, rfl, _⟩ := h
    rfl
  · obtain ⟨a, xs, es, m, rfl, hA, hm, q⟩ := h
    refine ⟨_, (pss_one (ps_ret (C8.pe_c c__law_row hr (by decide) (by rfl) (pa_cons (pe_lc (own := [("_law_entry", 2)]) (g := (gName 2)) (tt := tYes) rfl sc__law_scaled.nd (pi_list (pv 0)) (blkOk_by (N := ["_law_row_here", "_law_factor", "_law_entry"]) (sc := C8.fnScope s__law_scaled) (by decide +kernel)) (fun _ _ _ _ _ => (pg_name (i := 2) sc__law_scaled.nd rfl (Or.inl rfl))) (fun _ _ _ _ _ => pts_nil) (fun _ _ _ _ _ => (pe_tup (pa_cons (pe_ix (show IxR _ (rIxT K) from ix_tup) (pv 2) pe_int (fun _ _ => rfl)) (pa_cons (pe_op op_mul (pe_ix (show IxR _ (rIxT K) from ix_tup) (pv 2) pe_int (fun _ _ => rfl)) (pv 1)) pa_nil))))) pa_nil)))), ?_⟩
    have hS : SqL K H a xs := .inl (.inl hA.l)
    have hx := hA.e.len
    have hz := hA.z
    refine ⟨_, rfl, a, rfl, ⟨_, hS⟩, fun p np => ?_⟩
    refine lc_list (K := K) (xs := xs) (fun i H2 => Same H H2 ∧ ∃ ws, H2 p = some (.lst ws) ∧ Ents H2 ws (scaleL (es.take i) m)) ?_ ?_ ?_ ?_
    · exact ⟨same_upd np, [], upd_same, .nil⟩
    · rintro i H2 _ ⟨sm, _⟩
      exact sm.seq hS
    · rintro i x H2 hxi ⟨sm, ws, hp, hW⟩
      obtain ⟨e, he, t, pe, rfl, ht, hpe⟩ := (hA.e.mono sm).get hxi
      obtain ⟨hi, hee⟩ := List.getElem?_eq_some_iff.mp he
      have hT : SqT K H2 t [.ref pe, .int e.2] := .inl (.inl ht)
      refine ⟨rfl, tYes_of ?_⟩
      refine ⟨_, rfl, t, _, 0, _, rfl, rfl, hT, atI_nat (j := 0) rfl, _, rfl, t, _, 1, _, rfl, rfl, hT, atI_nat (j := 1) rfl, _, rfl, _, _, rfl, rfl, .inr hm, (by show 2 ≤ sizeLine; decide), fun t4 nt4 => ?_⟩
      have sm4 : Same H2 (upd H2 t4 (.tup [.ref pe, .int (e.2 * m)])) := same_upd nt4
      have hv : EntAt (upd H2 t4 (.tup [.ref pe, .int (e.2 * m)])) (.ref t4) (e.1, e.2 * m) := ⟨t4, pe, rfl, upd_same, sm4 _ _ hpe⟩
      have hD := sm4 _ _ hp
      have hwl := hW.len
      refine ⟨ws, hD, ?_, same_mut (sm.trans sm4) np, ws ++ [.ref t4], upd_same, ?_⟩
      · unfold scaleL at hwl
        rw [List.length_map, List.length_take] at hwl
        exact small100k (by omega)
      · unfold scaleL
        rw [take_snoc he, List.map_append]
        exact ((hW.mono sm4).app (.cons hv .nil)).updL hD
    · rintro H2 ⟨sm, ws, hp, hW⟩
      rw [hx, List.take_length] at hW
      refine ⟨p, ws, scaleL es m, rfl, ⟨.inl (.inl hp), hW, by unfold scaleL; rw [List.length_map]; exact small100k (by omega)⟩, fun e he => ?_, q.mono sm⟩
      obtain ⟨y, hy, rfl⟩ := List.mem_map.mp he
      exact hA.p y hy
end
end OT

set_option Elab.async false
set_option linter.all false
set_option maxRecDepth 100000
set_option maxHeartbeats 2000000
namespace OT
open PySem PySem.Spec PyProof.Rows L2
/-! mirrors and normal rows: the program's road and the law's lead to the same row -/
theorem RowIs.self {r : List Ent} (h : Valid r) : RowIs r r := ⟨h, fun _ => rfl⟩
theorem negP_lt : ∀ {a b : Pl}, a.length = b.length → HT.lexLt (negP b) (negP a) = HT.lexLt a b
  | [], [], _ => rfl
  | x :: a, y :: b, h => by
    show (if -y = -x then HT.lexLt (negP b) (negP a) else decide (-y < -x)) = if x = y then HT.lexLt a b else decide (x < y)
    rw [negP_lt (Nat.succ.inj h)]
    by_cases e : x = y
    · rw [if_pos e, if_pos (by rw [e])]
    · rw [if_neg e, if_neg (by omega)]
      by_cases c : x < y
      · rw [decide_eq_true c, decide_eq_true (by omega)]
      · rw [decide_eq_false c, decide_eq_false (by omega)]
theorem numAt_rev (es : List Ent) (q : Pl) : numAt es.reverse q = numAt es q := by
  induction es with
  | nil => rfl
  | cons e r ih =>
    rw [List.reverse_cons, numAt_app, ih]
    show numAt r q + ((if e.1 = q then e.2 else 0) + 0) = (if e.1 = q then e.2 else 0) + numAt r q
    omega
/-- the program's mirror -/
def mirP (es : List Ent) : List Ent := es.reverse.map fun e => (negP e.1, e.2)
theorem mirP_valid {es : List Ent} {n : Nat} (h : Valid es) (hn : ∀ e ∈ es, e.1.length = n) : Valid (mirP es) := by
  unfold mirP
  refine ⟨?_, fun e he => ?_⟩
  · rw [List.pairwise_map, List.pairwise_reverse]
    refine List.Pairwise.imp_of_mem (fun {x y} hx hy q => ?_) h.asc
    rw [negP_lt ((hn x hx).trans (hn y hy).symm)]
    exact q
  · obtain ⟨y, hy, rfl⟩ := List.mem_map.mp he
    exact h.nz y (List.mem_reverse.mp hy)
theorem mirP_is {es : List Ent} {n : Nat} (h : Valid es) (hn : ∀ e ∈ es, e.1.length = n) : RowIs (mirP es) (mirL es) := by
  refine ⟨mirP_valid h hn, fun q => ?_⟩
  have e : mirP es = (mirL es).reverse := by
    unfold mirP mirL
    rw [List.map_reverse]
  rw [e, numAt_rev]
/-- the dimension of a row -/
def dimE : List Ent → Nat
  | [] => 0
  | e :: _ => e.1.length
section
variable {P : Program} {w : World} {K : PySem.W.Frag} {mg : Str → Option Value} {base : Heap}
def spPLen (K : PySem.W.Frag) : Sp := fun vs H Q _ => ∃ (a : Addr) (xs : List V) (es : List Ent), vs = [.ref a] ∧ SqL K H a xs ∧ Ents H xs es ∧ Q (.int (dimE es : Nat)) H
theorem c_places_length {f : Addr} {fd : FuncData} (D : C8.Def K mg "places_length" s_places_length f fd) (b : Binds K fd ["row"] []) (T : Bi mg) : C8.Cal P w K mg base 1 "places_length" (spPLen K) [] := by
  refine C8.cal0 D b .nil sc_places_length (fun vs H Q E h => ?_) (fun cdv A outer s H vs Q E hr h => ?_)
  · obtain ⟨a, xs, es, rfl, _⟩ := h
    rfl
  · obtain ⟨a, xs, es, rfl, hS, hE, q⟩ := h
    refine ⟨_, (pss_one (ps_ret (pe_ifExp (pt_truth (pv 0) (by intro _; rfl)) (pe_callB call_len_seq (by rfl) T.n_len OT.b_len (pa_cons (pe_ix ix_tup (pe_ix ix_list (pv 0) pe_int (fun _ _ => rfl)) pe_int (fun _ _ => rfl)) pa_nil)) pe_int))), ?_⟩
    refine ⟨_, rfl, _, .inl ⟨xs, hS, rfl⟩, ?_⟩
    cases hE with
    | nil =>
      refine iteF ?_
      exact q
    | cons h1 h2 =>
      rename_i v e vs es
      obtain ⟨t, p, rfl, ht, hp⟩ := h1
      refine iteT ?_
      refine ⟨_, rfl, a, _, 0, _, rfl, rfl, hS, atI_nat (j := 0) rfl, t, _, 0, _, rfl, rfl, .inl (.inl ht), atI_nat (j := 0) rfl, p, _, rfl, .inr (.inl (.inl hp)), ?_⟩
      rw [List.length_map]
      exact q
end
end OT

set_option Elab.async false
set_option linter.all false
set_option maxRecDepth 100000
set_option maxHeartbeats 2000000
namespace OT
open PySem PySem.Spec PyProof.Rows L2
/-- some length is another than the first one -/
def mixL (ns : List Int) : Bool := (ns.map fun m => !decide (V.int m = V.int (ns.headD 0))).any id
def nz (n : Int) : Bool := decide (n ≠ 0)
section
variable {P : Program} {w : World} {K : PySem.W.Frag} {mg : Str → Option Value} {base : Heap}
/-! ### the errors' own __init__ -/
theorem ok_te {f : Addr} {fd : FuncData} (F : C8.Fun K "__init__" "TableError.__init__" s_TableError___init__ f fd) : FnOk P w K mg base L2.CX0 1 f fd ["self"] (spTE K) := by
  refine C8.fn0 F sc_TableError___init__ (fun vs H Q E h => ?_) (fun cdv A outer s H vs Q E hr h => ?_)
  · obtain ⟨a, C, nm, rfl, _⟩ := h
    rfl
  · obtain ⟨a, C, nm, rfl, ha, T, k⟩ := h
    refine ⟨_, pss_one (ps_ost (pv 0) (pe_otname (pv 0))), ?_⟩
    exact ⟨_, rfl, a, C, nm, rfl, ha, T.oc, T.on, _, rfl, a, C, rfl, T.ox, T.nw, Or.inl ⟨ha, fun d nd ne => k d nd ne⟩⟩
/-- what is known of an error of a class that tells an index -/
structure ErrI (K : PySem.W.Frag) (mg : Str → Option Value) (nm : Str) (C fI : Addr) : Prop where
  g : mg nm = some (.ref C)
  t : OtErr K C nm
  i : PySem.W.findIn K (.ref C) "__init__" = some (some (.ref fI))
  ty : PySem.W.typeIn K (.ref fI) = some (.type "function")
def errM : List (Str × V) := [("word", .str "MixedDimensions")]
def spSL (K : PySem.W.Frag) (M : Addr) : Sp := fun vs H Q E => ∃ (a : Addr) (ns : List Int), vs = [.ref a] ∧ SqL K H a (ns.map V.int) ∧ ns.length ≤ 100000 ∧
  (mixL (ns.filter nz) = true → ∀ d H', Same H H' → H' d = some (.xd errM) → E (.ref M) (some d) H') ∧ (mixL (ns.filter nz) = false → ∀ H', Same H H' → Q .non H')
theorem ok_same_lengths {f M fB : Addr} {fd fdB : FuncData} (D : C8.Def K mg "same_lengths" s_same_lengths f fd) (T : Bi mg) (X : ErrI K mg "MixedDimensions" M fB) (GB : FnOk P w K mg base L2.CX0 1 fB fdB ["self"] (spTE K)) (bB : Binds K fdB ["self"] []) :
    FnOk P w K mg base (L2.CX P w) 3 f fd ["lengths"] (spSL K M) := by
  obtain ⟨oc, od, dV, kV, doc, pm, an, cdv, ct, osl, rfl, lk, hcd⟩ := D.fn.ex
  refine fn_of lk hcd sc_same_lengths (fun vs H Q E h => ?_) fun A outer s H vs Q E hr h => ?_
  · obtain ⟨a, ns, rfl, _⟩ := h
    rfl
  · obtain ⟨a, ns, rfl, hS, hz, qE, qN⟩ := h
    refine ⟨_, (pss_cons (ps_set (i := 1) sc_same_lengths.nd rfl (Or.inr rfl) (pe_lc (own := [("length", 2)]) (g := (gName 2)) rfl sc_same_lengths.nd (pi_list (pv 0)) (blkOk_by (N := ["lengths", "known", "length"]) (sc := C8.fnScope s_same_lengths) (by decide +kernel)) (fun _ _ _ _ _ => (pg_name (i := 2) sc_same_lengths.nd rfl (Or.inl rfl))) (fun _ _ _ _ _ => (pts_one (pt_cmpR op_ne (pv 2) pe_int (nomark _)))) (fun _ _ _ _ _ => (pv 2))))
  (pss_one (ps_if (pt_val (pe_callB (cr_any rfl) (by rfl) T.n_any OT.b_any (pa_cons (pe_lc (own := [("length", 2)]) (g := (gName 2)) (tt := tYes) rfl sc_same_lengths.nd (pi_list (pv 1)) (blkOk_by (N := ["lengths", "known", "length"]) (sc := C8.fnScope s_same_lengths) (by decide +kernel)) (fun _ _ _ _ _ => (pg_name (i := 2) sc_same_lengths.nd rfl (Or.inl rfl))) (fun _ _ _ _ _ => pts_nil) (fun _ _ _ _ _ => (pe_cmpR op_ne (pv 2) (pe_ix (show IxR _ (rIxL K) from ix_list) (pv 1) pe_int (fun _ _ => rfl)) (nomark _)))) pa_nil))) (pss_one (ps_raise rfl (takes_of rfl rfl rfl rfl) (pmk_oex0 X.t.ox X.i X.ty GB hr bB pass0 (by rfl) X.g))) pss_nil))), ?_⟩
    refine ⟨_, rfl, a, rfl, ⟨_, hS⟩, fun p np => ?_⟩
    refine lc_list (K := K) (xs := ns.map V.int) (fun i H2 => Same H H2 ∧ H2 p = some (.lst (((ns.take i).filter nz).map V.int))) ?_ ?_ ?_ ?_
    · exact ⟨same_upd np, upd_same⟩
    · rintro i H2 _ ⟨sm, _⟩
      exact sm.seq hS
    · rintro i x H2 hx ⟨sm, hp⟩
      obtain ⟨hi, rfl⟩ := getm hx
      have htk : (ns.take (i + 1)).filter nz = (ns.take i).filter nz ++ (if nz ns[i] = true then [ns[i]] else []) := by
        rw [List.take_add_one, List.getElem?_eq_getElem hi, List.filter_append]
        show _ ++ (match nz ns[i] with | true => [ns[i]] | false => []) = _
        cases nz ns[i] <;> rfl
      refine ⟨rfl, _, rfl, rfl, _, rfl, iteND (fun hn => ?_) (fun h0 => ?_)⟩
      · have hnz : nz ns[i] = true := decide_eq_true fun z => hn (by rw [z])
        rw [htk, if_pos hnz]
        refine ⟨_, rfl, _, hp, ?_, same_mut sm np, ?_⟩
        · rw [List.length_map]
          have h1 := List.length_filter_le nz (ns.take i)
          rw [List.length_take] at h1
          exact Nat.lt_of_le_of_lt (show _ ≤ 100000 by omega) (by decide)
        · rw [upd_same, List.map_append]
          rfl
      · have hnz : ¬ nz ns[i] = true := fun z => of_decide_eq_true z (V.int.inj h0)
        rw [htk, if_neg hnz, List.append_nil]
        exact ⟨sm, hp⟩
    · rintro H2 ⟨sm, hp⟩
      rw [List.length_map, List.take_length] at hp
      have hz : (ns.filter nz).length ≤ 100000 := Nat.le_trans (List.length_filter_le _ _) hz
      generalize ns.filter nz = ns at hp hz qE qN
      have hP : SqL K H2 p (ns.map V.int) := .inl (.inl hp)
      refine ⟨_, rfl, p, rfl, ⟨_, hP⟩, fun p2 np2 => ?_⟩
      refine lc_list (K := K) (xs := ns.map V.int) (fun i H3 => Same H2 H3 ∧ H3 p2 = some (.lst ((ns.take i).map fun m => V.bl (!decide (V.int m = V.int (ns.headD 0)))))) ?_ ?_ ?_ ?_
      · exact ⟨same_upd np2, upd_same⟩
      · rintro i H3 _ ⟨sm3, _⟩
        exact sm3.seq hP
      · rintro i x H3 hx ⟨sm3, hp3⟩
        obtain ⟨hi, rfl⟩ := getm hx
        have h0 : (ns.map V.int)[0]? = some (.int (ns.headD 0)) := by
          cases ns with
          | nil => exact absurd hi (Nat.not_lt_zero _)
          | cons n r => rfl
        refine ⟨rfl, tYes_of ?_⟩
        refine ⟨_, rfl, _, rfl, p, _, 0, _, rfl, rfl, sm3.seq hP, atI_nat (j := 0) h0, rfl, _, hp3, ?_, same_mut sm3 np2, ?_⟩
        · rw [List.length_map, List.length_take]
          exact Nat.lt_of_le_of_lt (show min i ns.length ≤ 100000 by omega) (by decide)
        · rw [upd_same, take_map_succ (fun m => V.bl (!decide (V.int m = V.int (ns.headD 0)))) hi]
      · rintro H3 ⟨sm3, hp3⟩
        rw [List.length_map, List.take_length] at hp3
        have sA := sm.trans sm3
        refine ⟨p2, ns.map fun m => !decide (V.int m = V.int (ns.headD 0)), rfl, .inl (.inl ?_), _, rfl, ?_⟩
        · rw [hp3, List.map_map]
          rfl
        show if mixL ns = true then _ else _
        cases e : mixL ns with
        | true =>
          refine iteT ?_
          refine ⟨(by show 0 ≤ 1000; decide), fun a na => ⟨a, M, _, rfl, upd_same, X.t, fun d nd ne => ?_⟩⟩
          have nd3 : H3 d = none := by
            rw [upd_ne ne] at nd
            exact nd
          refine ⟨rfl, d, _, upd_same, ?_, nd3, qE e d _ ?_ upd_same⟩
          · rw [upd_ne ne, upd_same]
            rfl
          · intro b o hb
            have hb2 := sA b o hb
            have nba : b ≠ a := ne_of_none hb2 na
            have nbd : b ≠ d := ne_of_none hb2 nd3
            rw [upd_ne nbd, del_ne nba, upd_ne nba, upd_ne nbd, upd_ne nba]
            exact hb2
        | false =>
          refine iteF ?_
          exact qN e H3 sA
end
end OT

set_option Elab.async false
set_option linter.all false
set_option maxRecDepth 100000
set_option maxHeartbeats 2000000
namespace OT
open PySem PySem.Spec PyProof.Rows L2
/-- rows at addresses, in turn -/
inductive RowsAt (H : Hp) : List V → List (List Ent) → Prop
  | nil : RowsAt H [] []
  | cons {a : Addr} {xs : List V} {es : List Ent} {vs : List V} {ess : List (List Ent)} : H a = some (.lst xs) → Ents H xs es → RowsAt H vs ess → RowsAt H (.ref a :: vs) (es :: ess)
theorem RowsAt.len {H : Hp} {vs : List V} {ess : List (List Ent)} (h : RowsAt H vs ess) : vs.length = ess.length := by
  induction h with
  | nil => rfl
  | cons _ _ _ ih => rw [List.length_cons, List.length_cons, ih]
theorem RowsAt.mono {H H' : Hp} {vs : List V} {ess : List (List Ent)} (s : ∀ b o, H b = some o → H' b = some o) (h : RowsAt H vs ess) : RowsAt H' vs ess := by
  induction h with
  | nil => exact .nil
  | cons h1 h2 _ ih => exact .cons (s _ _ h1) (h2.mono s) ih
theorem RowsAt.get {H : Hp} {vs : List V} {ess : List (List Ent)} (h : RowsAt H vs ess) : ∀ {i : Nat} {v : V}, vs[i]? = some v → ∃ a xs es, v = .ref a ∧ ess[i]? = some es ∧ H a = some (.lst xs) ∧ Ents H xs es := by
  induction h with
  | nil => intro i v h; simp at h
  | cons h1 h2 _ ih =>
    intro i v hv
    cases i with
    | zero =>
      cases hv
      exact ⟨_, _, _, rfl, rfl, h1, h2⟩
    | succ i => exact ih (i := i) hv
def dims (ess : List (List Ent)) : List Int := ess.map fun es => ((dimE es : Nat) : Int)
def plens (ks : List Pl) : List Int := ks.map fun k => (k.length : Int)
theorem dims_snoc {ess : List (List Ent)} {i : Nat} {es : List Ent} (h : ess[i]? = some es) : (dims (ess.take (i + 1))).map V.int = (dims (ess.take i)).map V.int ++ [V.int ((dimE es : Nat) : Int)] := by
  rw [List.take_add_one, h]
  unfold dims
  rw [List.map_append, List.map_append]
  rfl
theorem plens_snoc {ks : List Pl} {i : Nat} {k : Pl} (h : ks[i]? = some k) : (plens (ks.take (i + 1))).map V.int = (plens (ks.take i)).map V.int ++ [V.int (k.length : Int)] := by
  rw [List.take_add_one, h]
  unfold plens
  rw [List.map_append, List.map_append]
  rfl
section
variable {P : Program} {w : World} {K : PySem.W.Frag} {mg : Str → Option Value} {base : Heap}
def spSD (K : PySem.W.Frag) (M : Addr) : Sp := fun vs H Q E => ∃ (a b : Addr) (us ws : List V) (ess : List (List Ent)) (ks : List Pl), vs = [.ref a, .ref b] ∧ SqL K H a us ∧ RowsAt H us ess ∧ SqL K H b ws ∧ Pls H ws ks ∧ ess.length ≤ 1000 ∧ ks.length ≤ 1000 ∧
  (mixL ((dims ess ++ plens ks).filter nz) = true → ∀ d H', Same H H' → H' d = some (.xd errM) → E (.ref M) (some d) H') ∧ (mixL ((dims ess ++ plens ks).filter nz) = false → ∀ H', Same H H' → Q .non H')
theorem ok_same_dimension {f M fS : Addr} {fd fdS : FuncData} (D : C8.Def K mg "same_dimension" s_same_dimension f fd) (T : Bi mg) (DS : C8.Def K mg "same_lengths" s_same_lengths fS fdS) (bS : Binds K fdS ["lengths"] []) (GS : FnOk P w K mg base (L2.CX P w) 3 fS fdS ["lengths"] (spSL K M))
    (c_places_length : C8.Cal P w K mg base 1 "places_length" (spPLen K) []) : FnOk P w K mg base (L2.CX P w) 4 f fd ["rows", "places"] (spSD K M) := by
  obtain ⟨oc, od, dV, kV, doc, pm, an, cdv, ct, osl, rfl, lk, hcd⟩ := D.fn.ex
  refine fn_of lk hcd sc_same_dimension (fun vs H Q E h => ?_) fun A outer s H vs Q E hr h => ?_
  · obtain ⟨a, b, us, ws, ess, ks, rfl, _⟩ := h
    rfl
  · obtain ⟨a, b, us, ws, ess, ks, rfl, ha, hR, hb, hP, z1, z2, qE, qN⟩ := h
    refine ⟨_, (pss_one (ps_expr (pe_callS GS hr rfl DS.mgf DS.kp bS (fun σ => passAt (takes_of rfl rfl rfl rfl) σ) (pa_cons (pe_op op_cat (pe_lc (own := [("row", 2)]) (g := (gName 2)) (tt := tYes) rfl sc_same_dimension.nd (pi_list (pv 0)) (blkOk_by (N := ["rows", "places", "row", "place"]) (sc := C8.fnScope s_same_dimension) (by decide +kernel)) (fun _ _ _ _ _ => (pg_name (i := 2) sc_same_dimension.nd rfl (Or.inl rfl))) (fun _ _ _ _ _ => pts_nil) (fun _ _ _ _ _ => (C8.pe_c c_places_length hr (by decide) (by rfl) (pa_cons (pv 2) pa_nil)))) (pe_lc (own := [("place", 3)]) (g := (gName 3)) (tt := tYes) rfl sc_same_dimension.nd (pi_list (pv 1)) (blkOk_by (N := ["rows", "places", "row", "place"]) (sc := C8.fnScope s_same_dimension) (by decide +kernel)) (fun _ _ _ _ _ => (pg_name (i := 3) sc_same_dimension.nd rfl (Or.inl rfl))) (fun _ _ _ _ _ => pts_nil) (fun _ _ _ _ _ => (pe_callB (show CallR _ _ (Evl.rLenS K) from call_len_seq) (by rfl) T.n_len OT.b_len (pa_cons (pv 3) pa_nil))))) pa_nil)))), ?_⟩
    have l1 := hR.len
    have l2 := hP.len
    refine ⟨_, rfl, a, rfl, ⟨_, ha⟩, fun p np => ?_⟩
    refine lc_list (K := K) (xs := us) (fun i H2 => Same H H2 ∧ H2 p = some (.lst ((dims (ess.take i)).map V.int))) ?_ ?_ ?_ ?_
    · exact ⟨same_upd np, upd_same⟩
    · rintro i H2 _ ⟨sm, _⟩
      exact sm.seq ha
    · rintro i x H2 hx ⟨sm, hp⟩
      obtain ⟨a1, xs, es, rfl, he, h1, h2⟩ := (hR.mono sm).get hx
      have hi := (List.getElem?_eq_some_iff.mp he).1
      refine ⟨rfl, tYes_of ?_⟩
      refine ⟨_, rfl, a1, xs, es, rfl, .inl (.inl h1), h2, _, hp, ?_, same_mut sm np, ?_⟩
      · unfold dims
        rw [List.length_map, List.length_map, List.length_take]
        exact small1000 (by omega)
      · rw [upd_same, dims_snoc he]
    · rintro H2 ⟨sm2, hp⟩
      rw [l1, List.take_length] at hp
      refine ⟨_, rfl, b, rfl, ⟨_, sm2.seq hb⟩, fun p3 np3 => ?_⟩
      refine lc_list (K := K) (xs := ws) (fun i H3 => Same H2 H3 ∧ H3 p3 = some (.lst ((plens (ks.take i)).map V.int))) ?_ ?_ ?_ ?_
      · exact ⟨same_upd np3, upd_same⟩
      · rintro i H3 _ ⟨sm, _⟩
        exact (sm2.trans sm).seq hb
      · rintro i x H3 hx ⟨sm, hp3⟩
        obtain ⟨q3, k, rfl, hk, hq3⟩ := (hP.mono (sm2.trans sm)).get hx
        have hi := (List.getElem?_eq_some_iff.mp hk).1
        refine ⟨rfl, tYes_of ?_⟩
        refine ⟨_, rfl, q3, _, rfl, .inr (.inl (.inl hq3)), _, hp3, ?_, same_mut sm np3, ?_⟩
        · unfold plens
          rw [List.length_map, List.length_map, List.length_take]
          exact small1000 (by omega)
        · rw [upd_same, plens_snoc hk, List.length_map]
      · rintro H3 ⟨sm3, hp3⟩
        rw [l2, List.take_length] at hp3
        have sA := sm2.trans sm3
        have d1 : (dims ess).length = ess.length := List.length_map _
        have d2 : (plens ks).length = ks.length := List.length_map _
        refine ⟨p, p3, _, _, rfl, rfl, sm3 _ _ hp, hp3, ?_, fun p4 np4 => ?_⟩
        · rw [List.length_map, List.length_map, d1, d2]
          exact Nat.le_of_lt (small100k (by omega))
        have s4 : Same H3 (upd H3 p4 (.lst ((dims ess).map V.int ++ (plens ks).map V.int))) := same_upd np4
        have sB := sA.trans s4
        refine ⟨p4, dims ess ++ plens ks, rfl, .inl (.inl ?_), ?_, fun hm d H5 sm5 hd => qE hm d H5 (sB.trans sm5) hd, fun hm H5 sm5 => qN hm H5 (sB.trans sm5)⟩
        · rw [upd_same, List.map_append]
        · rw [List.length_append, d1, d2]
          omega
end
end OT

set_option Elab.async false
set_option linter.all false
set_option maxRecDepth 100000
set_option maxHeartbeats 2000000
namespace OT
open PySem PySem.Spec PyProof.Rows L2
/-- the products of all pairs of entries -/
def rowT (e : Ent) (fs : List Ent) : List Ent := fs.map fun g => (plusP e.1 g.1, e.2 * g.2)
def timesL (es fs : List Ent) : List Ent := es.flatMap fun e => rowT e fs
theorem timesL_snoc (es fs : List Ent) (e : Ent) : timesL (es ++ [e]) fs = timesL es fs ++ rowT e fs := by
  unfold timesL
  rw [List.flatMap_append]
  simp
theorem dimE_eq {es : List Ent} {n : Nat} (h : ∀ e ∈ es, e.1.length = n) (hp : es ≠ []) : dimE es = n := by
  cases es with
  | nil => exact absurd rfl hp
  | cons e r => exact h e List.mem_cons_self
theorem put_klen {ks : List Pl} {e : Pl} {i : Nat} (h : ks.length ≤ i) : (if e ∈ ks then ks else ks ++ [e]).length ≤ i + 1 := by
  by_cases m : e ∈ ks
  · rw [if_pos m]
    omega
  · rw [if_neg m, List.length_append, List.length_singleton]
    omega
section
variable {P : Program} {w : World} {K : PySem.W.Frag} {mg : Str → Option Value} {base : Heap}
def spSDT (K : PySem.W.Frag) (M : Addr) : Sp := fun vs H Q E => ∃ (a b : Addr) (us : List V) (ess : List (List Ent)), vs = [.ref a, .ref b] ∧ SqL K H a us ∧ RowsAt H us ess ∧ SqT K H b [] ∧ ess.length ≤ 1000 ∧
  (mixL ((dims ess).filter nz) = true → ∀ d H', Same H H' → H' d = some (.xd errM) → E (.ref M) (some d) H') ∧ (mixL ((dims ess).filter nz) = false → ∀ H', Same H H' → Q .non H')
theorem ok_same_dimensionT {f M fS : Addr} {fd fdS : FuncData} (D : C8.Def K mg "same_dimension" s_same_dimension f fd) (T : Bi mg) (DS : C8.Def K mg "same_lengths" s_same_lengths fS fdS) (bS : Binds K fdS ["lengths"] []) (GS : FnOk P w K mg base (L2.CX P w) 3 fS fdS ["lengths"] (spSL K M))
    (c_places_length : C8.Cal P w K mg base 1 "places_length" (spPLen K) []) : FnOk P w K mg base (L2.CX P w) 4 f fd ["rows", "places"] (spSDT K M) := by
  obtain ⟨oc, od, dV, kV, doc, pm, an, cdv, ct, osl, rfl, lk, hcd⟩ := D.fn.ex
  refine fn_of lk hcd sc_same_dimension (fun vs H Q E h => ?_) fun A outer s H vs Q E hr h => ?_
  · obtain ⟨a, b, us, ess, rfl, _⟩ := h
    rfl
  · obtain ⟨a, b, us, ess, rfl, ha, hR, hb, z1, qE, qN⟩ := h
    refine ⟨_, (pss_one (ps_expr (pe_callS GS hr rfl DS.mgf DS.kp bS (fun σ => passAt (takes_of rfl rfl rfl rfl) σ) (pa_cons (pe_op op_cat (pe_lc (own := [("row", 2)]) (g := (gName 2)) (tt := tYes) rfl sc_same_dimension.nd (pi_list (pv 0)) (blkOk_by (N := ["rows", "places", "row", "place"]) (sc := C8.fnScope s_same_dimension) (by decide +kernel)) (fun _ _ _ _ _ => (pg_name (i := 2) sc_same_dimension.nd rfl (Or.inl rfl))) (fun _ _ _ _ _ => pts_nil) (fun _ _ _ _ _ => (C8.pe_c c_places_length hr (by decide) (by rfl) (pa_cons (pv 2) pa_nil)))) (pe_lc (own := [("place", 3)]) (g := (gName 3)) (tt := tYes) rfl sc_same_dimension.nd (pi_tup (pv 1)) (blkOk_by (N := ["rows", "places", "row", "place"]) (sc := C8.fnScope s_same_dimension) (by decide +kernel)) (fun _ _ _ _ _ => (pg_name (i := 3) sc_same_dimension.nd rfl (Or.inl rfl))) (fun _ _ _ _ _ => pts_nil) (fun _ _ _ _ _ => (pe_callB (show CallR _ _ (Evl.rLenS K) from call_len_seq) (by rfl) T.n_len OT.b_len (pa_cons (pv 3) pa_nil))))) pa_nil)))), ?_⟩
    have l1 := hR.len
    refine ⟨_, rfl, a, rfl, ⟨_, ha⟩, fun p np => ?_⟩
    refine lc_list (K := K) (xs := us) (fun i H2 => Same H H2 ∧ H2 p = some (.lst ((dims (ess.take i)).map V.int))) ?_ ?_ ?_ ?_
    · exact ⟨same_upd np, upd_same⟩
    · rintro i H2 _ ⟨sm, _⟩
      exact sm.seq ha
    · rintro i x H2 hx ⟨sm, hp⟩
      obtain ⟨a1, xs, es, rfl, he, h1, h2⟩ := (hR.mono sm).get hx
      have hi := (List.getElem?_eq_some_iff.mp he).1
      refine ⟨rfl, tYes_of ?_⟩
      refine ⟨_, rfl, a1, xs, es, rfl, .inl (.inl h1), h2, _, hp, ?_, same_mut sm np, ?_⟩
      · unfold dims
        rw [List.length_map, List.length_map, List.length_take]
        exact small1000 (by omega)
      · rw [upd_same, dims_snoc he]
    · rintro H2 ⟨sm2, hp⟩
      rw [l1, List.take_length] at hp
      refine ⟨_, rfl, b, rfl, ⟨_, same_t sm2 hb⟩, fun p3 np3 => ?_⟩
      refine lc_tup (K := K) (xs := []) (fun i H3 => Same H2 H3 ∧ H3 p3 = some (.lst [])) ?_ ?_ ?_ ?_
      · exact ⟨same_upd np3, upd_same⟩
      · rintro i H3 _ ⟨sm, _⟩
        exact same_t (sm2.trans sm) hb
      · rintro i x H3 hx ⟨sm, hp3⟩
        cases hx
      · rintro H3 ⟨sm3, hp3⟩
        have sA := sm2.trans sm3
        have d1 : (dims ess).length = ess.length := List.length_map _
        refine ⟨p, p3, _, _, rfl, rfl, sm3 _ _ hp, hp3, ?_, fun p4 np4 => ?_⟩
        · rw [List.length_map, d1]
          exact Nat.le_of_lt (small100k (by show ess.length + 0 ≤ 100000; omega))
        have s4 : Same H3 (upd H3 p4 (.lst ((dims ess).map V.int ++ []))) := same_upd np4
        have sB := sA.trans s4
        refine ⟨p4, dims ess, rfl, .inl (.inl ?_), ?_, fun hm d H5 sm5 hd => qE hm d H5 (sB.trans sm5) hd, fun hm H5 sm5 => qN hm H5 (sB.trans sm5)⟩
        · rw [upd_same, List.append_nil]
        · rw [d1]
          omega
end
end OT

set_option Elab.async false
set_option linter.all false
set_option maxRecDepth 100000
set_option maxHeartbeats 2000000
namespace OT
open PySem PySem.Spec PyProof.Rows L2
/-- two rows of different dimensions other than 0 -/
def mixB (es fs : List Ent) : Bool := decide (dimE es ≠ 0 ∧ dimE fs ≠ 0 ∧ dimE es ≠ dimE fs)
theorem mixD (es fs : List Ent) : mixL ((dims [es, fs]).filter nz) = mixB es fs := by
  show mixL ([((dimE es : Nat) : Int), ((dimE fs : Nat) : Int)].filter nz) = mixB es fs
  unfold mixB
  generalize dimE es = x
  generalize dimE fs = y
  have nzT : ∀ {z : Nat}, z ≠ 0 → nz (z : Int) = true := fun h => decide_eq_true (by omega)
  have nzF : ∀ {z : Nat}, z = 0 → nz (z : Int) = false := fun h => decide_eq_false (by omega)
  by_cases hx : x = 0
  · rw [List.filter_cons, if_neg (by rw [nzF hx]; decide), decide_eq_false (fun h => h.1 hx)]
    by_cases hy : y = 0
    · rw [List.filter_cons, if_neg (by rw [nzF hy]; decide)]
      rfl
    · rw [List.filter_cons, if_pos (nzT hy)]
      simp [mixL]
  · rw [List.filter_cons, if_pos (nzT hx)]
    by_cases hy : y = 0
    · rw [List.filter_cons, if_neg (by rw [nzF hy]; decide), decide_eq_false (fun h => h.2.1 hy)]
      simp [mixL]
    · rw [List.filter_cons, if_pos (nzT hy)]
      by_cases h : x = y
      · subst h
        rw [decide_eq_false (fun h => h.2.2 rfl)]
        simp [mixL]
      · rw [decide_eq_true ⟨hx, hy, h⟩]
        have : ¬ ((y : Int) = (x : Int)) := fun z => h (by omega)
        simp [mixL, this]
theorem mixB_same {es fs : List Ent} {n m : Nat} (h : es ≠ [] → fs ≠ [] → n = m) (he : ∀ e ∈ es, e.1.length = n) (hf : ∀ e ∈ fs, e.1.length = m) : mixB es fs = false := by
  refine decide_eq_false fun z => ?_
  obtain ⟨z1, z2, z3⟩ := z
  have h1 : es ≠ [] := fun y => z1 (by rw [y]; rfl)
  have h2 : fs ≠ [] := fun y => z2 (by rw [y]; rfl)
  exact z3 (by rw [dimE_eq he h1, dimE_eq hf h2, h h1 h2])
theorem timesL_mem {es fs : List Ent} {x : Ent} (h : x ∈ timesL es fs) : ∃ e ∈ es, ∃ g ∈ fs, x = (plusP e.1 g.1, e.2 * g.2) := by
  unfold timesL rowT at h
  obtain ⟨e, he, h⟩ := List.mem_flatMap.mp h
  obtain ⟨g, hg, rfl⟩ := List.mem_map.mp h
  exact ⟨e, he, g, hg, rfl⟩
theorem timesL_len : ∀ (es fs : List Ent), (timesL es fs).length = es.length * fs.length
  | [], fs => by rw [List.length_nil, Nat.zero_mul]; rfl
  | e :: r, fs => by
    have ih := timesL_len r fs
    show (rowT e fs ++ timesL r fs).length = _
    rw [List.length_append, ih, show (rowT e fs).length = fs.length from List.length_map _, List.length_cons, Nat.succ_mul]
    omega
section
variable {P : Program} {w : World} {K : PySem.W.Frag} {mg : Str → Option Value} {base : Heap}
/-- the same, of the law -/
def spTimes (K : PySem.W.Frag) : Sp := fun vs H Q _ => ∃ (a b : Addr) (xs ys : List V) (es fs : List Ent), vs = [.ref a, .ref b] ∧ SqL K H a xs ∧ SqL K H b ys ∧ Ents H xs es ∧ Ents H ys fs ∧ es.length * fs.length ≤ 10000 ∧ (∀ e ∈ es, ∀ g ∈ fs, e.1.length = g.1.length) ∧ (∀ e ∈ es, e.1 ≠ [] ∧ e.1.length ≤ 1000) ∧ (∀ g ∈ fs, -(2 ^ 64) < g.2 ∧ g.2 < 2 ^ 64) ∧ wantRow H (timesL es fs) Q
theorem c__law_times {f : Addr} {fd : FuncData} (D : C8.Def K mg "_law_times" s__law_times f fd) (b : Binds K fd ["_law_first", "_law_second"] []) (T : Bi mg) (c__law_plus : C8.Cal P w K mg base 1 "_law_plus" (spPlus K) []) (c__law_row : C8.Cal P w K mg base 1 "_law_row" (spGather K) []) : C8.Cal P w K mg base 2 "_law_times" (spTimes K) [] := by
  refine C8.cal0 D b .nil sc__law_times (fun vs H Q E h => ?_) (fun cdv A outer s H vs Q E hr h => ?_)
  · obtain ⟨a, b, xs, ys, es, fs, rfl, _⟩ := h
    rfl
  · obtain ⟨a, b, xs, ys, es, fs, rfl, hS, hT, hE, hF, hz, hl, hne, hnum, q⟩ := h
    refine ⟨_, (pss_cons (ps_set (i := 2) sc__law_times.nd rfl (Or.inl rfl) (pe_lst pa_nil))
  (pss_cons (ps_for PassesOwn.never rfl (pi_list (pv 0)) (pg_tup rfl (pgs_cons (pg_name (i := 3) sc__law_times.nd rfl (Or.inl rfl)) (pgs_cons (pg_name (i := 4) sc__law_times.nd rfl (Or.inl rfl)) pgs_nil))) (pss_one (ps_for PassesOwn.never rfl (pi_list (pv 1)) (pg_tup rfl (pgs_cons (pg_name (i := 5) sc__law_times.nd rfl (Or.inl rfl)) (pgs_cons (pg_name (i := 6) sc__law_times.nd rfl (Or.inl rfl)) pgs_nil))) (pss_one (ps_expr (pe_bm PySem.F.plainAttrs_list PySem.F.slot_list_append PySem.F.type_list_append mt_append (pv 2) (pa_cons (pe_tup (pa_cons (C8.pe_c c__law_plus hr (by decide) (by rfl) (pa_cons (pv 3) (pa_cons (pv 5) pa_nil))) (pa_cons (pe_op op_mul (pv 4) (pv 6)) pa_nil))) pa_nil)))))))
  (pss_one (ps_ret (C8.pe_c c__law_row hr (by decide) (by rfl) (pa_cons (pv 2) pa_nil)))))), ?_⟩
    refine ⟨by decide, fun p np => ?_⟩
    have s1 : Same H (upd H p (.lst [])) := same_upd np
    refine ⟨_, rfl, a, rfl, ⟨_, s1.seq hS⟩, ?_⟩
    refine for_list (K := K) (xs := xs) (fun i σ H2 => ∃ (ws : List V) (y3 y4 y5 y6 : Option V), σ = [some (.ref a), some (.ref b), some (.ref p), y3, y4, y5, y6] ∧ Same H H2 ∧ H2 p = some (.lst ws) ∧ Ents H2 ws (timesL (es.take i) fs)) ⟨[], none, none, none, none, rfl, s1, upd_same, .nil⟩ ?_ ?_ ?_
    · rintro i σ H2 _ ⟨_, _, _, _, _, _, sm, _⟩
      exact sm.seq hS
    · rintro i x σ H2 hx ⟨ws, y3, y4, y5, y6, rfl, sm, hp, hW⟩
      obtain ⟨e, hee, t, pe, rfl, ht, hpe⟩ := hE.get hx
      have hi := (List.getElem?_eq_some_iff.mp hee).1
      have hem : e ∈ es := List.mem_of_getElem? hee
      refine ⟨t, _, rfl, .inl (.inl (sm _ _ ht)), rfl, _, _, rfl, _, _, rfl, rfl, ?_⟩
      refine ⟨_, rfl, b, rfl, ⟨_, sm.seq hT⟩, ?_⟩
      refine for_list (K := K) (xs := ys) (fun j σ H3 => ∃ (ws : List V) (y5 y6 : Option V), σ = [some (.ref a), some (.ref b), some (.ref p), some (.ref pe), some (.int e.2), y5, y6] ∧ Same H H3 ∧ H3 p = some (.lst ws) ∧ Ents H3 ws (timesL (es.take i) fs ++ rowT e (fs.take j))) ?_ ?_ ?_ ?_
      · refine ⟨ws, y5, y6, rfl, sm, hp, ?_⟩
        rw [show rowT e (fs.take 0) = [] from rfl, List.append_nil]
        exact hW
      · rintro j σ H3 _ ⟨_, _, _, _, sm, _⟩
        exact sm.seq hT
      · rintro j x σ H3 hx ⟨ws, y5, y6, rfl, sm, hp, hW⟩
        obtain ⟨z, hzz, t2, pz, rfl, ht2, hpz⟩ := hF.get hx
        have hj := (List.getElem?_eq_some_iff.mp hzz).1
        have hzm : z ∈ fs := List.mem_of_getElem? hzz
        refine ⟨t2, _, rfl, .inl (.inl (sm _ _ ht2)), rfl, _, _, rfl, _, _, rfl, rfl, ?_⟩
        have hle := hl e hem z hzm
        refine ⟨_, rfl, .inl ⟨rfl, _, .inl (.inl hp)⟩, _, rfl, _, rfl, pe, pz, e.1, z.1, rfl, .inl (.inl (sm _ _ hpe)), .inl (.inl (sm _ _ hpz)), Nat.le_of_eq hle, (hne e hem).2, fun p4 H4 s4 hp4 => ?_⟩
        refine ⟨_, rfl, _, rfl, _, _, rfl, rfl, .inr (hnum z hzm), (by show 2 ≤ sizeLine; decide), fun t5 nt5 => ?_⟩
        have s5 : Same H4 (upd H4 t5 (.tup [.ref p4, .int (e.2 * z.2)])) := same_upd nt5
        have s45 := s4.trans s5
        have hD := s45 _ _ hp
        have hwl := hW.len
        refine ⟨p, ws, _, rfl, rfl, hD, ?_, ?_⟩
        · rw [hwl, List.length_append, timesL_len, List.length_take, show (rowT e (fs.take j)).length = (fs.take j).length from List.length_map _, List.length_take, Nat.min_eq_left (Nat.le_of_lt hi), Nat.min_eq_left (Nat.le_of_lt hj)]
          have h1 : i * fs.length + fs.length ≤ es.length * fs.length := by
            rw [← Nat.succ_mul]
            exact Nat.mul_le_mul_right _ hi
          exact small100k (by omega)
        · refine ⟨ws ++ [.ref t5], _, _, rfl, same_mut (sm.trans s45) np, upd_same, ?_⟩
          have e1 : timesL (es.take i) fs ++ rowT e (fs.take (j + 1)) = (timesL (es.take i) fs ++ rowT e (fs.take j)) ++ [(plusP e.1 z.1, e.2 * z.2)] := by
            rw [take_snoc hzz]
            unfold rowT
            rw [List.map_append, List.append_assoc]
            rfl
          rw [e1]
          exact ((hW.mono s45).updL hD).app (.cons (EntAt.updL hD ⟨t5, p4, rfl, upd_same, s5 _ _ hp4⟩) .nil)
      · rintro σ H3 ⟨ws, y5, y6, rfl, sm, hp, hW⟩
        rw [hF.len, List.take_length] at hW
        refine ⟨ws, _, _, y5, y6, rfl, sm, hp, ?_⟩
        rw [take_snoc hee, timesL_snoc]
        exact hW
    · rintro σ H2 ⟨ws, y3, y4, y5, y6, rfl, sm, hp, hW⟩
      rw [hE.len, List.take_length] at hW
      refine ⟨_, rfl, p, ws, timesL es fs, rfl, ⟨.inl (.inl hp), hW, ?_⟩, fun x hx => ?_, wantRow.mono sm q⟩
      · rw [timesL_len]
        exact small100k (by omega)
      · obtain ⟨e, he, g, hg, rfl⟩ := timesL_mem hx
        intro h0
        have h1 := plusP_len (Nat.le_of_eq (hl e he g hg))
        have h2 : (plusP e.1 g.1).length = 0 := by
          show (plusP e.1 g.1).length = 0
          rw [show plusP e.1 g.1 = [] from h0]
          rfl
        exact (hne e he).1 (List.length_eq_zero_iff.mp (by omega))
end
end OT

set_option Elab.async false
set_option linter.all false
set_option maxRecDepth 100000
set_option maxHeartbeats 2000000
/-! zip(*xs) of any number of tuples of one length; the target a name -/
namespace OZ
open PySem
open PySem.Sem (wp)
theorem tc (args : List Value) : checkTypeCall "zip" ⟨args, []⟩ = pure () := by kernel_rfl
theorem nc (a : Value) (args : List Value) : checkBuiltinCall "zip.__new__" ⟨.type "zip" :: a :: args, []⟩ = pure () := by kernel_rfl
theorem oi (args : List Value) : argsOk "object.__init__" ⟨args, []⟩ := by
  unfold argsOk; rw [signature?_of (id := "object.__init__") (n := ['_', '_', 't', 'i', 'n', 'i', '_', '_']) (o := ['t', 'c', 'e', 'j', 'b', 'o']) (by kernel_rfl) F.owner_object]; kernel_rfl
abbrev IsZipF (h : Heap) (z TI TO : Addr) (f0 f1 : Value) : Prop :=
  h.get? z = some { cls := .type "zip", dict := none, data := .fields #[f0, f1, .bool false, .ref TI, .ref TO], slots := #[] }
abbrev IsTup (h : Heap) (T : Addr) (vs : List Value) : Prop := h.get? T = some { cls := .type "tuple", data := .seq vs.toArray }
structure ZAp (z TI TO : Addr) (its as : List Addr) : Prop where
  TIz : TI ≠ z
  TOz : TO ≠ z
  TITO : TI ≠ TO
  zi : z ∉ its
  TIi : TI ∉ its
  TOi : TO ∉ its
  nd : its.Nodup
  za : z ∉ as
  TOa : TO ∉ as
  ia : ∀ t ∈ its, t ∉ as
  len : its.length = as.length
section
variable {prog : Program} {w : World} {A : Around} {E : Value → Shared → Prop} {s : Shared}
theorem wp_forIn {M : Model} {α β : Type} {l : List α} {f : α → β → Sem (ForInStep β)} {Q : β → Shared → Prop} (I : Nat → β → Shared → Prop)
    (step : ∀ i x b s, l[i]? = some x → I i b s → wpAny M A (f x b) (fun r s' => ∃ b', r = .yield b' ∧ I (i + 1) b' s') E s)
    (hend : ∀ b s, I l.length b s → Q b s) {b : β} (h0 : I 0 b s) : wpAny M A (forIn l b f) Q E s := by
  have key : ∀ n i b s, n + i = l.length → I i b s → wpAny M A (forIn (l.drop i) b f) Q E s := by
    intro n
    induction n with
    | zero =>
      intro i b s hn hI
      rw [List.drop_eq_nil_of_le (by omega)]
      have : i = l.length := by omega
      subst this
      rw [List.forIn_nil]
      exact wpAny_pure (hend b s hI)
    | succ n ih =>
      intro i b s hn hI
      have hi : i < l.length := by omega
      rw [List.drop_eq_getElem_cons hi, List.forIn_cons]
      refine wpAny_bind (wpAny_mono (step i _ b s (List.getElem?_eq_getElem hi) hI) (fun r s' h => ?_) fun _ _ x => x)
      obtain ⟨b', rfl, h⟩ := h
      exact ih (i + 1) b' s' (by omega) h
  have := key l.length 0 b s (by omega) h0
  rwa [List.drop_zero] at this
/-- what all objects but the zip's own keep -/
abbrev Kp (z TO : Addr) (its : List Addr) (h h' : Heap) : Prop := ∀ c o, c ≠ z → c ≠ TO → c ∉ its → h.get? c = some o → h'.get? c = some o
structure Lp (h0 : Heap) (z TI TO : Addr) (its as : List Addr) (ys : List Value) (i : Nat) (f1 : Value) (j : Nat) (h : Heap) (us : List Value) : Prop where
  zz : IsZipF h z TI TO .ellipsis f1
  tt : IsTup h TO us
  len : us.length = its.length
  y : ∀ m < j, us[m]? = ys[m]?
  it : ∀ (m : Nat) (t a : Addr), its[m]? = some t → as[m]? = some a → h.IsTupleIter t a (if m < j then i + 1 else i)
  sz : h.objs.size = h0.objs.size
  k : Kp z TO its h0 h
theorem next_free {z TI TO : Addr} {its as : List Addr} {i : Nat} {f1 : Value} {vs ys : List Value} {Q : Value → Shared → Prop} (D : ZAp z TI TO its as) (hk : its ≠ []) (hz8 : its.length ≤ 100000)
    (free : ∀ R : Bool → Shared → Prop, R true s → wpAny (model prog w) A (Builtin.SmallTypes.ownedTupleIsFree (.ref z)) R E s)
    {f0 : Value} (hz : IsZipF s.heap z TI TO f0 f1) (hTI : IsTup s.heap TI (its.map Value.ref)) (hTO : IsTup s.heap TO vs) (hv : vs.length = its.length)
    (hit : ∀ (j : Nat) (t a : Addr), its[j]? = some t → as[j]? = some a → s.heap.IsTupleIter t a i) (hy : ys.length = its.length)
    (hit2 : ∀ (j : Nat) (a : Addr), as[j]? = some a → ∃ items, s.heap.IsTuple a items ∧ items[i]? = ys[j]?)
    (hQ : ∀ h', IsZipF h' z TI TO (rawInt s.heap.objs.size) (.bool false) → IsTup h' TI (its.map Value.ref) → IsTup h' TO ys → (∀ (j : Nat) (t a : Addr), its[j]? = some t → as[j]? = some a → h'.IsTupleIter t a (i + 1)) → IsTup h' s.heap.objs.size ys → h'.objs.size = s.heap.objs.size + 1 →
      Kp z TO its s.heap h' → Q (.ref s.heap.objs.size) { s with heap := h' }) :
    wpAny (model prog w) A (Builtin.«zip.__next__» ⟨[.ref z], []⟩) (fun fin s' => ∃ v, fin = .done (.ret v) ∧ Q v s') E s := by
  show wpAny _ _ (field (.ref z) 2 >>= _) _ _ _
  refine wpAny_bind (wpAny_field hz rfl (x := .bool false) rfl ?_)
  show wpAny _ _ (field (.ref z) 3 >>= _) _ _ _
  refine wpAny_bind (wpAny_field hz rfl (x := .ref TI) rfl ?_)
  refine wpAny_bind (wpAny_seqItems hTI rfl ?_)
  have hne : (its.map Value.ref).toArray.isEmpty = false := by
    cases its with
    | nil => exact absurd rfl hk
    | cons x r => rfl
  simp only [hne, Bool.false_eq_true, if_false]
  refine wpAny_bind (free _ ?_)
  simp only [if_true]
  refine wpAny_bind (wpAny_rule ?_)
  refine wpAny_bind (wpAny_field hz rfl (x := .ref TO) rfl ?_)
  refine wpAny_bind (wpAny_setField_rec hz (by simp) fun h₁ hz₁ hs₁ => ?_)
  replace hz₁ : IsZipF h₁ z TI TO .ellipsis f1 := hz₁
  have hsz1 : h₁.objs.size = s.heap.objs.size := hs₁.1
  refine wpAny_bind (wp_forIn (fun j b s' => b = (none, PUnit.unit) ∧ ∃ h' us, s' = { s with heap := h' } ∧ Lp s.heap z TI TO its as ys i f1 j h' us) ?_ ?_ ?_)
  · rintro j ⟨v, jj⟩ b s' hx ⟨rfl, h', us, rfl, L⟩
    rw [List.getElem?_zipIdx, List.getElem?_map] at hx
    obtain ⟨t, ht, hx⟩ : ∃ t, its[j]? = some t ∧ (Value.ref t, 0 + j) = (v, jj) := by
      cases e : its[j]? with
      | none => rw [e] at hx; cases hx
      | some t => rw [e] at hx; exact ⟨t, rfl, Option.some.inj hx⟩
    cases hx
    have hj : j < its.length := (List.getElem?_eq_some_iff.mp ht).1
    have hja : j < as.length := by rw [← D.len]; exact hj
    have ha : as[j]? = some as[j] := List.getElem?_eq_getElem hja
    have htm : t ∈ its := List.mem_of_getElem? ht
    have ham : as[j] ∈ as := List.getElem_mem hja
    obtain ⟨items, hI, hyj⟩ := hit2 j _ ha
    have hjy : j < ys.length := by rw [hy]; exact hj
    rw [List.getElem?_eq_getElem hjy] at hyj
    have hIt := L.it j t _ ht ha
    rw [if_neg (Nat.lt_irrefl j)] at hIt
    have hI' : h'.IsTuple as[j] items := by
      obtain ⟨o, ho, r⟩ := hI
      exact ⟨o, L.k _ _ (fun z => D.za (z ▸ ham)) (fun z => D.TOa (z ▸ ham)) (fun z => D.ia _ z ham) ho, r⟩
    refine wpAny_bind (wpAny_onRaise ?_)
    show wpAny _ _ (Builtin.SmallTypes.nextOf (.ref t) >>= _) _ _ _
    refine wpAny_bind (RZ.nextOf_tuple_item (s := { s with heap := h' }) hIt hI' hyj fun h₂ h1₂ hs₂ => wpAny_pure ?_)
    have tTO : t ≠ TO := fun z => D.TOi (z ▸ htm)
    have tz : t ≠ z := fun z => D.zi (z ▸ htm)
    have hTO₂ : IsTup h₂ TO us := hs₂.extBut _ _ tTO.symm L.tt
    refine wpAny_bind (wpAny_seqItems hTO₂ rfl ?_)
    refine wpAny_bind (wpAny_updateSeq hTO₂ rfl ?_ (by show us.toArray.size ≤ sizeLine; rw [List.size_toArray, L.len]; exact Nat.le_trans hz8 (by decide)) (by show (us.toArray.setIfInBounds _ _).size ≤ sizeLine + 1; rw [Array.size_setIfInBounds, List.size_toArray, L.len]; exact Nat.le_trans hz8 (by decide)))
    have hs₃ : Heap.SameBut TO h₂ (h₂.update TO (Obj.mapSeq (·.setIfInBounds (0 + j) ys[j]))) := Heap.SameBut.update ..
    have hTO₃ : IsTup (h₂.update TO (Obj.mapSeq (·.setIfInBounds (0 + j) ys[j]))) TO (us.set j ys[j]) := by
      show (h₂.update TO (Obj.mapSeq (·.setIfInBounds (0 + j) ys[j]))).get? TO = _
      rw [Heap.get?_update_self _ hTO₂ rfl]
      simp [Obj.mapSeq]
    generalize h₂.update TO (Obj.mapSeq (·.setIfInBounds (0 + j) ys[j])) = h₃ at hs₃ hTO₃ ⊢
    refine wpAny_bind (wpAny_letGo (wpAny_pure ⟨_, rfl, rfl, h₃, us.set j ys[j], rfl, ?_⟩))
    refine ⟨hs₃.extBut _ _ D.TOz.symm (hs₂.extBut _ _ tz.symm L.zz), hTO₃, by rw [List.length_set]; exact L.len, fun m hm => ?_, fun m t' a' h1 h2 => ?_, by rw [hs₃.1, hs₂.1]; exact L.sz, fun c o c1 c2 c3 e => hs₃.extBut _ _ c2 (hs₂.extBut _ _ (fun z => c3 (z ▸ htm)) (L.k c o c1 c2 c3 e))⟩
    · by_cases e : m = j
      · subst e
        rw [List.getElem?_set_self (by rw [L.len]; exact hj), List.getElem?_eq_getElem hjy]
      · rw [List.getElem?_set_ne (fun z => e z.symm)]
        exact L.y m (by omega)
    · by_cases e : m = j
      · subst e
        rw [ht] at h1
        cases h1
        rw [ha] at h2
        cases h2
        rw [if_pos (Nat.lt_succ_self _)]
        exact h1₂.extBut hs₃.extBut tTO
      · have hne2 : t' ≠ t := fun z => by
          subst z
          have q1 := (List.getElem?_eq_some_iff.mp h1)
          have q2 := (List.getElem?_eq_some_iff.mp ht)
          obtain ⟨b1, e1⟩ := q1
          obtain ⟨b2, e2⟩ := q2
          exact e ((List.getElem_inj D.nd).mp (e1.trans e2.symm))
        have q := L.it m t' a' h1 h2
        have tm' : t' ∈ its := List.mem_of_getElem? h1
        have q2 := (q.extBut hs₂.extBut hne2).extBut hs₃.extBut (fun z => D.TOi (z ▸ tm'))
        by_cases c : m < j
        · rw [if_pos c] at q2
          rw [if_pos (by omega)]
          exact q2
        · rw [if_neg c] at q2
          rw [if_neg (by omega)]
          exact q2
  · rintro b s' ⟨rfl, h₅, us, rfl, L⟩
    have hus : us = ys := by
      have hn : ((List.map Value.ref its).zipIdx).length = its.length := by rw [List.length_zipIdx, List.length_map]
      rw [hn] at L
      refine List.ext_getElem? fun m => ?_
      by_cases hm : m < its.length
      · exact L.y m hm
      · rw [List.getElem?_eq_none (by rw [L.len]; omega), List.getElem?_eq_none (by rw [hy]; omega)]
    subst hus
    refine wpAny_bind (wpAny_seqItems L.tt rfl ?_)
    have hla : us.toArray.toList = us := by simp
    refine wpAny_bind (wpAny_newTuple ?_ (by rw [hla, hy]; exact Nat.le_trans hz8 (by decide)))
    have hz₅ := L.zz
    have hzlt : z < h₅.objs.size := Heap.lt_size hz₅
    have hsz : h₅.objs.size = s.heap.objs.size := L.sz
    show wpAny _ _ (Builtin.SmallTypes.ownedTupleHandOut (.ref z) (.ref h₅.objs.size) >>= _) _ _ _
    refine wpAny_bind ?_
    unfold Builtin.SmallTypes.ownedTupleHandOut
    have hz₆ : IsZipF (h₅.push { cls := .type "tuple", data := .seq us.toArray.toList.toArray }) z TI TO .ellipsis f1 := Heap.get?_push_of_some _ hz₅
    refine wpAny_bind (wpAny_setField_rec hz₆ (by simp) fun h₇ hz₇ hs₇ => ?_)
    replace hz₇ : IsZipF h₇ z TI TO (rawInt h₅.objs.size) f1 := hz₇
    refine wpAny_setField_rec hz₇ (by simp) fun h₈ hz₈ hs₈ => ?_
    replace hz₈ : IsZipF h₈ z TI TO (rawInt h₅.objs.size) (.bool false) := hz₈
    have up : ∀ c o, c ≠ z → h₅.get? c = some o → h₈.get? c = some o := fun c o c1 e => hs₈.extBut _ _ c1 (hs₇.extBut _ _ c1 (Heap.get?_push_of_some _ e))
    have hT₈ : IsTup h₈ h₅.objs.size us := by
      have q : IsTup (h₅.push { cls := .type "tuple", data := .seq us.toArray.toList.toArray }) h₅.objs.size us := by
        have q2 : (h₅.push { cls := .type "tuple", data := .seq us.toArray.toList.toArray }).get? h₅.objs.size = some { cls := .type "tuple", data := .seq us.toArray.toList.toArray } := Heap.get?_push_size _ rfl
        rw [hla] at q2 ⊢
        exact q2
      exact hs₈.extBut _ _ (Nat.ne_of_gt hzlt) (hs₇.extBut _ _ (Nat.ne_of_gt hzlt) q)
    have hz8' : h₈.objs.size = h₅.objs.size + 1 := by rw [hs₈.1, hs₇.1, Heap.size_push]
    rw [hsz] at hz₈ hT₈ hz8'
    refine wpAny_pure ⟨_, rfl, ?_⟩
    show Q (.ref h₅.objs.size) _
    rw [hsz]
    have hn : ((List.map Value.ref its).zipIdx).length = its.length := by rw [List.length_zipIdx, List.length_map]
    rw [hn] at L
    refine hQ h₈ hz₈ (up _ _ D.TIz (L.k _ _ D.TIz D.TITO D.TIi hTI)) (up _ _ D.TOz L.tt) (fun j t a h1 h2 => ?_) hT₈ hz8' fun c o c1 c2 c3 e => up c o c1 (L.k c o c1 c2 c3 e)
    have q := L.it j t a h1 h2
    rw [if_pos (List.getElem?_eq_some_iff.mp h1).1] at q
    exact q.at fun o e => up _ o (fun z => D.zi (z ▸ List.mem_of_getElem? h1)) e
  · refine ⟨rfl, h₁, vs, rfl, hz₁, hs₁.extBut _ _ D.TOz hTO, hv, fun m hm => absurd hm (Nat.not_lt_zero _), fun m t a h1 h2 => ?_, hsz1, fun c o c1 _ _ e => hs₁.extBut _ _ c1 e⟩
    rw [if_neg (Nat.not_lt_zero _)]
    exact (hit m t a h1 h2).extBut hs₁.extBut (fun z => D.zi (z ▸ List.mem_of_getElem? h1))
structure Lh (h0 : Heap) (z TI TO : Addr) (its as : List Addr) (i : Nat) (f0 f1 : Value) (j : Nat) (h : Heap) : Prop where
  zz : IsZipF h z TI TO f0 f1
  it : ∀ (m : Nat) (t a : Addr), its[m]? = some t → as[m]? = some a → h.IsTupleIter t a (if m < j then i + 1 else i)
  sz : h.objs.size = h0.objs.size
  k : ∀ c o, c ≠ z → c ∉ its → h0.get? c = some o → h.get? c = some o
theorem next_held {z TI TO : Addr} {its as : List Addr} {i : Nat} {f0 f1 : Value} {ys : List Value} {Q : Value → Shared → Prop} (D : ZAp z TI TO its as) (hk : its ≠ []) (hz8 : its.length ≤ 100000)
    (hz : IsZipF s.heap z TI TO f0 f1)
    (held : ∀ R : Bool → Shared → Prop, (∀ h', IsZipF h' z TI TO f0 (.bool true) → Heap.SameBut z s.heap h' → R false { s with heap := h' }) → wpAny (model prog w) A (Builtin.SmallTypes.ownedTupleIsFree (.ref z)) R E s)
    (hTI : IsTup s.heap TI (its.map Value.ref))
    (hit : ∀ (j : Nat) (t a : Addr), its[j]? = some t → as[j]? = some a → s.heap.IsTupleIter t a i) (hy : ys.length = its.length)
    (hit2 : ∀ (j : Nat) (a : Addr), as[j]? = some a → ∃ items, s.heap.IsTuple a items ∧ items[i]? = ys[j]?)
    (hQ : ∀ h', IsZipF h' z TI TO f0 (.bool true) → (∀ (j : Nat) (t a : Addr), its[j]? = some t → as[j]? = some a → h'.IsTupleIter t a (i + 1)) → IsTup h' s.heap.objs.size ys → h'.objs.size = s.heap.objs.size + 1 →
      (∀ c o, c ≠ z → c ∉ its → s.heap.get? c = some o → h'.get? c = some o) → Q (.ref s.heap.objs.size) { s with heap := h' }) :
    wpAny (model prog w) A (Builtin.«zip.__next__» ⟨[.ref z], []⟩) (fun fin s' => ∃ v, fin = .done (.ret v) ∧ Q v s') E s := by
  show wpAny _ _ (field (.ref z) 2 >>= _) _ _ _
  refine wpAny_bind (wpAny_field hz rfl (x := .bool false) rfl ?_)
  show wpAny _ _ (field (.ref z) 3 >>= _) _ _ _
  refine wpAny_bind (wpAny_field hz rfl (x := .ref TI) rfl ?_)
  refine wpAny_bind (wpAny_seqItems hTI rfl ?_)
  have hne : (its.map Value.ref).toArray.isEmpty = false := by
    cases its with
    | nil => exact absurd rfl hk
    | cons x r => rfl
  simp only [hne, Bool.false_eq_true, if_false]
  refine wpAny_bind (held _ fun h₁ hz₁ hs₁ => ?_)
  simp only [Bool.false_eq_true, if_false]
  refine wpAny_bind ?_
  rw [← Array.forIn_toList]
  refine wp_forIn (fun j b s' => b = (none, (ys.take j).toArray) ∧ ∃ h', s' = { s with heap := h' } ∧ Lh s.heap z TI TO its as i f0 (.bool true) j h') ?_ ?_ ?_
  · rintro j v b s' hx ⟨rfl, h', rfl, L⟩
    have hx : (its.map Value.ref)[j]? = some v := hx
    rw [List.getElem?_map] at hx
    obtain ⟨t, ht, rfl⟩ : ∃ t, its[j]? = some t ∧ Value.ref t = v := by
      cases e : its[j]? with
      | none => rw [e] at hx; cases hx
      | some t => rw [e] at hx; exact ⟨t, rfl, Option.some.inj hx⟩
    have hj : j < its.length := (List.getElem?_eq_some_iff.mp ht).1
    have hja : j < as.length := by rw [← D.len]; exact hj
    have ha : as[j]? = some as[j] := List.getElem?_eq_getElem hja
    have htm : t ∈ its := List.mem_of_getElem? ht
    have ham : as[j] ∈ as := List.getElem_mem hja
    obtain ⟨items, hI, hyj⟩ := hit2 j _ ha
    have hjy : j < ys.length := by rw [hy]; exact hj
    rw [List.getElem?_eq_getElem hjy] at hyj
    have hIt := L.it j t _ ht ha
    rw [if_neg (Nat.lt_irrefl j)] at hIt
    have hI' : h'.IsTuple as[j] items := by
      obtain ⟨o, ho, r⟩ := hI
      exact ⟨o, L.k _ _ (fun z => D.za (z ▸ ham)) (fun z => D.ia _ z ham) ho, r⟩
    refine wpAny_bind (wpAny_holding ?_)
    show wpAny _ _ (Builtin.SmallTypes.nextOf (.ref t) >>= _) _ _ _
    refine wpAny_bind (RZ.nextOf_tuple_item (s := { s with heap := h' }) hIt hI' hyj fun h₂ h1₂ hs₂ => wpAny_pure ?_)
    have tz : t ≠ z := fun z => D.zi (z ▸ htm)
    refine wpAny_pure ⟨_, rfl, ?_, h₂, rfl, ?_⟩
    · show (none, (ys.take j).toArray.push ys[j]) = _
      rw [List.take_add_one, List.getElem?_eq_getElem hjy]
      simp
    refine ⟨hs₂.extBut _ _ tz.symm L.zz, fun m t' a' h1 h2 => ?_, by rw [hs₂.1]; exact L.sz, fun c o c1 c3 e => hs₂.extBut _ _ (fun z => c3 (z ▸ htm)) (L.k c o c1 c3 e)⟩
    by_cases e : m = j
    · subst e
      rw [ht] at h1
      cases h1
      rw [ha] at h2
      cases h2
      rw [if_pos (Nat.lt_succ_self _)]
      exact h1₂
    · have hne2 : t' ≠ t := fun z => by
        subst z
        have q1 := (List.getElem?_eq_some_iff.mp h1)
        have q2 := (List.getElem?_eq_some_iff.mp ht)
        obtain ⟨b1, e1⟩ := q1
        obtain ⟨b2, e2⟩ := q2
        exact e ((List.getElem_inj D.nd).mp (e1.trans e2.symm))
      have q2 := (L.it m t' a' h1 h2).extBut hs₂.extBut hne2
      by_cases c : m < j
      · rw [if_pos c] at q2
        rw [if_pos (by omega)]
        exact q2
      · rw [if_neg c] at q2
        rw [if_neg (by omega)]
        exact q2
  · rintro b s' ⟨rfl, h₅, rfl, L⟩
    have hn : (List.map Value.ref its).toArray.toList.length = ys.length := by
      show (List.map Value.ref its).length = _
      rw [List.length_map, hy]
    rw [hn, List.take_length]
    have hla : ys.toArray.toList = ys := by simp
    show wpAny _ _ (newTuple ys.toArray.toList >>= _) _ _ _
    refine wpAny_bind (wpAny_newTuple ?_ (by rw [hla, hy]; exact Nat.le_trans hz8 (by decide)))
    have hsz : h₅.objs.size = s.heap.objs.size := L.sz
    have hT : IsTup (h₅.push { cls := .type "tuple", data := .seq ys.toArray.toList.toArray }) h₅.objs.size ys := by
      have q2 : (h₅.push { cls := .type "tuple", data := .seq ys.toArray.toList.toArray }).get? h₅.objs.size = some { cls := .type "tuple", data := .seq ys.toArray.toList.toArray } := Heap.get?_push_size _ rfl
      rw [hla] at q2 ⊢
      exact q2
    have hz8' : (h₅.push { cls := .type "tuple", data := .seq ys.toArray.toList.toArray }).objs.size = h₅.objs.size + 1 := Heap.size_push ..
    refine wpAny_pure ⟨_, rfl, ?_⟩
    show Q (.ref h₅.objs.size) _
    rw [hn] at L
    rw [hsz] at hT hz8' ⊢
    refine hQ _ (Heap.get?_push_of_some _ L.zz) (fun j t a h1 h2 => ?_) hT hz8' fun c o c1 c3 e => Heap.get?_push_of_some _ (L.k c o c1 c3 e)
    have q := L.it j t a h1 h2
    rw [if_pos (by rw [hy]; exact (List.getElem?_eq_some_iff.mp h1).1)] at q
    exact q.at fun o e => Heap.get?_push_of_some _ e
  · refine ⟨rfl, h₁, rfl, hz₁, fun m t a h1 h2 => ?_, hs₁.1, fun c o c1 _ e => hs₁.extBut _ _ c1 e⟩
    rw [if_neg (Nat.not_lt_zero _)]
    exact (hit m t a h1 h2).extBut hs₁.extBut (fun z => D.zi (z ▸ List.mem_of_getElem? h1))
theorem end_free {z TI TO t a0 : Addr} {its as : List Addr} {i : Nat} {f0 f1 : Value} {items : Array Value} {Q : Fin → Shared → Prop} (hh : A.handled = none) (D : ZAp z TI TO (t :: its) (a0 :: as))
    (free : ∀ R : Bool → Shared → Prop, R true s → wpAny (model prog w) A (Builtin.SmallTypes.ownedTupleIsFree (.ref z)) R E s)
    (hz : IsZipF s.heap z TI TO f0 f1) (hTI : IsTup s.heap TI ((t :: its).map Value.ref))
    (hit : s.heap.IsTupleIter t a0 i) (hI : s.heap.IsTuple a0 items) (hx : items[i]? = none)
    (hE : ∀ h' e, (∀ c o, c ≠ z → c ≠ t → s.heap.get? c = some o → h'.get? c = some o) → (∃ o, h'.get? e = some o ∧ o.cls = .type "StopIteration") → E (.ref e) { s with heap := h' })
    (hTO : ∃ us, IsTup s.heap TO us) :
    wpAny (model prog w) A (Builtin.«zip.__next__» ⟨[.ref z], []⟩) Q E s := by
  obtain ⟨us, hTO⟩ := hTO
  show wpAny _ _ (field (.ref z) 2 >>= _) _ _ _
  refine wpAny_bind (wpAny_field hz rfl (x := .bool false) rfl ?_)
  show wpAny _ _ (field (.ref z) 3 >>= _) _ _ _
  refine wpAny_bind (wpAny_field hz rfl (x := .ref TI) rfl ?_)
  refine wpAny_bind (wpAny_seqItems hTI rfl ?_)
  have hne : ((t :: its).map Value.ref).toArray.isEmpty = false := rfl
  simp only [hne, Bool.false_eq_true, if_false]
  refine wpAny_bind (free _ ?_)
  simp only [if_true]
  refine wpAny_bind (wpAny_rule ?_)
  refine wpAny_bind (wpAny_field hz rfl (x := .ref TO) rfl ?_)
  refine wpAny_bind (wpAny_setField_rec hz (by simp) fun h₁ hz₁ hs₁ => ?_)
  replace hz₁ : IsZipF h₁ z TI TO .ellipsis f1 := hz₁
  refine wpAny_bind ?_
  simp only [List.map_cons, List.zipIdx_cons, List.forIn_cons]
  refine wpAny_bind (wpAny_bind (wpAny_onRaise ?_))
  show wpAny _ _ (Builtin.SmallTypes.nextOf (.ref t) >>= _) _ _ _
  have tz : t ≠ z := fun q => D.zi (q ▸ List.mem_cons_self)
  have az : a0 ≠ z := fun q => D.za (q ▸ List.mem_cons_self)
  have hI1 : h₁.IsTuple a0 items := hI.extBut hs₁.extBut az
  refine wpAny_bind (RZ.nextOf_tuple_end (s := { s with heap := h₁ }) hh (hit.extBut hs₁.extBut tz) hI1 hx fun h₂ e hs₂ he => ?_)
  obtain ⟨oe, hoe, hce⟩ := he
  have hz₂ : IsZipF h₂ z TI TO .ellipsis f1 := hs₂ _ _ tz.symm hz₁
  have hez : e ≠ z := fun x => by subst x; rw [hz₂] at hoe; cases hoe; simp at hce
  refine wpAny_setField_rec hz₂ (by simp) fun h₃ _ hs₃ => hE h₃ e (fun c o c1 c3 x => hs₃.extBut _ _ c1 (hs₂ _ _ c3 (hs₁.extBut _ _ c1 x))) ⟨oe, hs₃.extBut _ _ hez hoe, hce⟩
theorem end_held {z TI TO t a0 : Addr} {its as : List Addr} {i : Nat} {f0 f1 : Value} {items : Array Value} {Q : Fin → Shared → Prop} (hh : A.handled = none) (D : ZAp z TI TO (t :: its) (a0 :: as))
    (hz : IsZipF s.heap z TI TO f0 f1)
    (held : ∀ R : Bool → Shared → Prop, (∀ h', IsZipF h' z TI TO f0 (.bool true) → Heap.SameBut z s.heap h' → R false { s with heap := h' }) → wpAny (model prog w) A (Builtin.SmallTypes.ownedTupleIsFree (.ref z)) R E s)
    (hTI : IsTup s.heap TI ((t :: its).map Value.ref))
    (hit : s.heap.IsTupleIter t a0 i) (hI : s.heap.IsTuple a0 items) (hx : items[i]? = none)
    (hE : ∀ h' e, (∀ c o, c ≠ z → c ≠ t → s.heap.get? c = some o → h'.get? c = some o) → (∃ o, h'.get? e = some o ∧ o.cls = .type "StopIteration") → E (.ref e) { s with heap := h' }) :
    wpAny (model prog w) A (Builtin.«zip.__next__» ⟨[.ref z], []⟩) Q E s := by
  show wpAny _ _ (field (.ref z) 2 >>= _) _ _ _
  refine wpAny_bind (wpAny_field hz rfl (x := .bool false) rfl ?_)
  show wpAny _ _ (field (.ref z) 3 >>= _) _ _ _
  refine wpAny_bind (wpAny_field hz rfl (x := .ref TI) rfl ?_)
  refine wpAny_bind (wpAny_seqItems hTI rfl ?_)
  have hne : ((t :: its).map Value.ref).toArray.isEmpty = false := rfl
  simp only [hne, Bool.false_eq_true, if_false]
  refine wpAny_bind (held _ fun h₁ hz₁ hs₁ => ?_)
  simp only [Bool.false_eq_true, if_false]
  refine wpAny_bind ?_
  rw [← Array.forIn_toList]
  simp only [List.map_cons, List.forIn_cons]
  refine wpAny_bind (wpAny_bind (wpAny_holding ?_))
  show wpAny _ _ (Builtin.SmallTypes.nextOf (.ref t) >>= _) _ _ _
  have tz : t ≠ z := fun q => D.zi (q ▸ List.mem_cons_self)
  have az : a0 ≠ z := fun q => D.za (q ▸ List.mem_cons_self)
  have hI1 : h₁.IsTuple a0 items := hI.extBut hs₁.extBut az
  refine wpAny_bind (RZ.nextOf_tuple_end (s := { s with heap := h₁ }) hh (hit.extBut hs₁.extBut tz) hI1 hx fun h₂ e hs₂ he => ?_)
  exact hE h₂ e (fun c o c1 c3 x => hs₂ _ _ c3 (hs₁.extBut _ _ c1 x)) he
/-- the zip at turn i -/
structure ZSt (h : Heap) (z TI TO : Addr) (its as : List Addr) (i : Nat) : Prop where
  zz : ∃ f0 f1, IsZipF h z TI TO f0 f1 ∧ (f0 = .none ∨ ∃ T : Addr, f0 = rawInt T) ∧ ∃ b, f1 = .bool b
  ti : IsTup h TI (its.map Value.ref)
  tt : ∃ us, us.length = its.length ∧ IsTup h TO us
  it : ∀ (j : Nat) (t a : Addr), its[j]? = some t → as[j]? = some a → h.IsTupleIter t a i
theorem alive_is {a : Addr} {Q : Option Obj → Shared → Prop} (h : Q (s.heap.get? a) s) : wpAny (model prog w) A (loadIfAlive a) Q E s := fun _ _ _ => h
/-- free or held -/
theorem asked {z TI TO : Addr} {f0 f1 : Value} (hz : IsZipF s.heap z TI TO f0 f1) (h0 : f0 = .none ∨ ∃ T : Addr, f0 = rawInt T) (h1 : ∃ b, f1 = .bool b) :
    (∀ R : Bool → Shared → Prop, R true s → wpAny (model prog w) A (Builtin.SmallTypes.ownedTupleIsFree (.ref z)) R E s) ∨
    (∀ R : Bool → Shared → Prop, (∀ h', IsZipF h' z TI TO f0 (.bool true) → Heap.SameBut z s.heap h' → R false { s with heap := h' }) → wpAny (model prog w) A (Builtin.SmallTypes.ownedTupleIsFree (.ref z)) R E s) := by
  obtain ⟨b, rfl⟩ := h1
  rcases h0 with rfl | ⟨T, rfl⟩
  · left
    intro R h
    unfold Builtin.SmallTypes.ownedTupleIsFree
    exact wpAny_bind (wpAny_field hz rfl (x := .none) rfl (wpAny_pure h))
  · cases hT : s.heap.get? T with
    | none =>
      left
      intro R h
      unfold Builtin.SmallTypes.ownedTupleIsFree
      refine wpAny_bind (wpAny_field hz rfl (x := rawInt T) rfl ?_)
      show wpAny _ _ (loadIfAlive ((T : Int).toNat) >>= _) _ _ _
      rw [Int.toNat_natCast]
      refine wpAny_bind (alive_is ?_)
      rw [hT]
      simp only [Option.isNone_none, if_true]
      exact wpAny_pure h
    | some o =>
      right
      intro R h
      unfold Builtin.SmallTypes.ownedTupleIsFree
      refine wpAny_bind (wpAny_field hz rfl (x := rawInt T) rfl ?_)
      show wpAny _ _ (loadIfAlive ((T : Int).toNat) >>= _) _ _ _
      rw [Int.toNat_natCast]
      refine wpAny_bind (alive_is ?_)
      rw [hT]
      simp only [Option.isNone_some, Bool.false_eq_true, if_false]
      refine wpAny_bind (wpAny_field hz rfl (x := .bool b) rfl ?_)
      cases b with
      | true =>
        rw [if_neg (show ¬ ((Value.bool true != Value.bool true) = true) from Bool.false_ne_true)]
        exact wpAny_pure (h s.heap hz (Heap.SameBut.refl _ _))
      | false =>
        rw [if_pos (show (Value.bool false != Value.bool true) = true from rfl)]
        exact wpAny_bind (wpAny_setField_rec hz (by simp) fun h₁ hz₁ hs₁ => wpAny_pure (h h₁ hz₁ hs₁))
end
end OZ

set_option Elab.async false
set_option linter.all false
set_option maxRecDepth 100000
set_option maxHeartbeats 2000000
namespace OZ
open PySem
open PySem.Sem (wp)
section
variable {prog : Program} {w : World} {A : Around} {E : Value → Shared → Prop} {s : Shared}
theorem pyNext_item {z TI TO : Addr} {its as : List Addr} {i : Nat} {ys : List Value} {Q : Option Value → Shared → Prop} (D : ZAp z TI TO its as) (hk : its ≠ []) (hz8 : its.length ≤ 100000) (st : ZSt s.heap z TI TO its as i) (hy : ys.length = its.length)
    (hit2 : ∀ (j : Nat) (a : Addr), as[j]? = some a → ∃ items, s.heap.IsTuple a items ∧ items[i]? = ys[j]?)
    (hQ : ∀ h', ZSt h' z TI TO its as (i + 1) → IsTup h' s.heap.objs.size ys → h'.objs.size = s.heap.objs.size + 1 → Kp z TO its s.heap h' → Q (some (.ref s.heap.objs.size)) { s with heap := h' }) :
    wpAny (model prog w) A (pyNext (.ref z)) Q E s := by
  obtain ⟨⟨f0, f1, hz, h0, h1⟩, hTI, ⟨us, hus, hTO⟩, hit⟩ := st
  have hT : s.TypeIs (.ref z) "zip" := ⟨_, hz, rfl⟩
  unfold pyNext
  refine wpAny_bind (wpAny_attempt (wpAny_callSpecial?_slot (name := Str.ofString "__next__") hT F.slot_zip_next
    (wpAny_call_entry F.slot_zip_next hT F.entry_zip_next ?_ (F.args_zip_next_1 _))))
  rcases asked hz h0 h1 with free | held
  · exact next_free D hk hz8 free hz hTI hTO hus hit hy hit2 fun h' z1 t1 t2 i1 T1 s1 k1 => wpAny_pure (hQ h' ⟨⟨_, _, z1, .inr ⟨_, rfl⟩, _, rfl⟩, t1, ⟨ys, hy, t2⟩, i1⟩ T1 s1 k1)
  · exact next_held D hk hz8 hz held hTI hit hy hit2 fun h' z1 i1 T1 s1 k1 => wpAny_pure (hQ h' ⟨⟨_, _, z1, h0, _, rfl⟩, k1 _ _ D.TIz D.TIi hTI, ⟨us, hus, k1 _ _ D.TOz D.TOi hTO⟩, i1⟩ T1 s1 fun c o c1 _ c3 e => k1 c o c1 c3 e)
theorem pyNext_end {z TI TO : Addr} {its as : List Addr} {i : Nat} {Q : Option Value → Shared → Prop} (hh : A.handled = none) (D : ZAp z TI TO its as) (hk : its ≠ []) (st : ZSt s.heap z TI TO its as i)
    (hit2 : ∀ a ∈ as, ∃ items : Array Value, s.heap.IsTuple a items ∧ items[i]? = none)
    (hQ : ∀ h', Kp z TO its s.heap h' → Q none { s with heap := h' }) :
    wpAny (model prog w) A (pyNext (.ref z)) Q E s := by
  obtain ⟨⟨f0, f1, hz, h0, h1⟩, hTI, ⟨us, hus, hTO⟩, hit⟩ := st
  have hT : s.TypeIs (.ref z) "zip" := ⟨_, hz, rfl⟩
  cases its with
  | nil => exact absurd rfl hk
  | cons t its =>
  cases as with
  | nil => exact absurd D.len (by simp)
  | cons a0 as =>
  obtain ⟨items, hI, hx⟩ := hit2 a0 List.mem_cons_self
  have fin : ∀ h' e, (∀ c o, c ≠ z → c ≠ t → s.heap.get? c = some o → h'.get? c = some o) → (∃ o, h'.get? e = some o ∧ o.cls = .type "StopIteration") → wpAny (model prog w) A (do
        if ← isInstance (.ref e) (.type "StopIteration") then pure none else throw (.ref e)) Q E { s with heap := h' } := fun h' e hkk he => by
    obtain ⟨o, ho, hc⟩ := he
    refine wpAny_bind (wpAny_isInstance (T := "StopIteration") (b := true) ⟨o, ho, hc⟩ isSubtype_stop ?_)
    exact wpAny_pure (hQ _ fun c o c1 _ c3 x => hkk c o c1 (fun q => c3 (q ▸ List.mem_cons_self)) x)
  unfold pyNext
  refine wpAny_bind (wpAny_attempt (wpAny_callSpecial?_slot (name := Str.ofString "__next__") hT F.slot_zip_next
    (wpAny_call_entry F.slot_zip_next hT F.entry_zip_next ?_ (F.args_zip_next_1 _))))
  rcases asked hz h0 h1 with free | held
  · exact end_free hh D free hz hTI (hit 0 t a0 rfl rfl) hI hx (fun h' e a b => fin h' e a b) ⟨us, hTO⟩
  · exact end_held hh D hz held hTI (hit 0 t a0 rfl rfl) hI hx fun h' e a b => fin h' e a b
structure NewOk (h0 h' : Heap) (as : List Addr) : Prop where
  st : ZSt h' (h0.objs.size + as.length + 2) (h0.objs.size + as.length) (h0.objs.size + as.length + 1) (List.range' h0.objs.size as.length) as 0
  sz : h'.objs.size = h0.objs.size + as.length + 3
  k : ∀ c o, h0.get? c = some o → h'.get? c = some o
theorem newClass_zip {rest : List Value} {Q : Value × List Value → Shared → Prop} (h : Q (.type "zip", rest) s) : wpAny (model prog w) A (Builtin.SmallTypes.newClass "zip" ⟨.type "zip" :: rest, []⟩) Q E s := by
  obtain ⟨hp, g, d, tk, os⟩ := s
  have hsub := sub_zip
  unfold Builtin.SmallTypes.newClass
  repeat (any_goals (first | assumption | wp_step))
structure Li (h0 h : Heap) (as : List Addr) (j : Nat) : Prop where
  it : ∀ (m : Nat) (a : Addr), m < j → as[m]? = some a → h.IsTupleIter (h0.objs.size + m) a 0
  sz : h.objs.size = h0.objs.size + j
  k : ∀ c o, h0.get? c = some o → h.get? c = some o
theorem iterAll_ok {as : List Addr} {Q : List Value → Shared → Prop} (hI : ∀ a ∈ as, ∃ items, s.heap.IsTuple a items) (hQ : ∀ h', Li s.heap h' as as.length → Q ((List.range' s.heap.objs.size as.length).map Value.ref) { s with heap := h' }) :
    wpAny (model prog w) A (Builtin.SmallTypes.iterAll (as.map Value.ref)) Q E s := by
  unfold Builtin.SmallTypes.iterAll
  refine wpAny_bind ?_
  refine wp_forIn (fun j b s' => b = ((List.range' s.heap.objs.size j).map Value.ref).toArray ∧ ∃ h', s' = { s with heap := h' } ∧ Li s.heap h' as j) ?_ ?_ ?_
  · rintro j v b s' hx ⟨rfl, h', rfl, L⟩
    rw [List.getElem?_map] at hx
    obtain ⟨a, ha, rfl⟩ : ∃ a, as[j]? = some a ∧ Value.ref a = v := by
      cases e : as[j]? with
      | none => rw [e] at hx; cases hx
      | some t => rw [e] at hx; exact ⟨t, rfl, Option.some.inj hx⟩
    obtain ⟨items, o, ho, r⟩ := hI a (List.mem_of_getElem? ha)
    have hT : h'.IsTuple a items := ⟨o, L.k _ _ ho, r⟩
    refine wpAny_bind (wpAny_holding (wpAny_pyIter_tuple (s := { s with heap := h' }) hT ?_))
    refine wpAny_pure ⟨_, rfl, ?_, _, rfl, ?_⟩
    · show ((List.range' s.heap.objs.size j).map Value.ref).toArray.push (.ref h'.objs.size) = _
      rw [L.sz, List.range'_concat]
      simp
    · refine ⟨fun m a' hm h1 => ?_, ?_, fun c o e => Heap.get?_push_of_some _ (L.k _ _ e)⟩
      · by_cases e : m = j
        · subst e
          rw [ha] at h1
          cases h1
          refine ⟨{ cls := .type "tuple_iterator", data := .fields #[.ref a, .int 0 0] }, ?_, rfl, rfl⟩
          have q2 : (h'.push { cls := .type "tuple_iterator", data := .fields #[.ref a, .int 0 0] }).get? h'.objs.size = some { cls := .type "tuple_iterator", data := .fields #[.ref a, .int 0 0] } := Heap.get?_push_size _ rfl
          rw [L.sz] at q2
          exact q2
        · exact (L.it m a' (by omega) h1).at fun o e => Heap.get?_push_of_some _ e
      · show (h'.push _).objs.size = _
        rw [Heap.size_push, L.sz]
        rfl
  · rintro b s' ⟨rfl, h', rfl, L⟩
    rw [List.length_map] at L ⊢
    refine wpAny_pure ?_
    have e : ((List.range' s.heap.objs.size as.length).map Value.ref).toArray.toList = (List.range' s.heap.objs.size as.length).map Value.ref := by simp
    show Q (((List.range' s.heap.objs.size as.length).map Value.ref).toArray.toList) _
    rw [e]
    exact hQ h' L
  · exact ⟨rfl, s.heap, rfl, fun m a hm => absurd hm (Nat.not_lt_zero _), rfl, fun c o e => e⟩
theorem meets_new (as : List Addr) :
    Meets (Builtin.«zip.__new__» ⟨.type "zip" :: as.map Value.ref, []⟩) (fun _ R s => (∀ a ∈ as, ∃ items, s.heap.IsTuple a items) ∧ as.length ≤ 100000 ∧ ∀ h', NewOk s.heap h' as → R (.ok (.ret (.ref (s.heap.objs.size + as.length + 2)))) { s with heap := h' }) :=
  .of_wp fun prog w A R s h => by
    obtain ⟨hI, hl, h⟩ := h
    unfold Builtin.«zip.__new__»
    refine wpAny_bind (newClass_zip ?_)
    show wpAny _ _ (Builtin.SmallTypes.iterAll (as.map Value.ref) >>= _) _ _ _
    refine wpAny_bind (iterAll_ok hI fun h1 L => ?_)
    have n1 : ((List.range' s.heap.objs.size as.length).map Value.ref).length = as.length := by rw [List.length_map, List.length_range']
    refine wpAny_bind (wpAny_newTuple (s := { s with heap := h1 }) ?_ (by rw [n1]; exact Nat.le_trans hl (by decide)))
    refine wpAny_bind (wpAny_newTuple ?_ (by rw [List.length_map, n1]; exact Nat.le_trans hl (by decide)))
    refine wpAny_bind ?_
    have hs1 : h1.objs.size = s.heap.objs.size + as.length := L.sz
    have hs2 : (h1.push { cls := .type "tuple", data := .seq (List.map Value.ref (List.range' s.heap.objs.size as.length)).toArray }).objs.size = s.heap.objs.size + as.length + 1 := by rw [Heap.size_push, hs1]
    have q2 : (h1.push { cls := .type "tuple", data := .seq (List.map Value.ref (List.range' s.heap.objs.size as.length)).toArray }).get? h1.objs.size = some { cls := .type "tuple", data := .seq (List.map Value.ref (List.range' s.heap.objs.size as.length)).toArray } := Heap.get?_push_size _ rfl
    have k2 : ∀ c o, h1.get? c = some o → (h1.push { cls := .type "tuple", data := .seq (List.map Value.ref (List.range' s.heap.objs.size as.length)).toArray }).get? c = some o := fun c o e => Heap.get?_push_of_some _ e
    show wpAny _ _ (newObj (.type "zip") (.fields #[.none, .bool false, .bool false, .ref h1.objs.size, .ref (h1.push { cls := .type "tuple", data := .seq (List.map Value.ref (List.range' s.heap.objs.size as.length)).toArray }).objs.size])) _ _ _
    generalize h1.push { cls := .type "tuple", data := .seq (List.map Value.ref (List.range' s.heap.objs.size as.length)).toArray } = h2 at hs2 q2 k2 ⊢
    have hs3 : (h2.push { cls := .type "tuple", data := .seq (List.map (fun x => Value.none) (List.map Value.ref (List.range' s.heap.objs.size as.length))).toArray }).objs.size = s.heap.objs.size + as.length + 2 := by rw [Heap.size_push, hs2]
    have q3 : (h2.push { cls := .type "tuple", data := .seq (List.map (fun x => Value.none) (List.map Value.ref (List.range' s.heap.objs.size as.length))).toArray }).get? h2.objs.size = some { cls := .type "tuple", data := .seq (List.map (fun x => Value.none) (List.map Value.ref (List.range' s.heap.objs.size as.length))).toArray } := Heap.get?_push_size _ rfl
    have k3 : ∀ c o, h2.get? c = some o → (h2.push { cls := .type "tuple", data := .seq (List.map (fun x => Value.none) (List.map Value.ref (List.range' s.heap.objs.size as.length))).toArray }).get? c = some o := fun c o e => Heap.get?_push_of_some _ e
    refine wpAny_newObj_type ?_
    show wpAny _ _ (ret (.ref (h2.push { cls := .type "tuple", data := .seq (List.map (fun x => Value.none) (List.map Value.ref (List.range' s.heap.objs.size as.length))).toArray }).objs.size)) _ _ { s with heap := (h2.push { cls := .type "tuple", data := .seq (List.map (fun x => Value.none) (List.map Value.ref (List.range' s.heap.objs.size as.length))).toArray }).push { cls := .type "zip", data := .fields #[.none, .bool false, .bool false, .ref h1.objs.size, .ref h2.objs.size] } }
    generalize h2.push { cls := .type "tuple", data := .seq (List.map (fun x => Value.none) (List.map Value.ref (List.range' s.heap.objs.size as.length))).toArray } = h3 at hs3 q3 k3 ⊢
    have q4 : (h3.push { cls := .type "zip", data := .fields #[.none, .bool false, .bool false, .ref h1.objs.size, .ref h2.objs.size] }).get? h3.objs.size = some { cls := .type "zip", data := .fields #[.none, .bool false, .bool false, .ref h1.objs.size, .ref h2.objs.size] } := Heap.get?_push_size _ rfl
    have k4 : ∀ c o, h3.get? c = some o → (h3.push { cls := .type "zip", data := .fields #[.none, .bool false, .bool false, .ref h1.objs.size, .ref h2.objs.size] }).get? c = some o := fun c o e => Heap.get?_push_of_some _ e
    have hs4 : (h3.push { cls := .type "zip", data := .fields #[.none, .bool false, .bool false, .ref h1.objs.size, .ref h2.objs.size] }).objs.size = s.heap.objs.size + as.length + 3 := by rw [Heap.size_push, hs3]
    generalize h3.push { cls := .type "zip", data := .fields #[.none, .bool false, .bool false, .ref h1.objs.size, .ref h2.objs.size] } = h4 at q4 k4 hs4 ⊢
    rw [hs3] at q4 ⊢
    rw [hs1] at q4 q2
    rw [hs2] at q4 q3
    refine wpAny_pure ⟨_, rfl, h h4 ⟨⟨⟨_, _, q4, .inl rfl, _, rfl⟩, k4 _ _ (k3 _ _ q2), ⟨_, ?_, k4 _ _ q3⟩, fun j t a h1' h2' => ?_⟩, hs4, fun c o e => k4 _ _ (k3 _ _ (k2 _ _ (L.k _ _ e)))⟩⟩
    · rw [List.length_map, List.length_map]
    · have hj : j < as.length := (List.getElem?_eq_some_iff.mp h2').1
      have et : t = s.heap.objs.size + j := by
        rw [List.getElem?_range' hj] at h1'
        have q := Option.some.inj h1'
        rw [Nat.one_mul] at q
        exact q.symm
      subst et
      exact (L.it j a hj h2').at fun o e => k4 _ _ (k3 _ _ (k2 _ _ e))
theorem call_zipN {a : Addr} {as : List Addr} {Q : Value → Shared → Prop} (hI : ∀ b ∈ a :: as, ∃ items, s.heap.IsTuple b items) (hl : (a :: as).length ≤ 100000)
    (h : ∀ h', NewOk s.heap h' (a :: as) → Q (.ref (s.heap.objs.size + (a :: as).length + 2)) { s with heap := h' }) :
    wpAny (model prog w) A (call (.type "zip") ((a :: as).map Value.ref)) Q E s := by
  refine callType_new F.called_zip (by decide) (tc _) (nc _ _) (fun obj => oi _) F.entry_zip_new (meets_new (a :: as)) ⟨hI, hl, fun h' n => ?_⟩
  refine ⟨?_, h h' n⟩
  obtain ⟨⟨f0, f1, hz, _⟩, _⟩ := n.st
  exact ⟨_, hz, rfl⟩
end
end OZ

set_option Elab.async false
set_option linter.all false
set_option maxRecDepth 100000
set_option maxHeartbeats 2000000
namespace OZ
open PySem PySem.Spec PyProof.Rows L2
/-- all of them tuples of n items -/
def Cols (K : PySem.W.Frag) (H : Hp) (as : List Addr) (n : Nat) : Prop := ∀ a ∈ as, ∃ xs : List V, SqT K H a xs ∧ xs.length = n
/-- the tuples in turn: at turn i a new tuple of their i-th items -/
def ItzN (K : PySem.W.Frag) (as : List Addr) (n : Nat) : It :=
  ⟨fun i H => i < n ∧ Cols K H as n,
    fun i H v H' => ∃ T ys, v = .ref T ∧ H T = none ∧ H' = upd H T (.tup ys) ∧ ys.length = as.length ∧ ∀ (j : Nat) (a : Addr) (xs : List V), as[j]? = some a → SqT K H a xs → xs[i]? = ys[j]?,
    fun i H => n ≤ i ∧ Cols K H as n⟩
theorem cols_at {X : Cx} {pins : List (Addr × Obj)} {σ : L2.St} {H : Hp} {s : Shared} {n i : Nat} (I : Inv X pins σ H s) (hi : i < n) : ∀ {as : List Addr}, Cols X.K H as n →
    ∃ (ys : List V) (us : List Value), Vals ys us ∧ ys.length = as.length ∧ us.length = as.length ∧
      (∀ (j : Nat) (a : Addr), as[j]? = some a → ∃ items, s.heap.IsTuple a items ∧ items[i]? = us[j]?) ∧ (∀ (j : Nat) (a : Addr), as[j]? = some a → ∃ xs : List V, SqT X.K H a xs ∧ xs[i]? = ys[j]?)
  | [], _ => ⟨[], [], .nil, rfl, rfl, fun j a h => by simp at h, fun j a h => by simp at h⟩
  | a :: as, C => by
    obtain ⟨xs, hq, hn⟩ := C a List.mem_cons_self
    obtain ⟨ys, us, v, l1, l2, p1, p2⟩ := cols_at I hi (as := as) fun b hb => C b (List.mem_cons_of_mem _ hb)
    obtain ⟨its, rv, p, _⟩ := I.tuple hq
    have hx : xs[i]? = some xs[i] := List.getElem?_eq_getElem (by omega)
    obtain ⟨u, hu, ru⟩ := rv.get hx
    refine ⟨xs[i] :: ys, u :: us, .cons ru v, by rw [List.length_cons, List.length_cons, l1], by rw [List.length_cons, List.length_cons, l2], fun j b h => ?_, fun j b h => ?_⟩
    · cases j with
      | zero =>
        cases h
        exact ⟨_, p, by simpa using hu⟩
      | succ j => exact p1 j b h
    · cases j with
      | zero =>
        cases h
        exact ⟨xs, hq, hx⟩
      | succ j => exact p2 j b h
theorem turn_zipN {P : Program} {w : World} {K : PySem.W.Frag} {nm : Str} {npos : Pos} {z TI TO : Addr} {its as : List Addr} {n : Nat} (D : ZAp z TI TO its as) (hk : its ≠ []) (hz8 : its.length ≤ 100000) :
    Turn P w K (.Name nm npos) (ItzN K as n) (z :: TI :: TO :: its) z (fun i h => ZSt h z TI TO its as i) where
  mem := List.mem_cons_self
  obj := fun i h st c hc => by
    obtain ⟨⟨f0, f1, hz, _⟩, hTI, ⟨us, _, hTO⟩, hit⟩ := st
    rcases List.mem_cons.mp hc with rfl | hc
    · exact ⟨_, hz, fun v q => nomatch q⟩
    rcases List.mem_cons.mp hc with rfl | hc
    · exact ⟨_, hTI, fun v q => nomatch q⟩
    rcases List.mem_cons.mp hc with rfl | hc
    · exact ⟨_, hTO, fun v q => nomatch q⟩
    obtain ⟨j, hj, rfl⟩ := List.mem_iff_getElem.mp hc
    have hja : j < as.length := by rw [← D.len]; exact hj
    obtain ⟨o, e, _, d⟩ := hit j _ _ (List.getElem?_eq_getElem hj) (List.getElem?_eq_getElem hja)
    exact ⟨o, e, fun v q => by rw [d] at q; cases q⟩
  keep := fun i h h' st k => by
    obtain ⟨⟨f0, f1, hz, a, b⟩, hTI, ⟨us, hu, hTO⟩, hit⟩ := st
    refine ⟨⟨f0, f1, k z (by simp) _ hz, a, b⟩, k TI (by simp) _ hTI, ⟨us, hu, k TO (by simp) _ hTO⟩, fun j t a h1 h2 => ?_⟩
    exact (hit j t a h1 h2).at fun o q => k t (by simp [List.mem_of_getElem? h1]) o q
  item := by
    intro X hP hw hK hc i pins s σ H E I hf st hg
    subst hP hw hK
    obtain ⟨hi, C⟩ := hg
    obtain ⟨ys, us, rv, l1, l2, p1, p2⟩ := cols_at I hi C
    have hzl : z < s.heap.objs.size := by
      obtain ⟨⟨f0, f1, hz, _⟩, _⟩ := st
      exact Heap.lt_size hz
    refine pyNext_item D hk hz8 st (by rw [l2, D.len]) p1 fun h' st' hT hsz hkp => ?_
    refine ⟨_, rfl, ?_⟩
    show wpAny _ _ (pure ()) _ _ _
    refine wpAny_pure ?_
    have new : ObjOk X.prog X.w (upd H s.heap.objs.size (.tup ys)) h' s.heap.objs.size (.tup ys) :=
      ⟨by show ys.length ≤ sizeLine; rw [l1, ← D.len]; exact Nat.le_trans hz8 (by decide), us, rv, ⟨_, hT, rfl, _, rfl⟩⟩
    have I1 : Inv X pins σ (upd H s.heap.objs.size (.tup ys)) { s with heap := h' } :=
      I.turnedNew (t' := s.toks) (ch := z :: TI :: TO :: its) (fun c o hb q => by
        simp only [List.mem_cons, not_or] at hb
        exact hkp c o hb.1 hb.2.2.1 hb.2.2.2 q) hf (Nat.le_refl _) new
    refine ⟨.ref s.heap.objs.size, _, I1, rfl, ⟨_, ys, rfl, I.hok.fresh (Nat.le_refl _), rfl, l1, fun j a xs ha hq => ?_⟩, st', fun c hcm => ?_⟩
    · obtain ⟨xs', hq', e⟩ := p2 j a ha
      rw [I.tuple_inj hq hq']
      exact e
    · have hlt : c < s.heap.objs.size := by
        obtain ⟨⟨f0, f1, hz, _⟩, hTI, ⟨us, _, hTO⟩, hit⟩ := st
        rcases List.mem_cons.mp hcm with rfl | hc
        · exact Heap.lt_size hz
        rcases List.mem_cons.mp hc with rfl | hc
        · exact Heap.lt_size hTI
        rcases List.mem_cons.mp hc with rfl | hc
        · exact Heap.lt_size hTO
        obtain ⟨j, hj, rfl⟩ := List.mem_iff_getElem.mp hc
        have hja : j < as.length := by rw [← D.len]; exact hj
        obtain ⟨o, e, _, d⟩ := hit j _ _ (List.getElem?_eq_getElem hj) (List.getElem?_eq_getElem hja)
        exact Heap.lt_size e
      rw [upd_ne (Nat.ne_of_lt hlt)]
      exact (hf c hcm).1
  done := by
    intro X hP hw hK hc i pins s σ H E I hf st hg
    subst hP hw hK
    obtain ⟨hi, C⟩ := hg
    refine pyNext_end (I.ok.hd hc) D hk st (fun a ha => ?_) fun h' hkp => ⟨rfl, I.turnedL (t' := s.toks) (ch := z :: TI :: TO :: its) (fun c o hb q => ?_) hf⟩
    · obtain ⟨xs, hq, hn⟩ := C a ha
      obtain ⟨its, rv, p, _⟩ := I.tuple hq
      have := rv.length
      exact ⟨_, p, by simp; omega⟩
    · simp only [List.mem_cons, not_or] at hb
      exact hkp c o hb.1 hb.2.2.1 hb.2.2.2 q
  self := fun A i s Q E st h => by
    obtain ⟨⟨f0, f1, hz, _⟩, _⟩ := st
    have hT : s.TypeIs (.ref z) "zip" := ⟨_, hz, rfl⟩
    refine wpAny_pyIter_slot hT F.slot_zip_iter (wpAny_call_entry F.slot_zip_iter hT F.entry_zip_iter ?_ (F.args_zip_iter_1 _))
    show wpAny _ _ (ret (.ref z)) _ _ s
    exact wpAny_pure ⟨_, rfl, "zip", _, hT, F.slot_zip_next.lookup, h⟩
def iZipN (K : PySem.W.Frag) (te : TE) : TI := fun σ H R => te σ H fun x H1 => ∃ (l : Addr) (as : List Addr) (n : Nat), x = .ref l ∧ SqL K H1 l (as.map V.ref) ∧ as ≠ [] ∧ as.length ≤ 100000 ∧ Cols K H1 as n ∧ R (ItzN K as n) H1
theorem vals_refs : ∀ {as : List Addr} {us : List Value}, Vals (as.map V.ref) us → us = as.map Value.ref
  | [], us, h => by
    cases h
    rfl
  | a :: as, us, h => by
    cases h with
    | cons r rr =>
      have := vals_refs rr
      subst this
      cases r
      rfl
theorem pi_zipS {X : Cx} {e : Expr} {te : TE} {p sp pos npos : Pos} {nm : Str} (hg : Gl X "zip") (hm : X.mg "zip" = none) (he : PE X e te)
    (hst : starEach [.Starred e sp] X.env = [(true, eval e X.env)] := by rfl) :
    PI X (.Name nm npos) (.Call (.Name "zip" p) [.Starred e sp] [] pos) (iZipN X.K te) := by
  refine ⟨fun pins s σ H R I h => ?_⟩
  refine Call_ (ld_blt I hg hm PyProof.Rows.boot_zip ?_)
  rw [hst]
  refine PySem.W.ks_call (P := fun _ => True) rfl (fun h _ => ⟨.machine, .inr (.inl rfl), PySem.W.Looks.of_pure rfl⟩) (PySem.W.ks_lone (thn (he.run pins s σ H _ I h) fun v s1 ⟨y, H1, I1, ry, l, as, n, ey, hq, hne, hl, C, q⟩ => ?_))
  subst ey
  obtain rfl : v = Value.ref l := ry
  refine StX.star_lst I1 hq fun us s2 I2 rv => ⟨trivial, ?_⟩
  have hus := vals_refs rv
  subst hus
  cases as with
  | nil => exact absurd rfl hne
  | cons a as =>
  have hI : ∀ b ∈ a :: as, ∃ items, s2.heap.IsTuple b items := fun b hb => by
    obtain ⟨xs, hq, _⟩ := C b hb
    obtain ⟨its, rv, p, _⟩ := I2.tuple hq
    exact ⟨_, p⟩
  have hlt : ∀ b ∈ a :: as, b < s2.heap.objs.size := fun b hb => by
    obtain ⟨items, o, ho, _⟩ := hI b hb
    exact Heap.lt_size ho
  show wpAny _ _ (call (.type "zip") ((a :: as).map Value.ref)) _ _ _
  refine call_zipN hI hl fun h' N => ?_
  have D : ZAp (s2.heap.objs.size + (a :: as).length + 2) (s2.heap.objs.size + (a :: as).length) (s2.heap.objs.size + (a :: as).length + 1) (List.range' s2.heap.objs.size (a :: as).length) (a :: as) := by
    have mr : ∀ t : Nat, t ∈ List.range' (s2.heap.objs.size : Nat) (a :: as).length → (s2.heap.objs.size : Nat) ≤ t ∧ t < (s2.heap.objs.size : Nat) + (a :: as).length := fun t ht => List.mem_range'_1.mp ht
    have hlt' : ∀ b : Nat, b ∈ (show List Nat from a :: as) → b < (s2.heap.objs.size : Nat) := hlt
    have n1 : ∀ x k : Nat, x + k ≠ x + k + 2 := fun x k => by omega
    have n2 : ∀ x k : Nat, x + k + 1 ≠ x + k + 2 := fun x k => by omega
    have n3 : ∀ x k : Nat, x + k ≠ x + k + 1 := fun x k => by omega
    refine ⟨n1 _ _, n2 _ _, n3 _ _, fun q => ?_, fun q => ?_, fun q => ?_, List.nodup_range', fun q => ?_, fun q => ?_, fun t ht q => ?_, by rw [List.length_range']⟩
    · have := mr _ q; omega
    · have := mr _ q; omega
    · have := mr _ q; omega
    · have := hlt' _ q; omega
    · have := hlt' _ q; omega
    · have := hlt' _ q; have := mr _ ht; omega
  have I3 : Inv X pins σ H1 { s2 with heap := h' } := I2.kept (t' := s2.toks) N.k
  obtain ⟨⟨f0, f1, hz, hf⟩, r⟩ := id N.st
  have hT : Shared.TypeIs { s2 with heap := h' } (.ref (s2.heap.objs.size + (a :: as).length + 2)) "zip" := ⟨_, hz, rfl⟩
  have T : Turn X.prog X.w X.K (.Name nm npos) (ItzN X.K (a :: as) n) _ _ _ := turn_zipN (n := n) D (by rw [← List.length_pos_iff, List.length_range']; exact Nat.succ_pos _) (by rw [List.length_range']; exact hl)
  refine T.self _ 0 { s2 with heap := h' } _ _ N.st ?_
  refine ⟨_, _, _, _, H1, rfl, I3, T, N.st, fun c hcm => ?_, q⟩
  have hle : s2.heap.objs.size ≤ c := by
    rcases List.mem_cons.mp hcm with rfl | hc
    · omega
    rcases List.mem_cons.mp hc with rfl | hc
    · omega
    rcases List.mem_cons.mp hc with rfl | hc
    · omega
    exact (List.mem_range'_1.mp hc).1
  exact I2.fpOk hle (I2.hok.fresh hle)
end OZ

set_option Elab.async false
set_option linter.all false
set_option maxRecDepth 100000
set_option maxHeartbeats 2000000
/-! min, max of a tuple of ints -/
namespace OZ
open PySem PySem.Spec PyProof.Rows L2
section
variable {prog : Program} {w : World} {A : Around} {E : Value → Shared → Prop} {s : Shared} {l : Addr}
theorem iter_intTup {xs : Array (Int × Tok)} {Q : Value → Shared → Prop} (hl : s.heap.IsTuple l (intItems xs))
    (h : ∀ s₂ : Shared, s₂ = { s with heap := s.heap.push { cls := .type "tuple_iterator", data := .fields #[.ref l, .int 0 0] } } →
      (s₂.heap.IsTupleIter s.heap.objs.size l 0 ∧ s₂.heap.IsTuple l (intItems xs)) → (∀ b ∈ [s.heap.objs.size, l], b < s₂.heap.objs.size) → l ≠ s.heap.objs.size → Q (.ref s.heap.objs.size) s₂) :
    wpAny (model prog w) A (pyIter (.ref l)) Q E s := by
  have hlt : l < s.heap.objs.size := by obtain ⟨_, e, _⟩ := hl; exact Heap.lt_size e
  refine wpAny_pyIter_tuple hl (h _ rfl ⟨⟨_, Heap.get?_push_size _ rfl, rfl, rfl⟩, hl.push _⟩ (fun b hb => ?_) (Nat.ne_of_lt hlt))
  show b < (s.heap.push _).objs.size
  rw [Heap.size_push]
  rcases List.mem_cons.mp hb with rfl | hb
  · exact Nat.lt_succ_self _
  · rcases List.mem_cons.mp hb with rfl | hb
    · exact Nat.lt_succ_of_lt hlt
    · cases hb
theorem old_keptT {h' : Heap} {o0 : Obj} (hk : ∀ c o, c ∉ [s.heap.objs.size] → (s.heap.push o0).get? c = some o → h'.get? c = some o) : ∀ c o, s.heap.get? c = some o → h'.get? c = some o := fun c o e => by
  refine hk c o (fun hm => ?_) (Heap.get?_push_of_some _ e)
  rcases List.mem_cons.mp hm with e1 | hm
  · have := Heap.lt_size e
    rw [e1] at this
    exact Nat.lt_irrefl _ this
  · cases hm
theorem max_intTup {xs : Array (Int × Tok)} {Q : Value → Shared → Prop} (hh : A.handled = none) (hl : s.heap.IsTuple l (intItems xs)) (hne : 0 < xs.size)
    (h : ∀ v h' tk, (intItems xs)[argBest (fun i j => decide (numAt xs i > numAt xs j)) (xs.size - 1)]? = some v → (∀ b o, s.heap.get? b = some o → h'.get? b = some o) → Q v { s with heap := h', toks := tk }) :
    wpAny (model prog w) A (call (.builtin "max") [.ref l]) Q E s := by
  refine call_max_walk (iter_intTup hl fun s₂ e st hfp hlI => ?_)
  subst e
  refine ⟨_, _, _, _, _, _, _, rfl, Walks.tuple (A := A.in1) hh _ l hlI (intItems xs), st, hfp, by simpa [intItems] using hne, CmpOf.ints_gt (numAt xs) (fun _ _ => intItems_at), fun v h' tk hP hk => ?_⟩
  exact h v h' tk (by simpa [intItems] using hP) (old_keptT hk)
theorem min_intTup {xs : Array (Int × Tok)} {Q : Value → Shared → Prop} (hh : A.handled = none) (hl : s.heap.IsTuple l (intItems xs)) (hne : 0 < xs.size)
    (h : ∀ v h' tk, (intItems xs)[argBest (fun i j => decide (numAt xs i < numAt xs j)) (xs.size - 1)]? = some v → (∀ b o, s.heap.get? b = some o → h'.get? b = some o) → Q v { s with heap := h', toks := tk }) :
    wpAny (model prog w) A (call (.builtin "min") [.ref l]) Q E s := by
  refine call_min_walk (iter_intTup hl fun s₂ e st hfp hlI => ?_)
  subst e
  refine ⟨_, _, _, _, _, _, _, rfl, Walks.tuple (A := A.in1) hh _ l hlI (intItems xs), st, hfp, by simpa [intItems] using hne, CmpOf.ints_lt (numAt xs) (fun _ _ => intItems_at), fun v h' tk hP hk => ?_⟩
  exact h v h' tk (by simpa [intItems] using hP) (old_keptT hk)
variable {its : List Value} {ns : List Int} {Q : Value → Shared → Prop}
theorem maxT_raw (hh : A.handled = none) (hl : s.heap.IsTuple l its.toArray) (hi : IntsAre its ns) (hne : 0 < ns.length)
    (h : ∀ h' tk M t', (∀ b o, s.heap.get? b = some o → h'.get? b = some o) → M ∈ ns → (∀ a, a ∈ ns → a ≤ M) → Q (.int M t') { s with heap := h', toks := tk }) : wpAny (model prog w) A (call (.builtin "max") [.ref l]) Q E s := by
  obtain ⟨xs, e⟩ := hi.allInts.items
  have hn : numsOf (intItems xs).toList = ns := by rw [← e]; exact hi.numsOf
  rw [nums_intItems] at hn
  subst hn
  rw [e] at hl
  have hsz : 0 < xs.size := by simpa using hne
  refine max_intTup hh hl hsz fun v h' tk hv hk => ?_
  obtain ⟨t, rfl⟩ := intItems_at hv
  obtain ⟨h1, h2⟩ := argBest_gt (numAt xs) (xs.size - 1)
  refine h h' tk _ t hk ?_ fun a ha => ?_
  · rw [numAt_eq]; exact PySem.getD_mem (by rw [List.length_map, Array.length_toList]; omega)
  · obtain ⟨j, hj, rfl⟩ := mem_getD ha
    rw [List.length_map, Array.length_toList] at hj
    rw [← numAt_eq]; exact h2 j (by omega)
theorem minT_raw (hh : A.handled = none) (hl : s.heap.IsTuple l its.toArray) (hi : IntsAre its ns) (hne : 0 < ns.length)
    (h : ∀ h' tk M t', (∀ b o, s.heap.get? b = some o → h'.get? b = some o) → M ∈ ns → (∀ a, a ∈ ns → M ≤ a) → Q (.int M t') { s with heap := h', toks := tk }) : wpAny (model prog w) A (call (.builtin "min") [.ref l]) Q E s := by
  obtain ⟨xs, e⟩ := hi.allInts.items
  have hn : numsOf (intItems xs).toList = ns := by rw [← e]; exact hi.numsOf
  rw [nums_intItems] at hn
  subst hn
  rw [e] at hl
  have hsz : 0 < xs.size := by simpa using hne
  refine min_intTup hh hl hsz fun v h' tk hv hk => ?_
  obtain ⟨t, rfl⟩ := intItems_at hv
  obtain ⟨h1, h2⟩ := argBest_lt (numAt xs) (xs.size - 1)
  refine h h' tk _ t hk ?_ fun a ha => ?_
  · rw [numAt_eq]; exact PySem.getD_mem (by rw [List.length_map, Array.length_toList]; omega)
  · obtain ⟨j, hj, rfl⟩ := mem_getD ha
    rw [List.length_map, Array.length_toList] at hj
    rw [← numAt_eq]; exact h2 j (by omega)
end
section
variable {X : Cx}
/-- max(t), min(t) of a tuple of ints -/
def rMaxT (K : PySem.W.Frag) : List V → Hp → VK → Prop := fun vs H Q => ∃ (a : Addr) (ns : List Int), vs = [V.ref a] ∧ SqT K H a (ns.map V.int) ∧ 0 < ns.length ∧ ∀ m, m ∈ ns → (∀ y, y ∈ ns → y ≤ m) → Q (.int m) H
def rMinT (K : PySem.W.Frag) : List V → Hp → VK → Prop := fun vs H Q => ∃ (a : Addr) (ns : List Int), vs = [V.ref a] ∧ SqT K H a (ns.map V.int) ∧ 0 < ns.length ∧ ∀ m, m ∈ ns → (∀ y, y ∈ ns → m ≤ y) → Q (.int m) H
theorem cr_maxT (hc : X.calm = true) : CallR X (.builtin "max") (rMaxT X.K) := by
  intro pins s σ H vs us Q I r h
  obtain ⟨a, ns, rfl, hs, hne, q⟩ := h
  obtain ⟨its, rv, hl, _⟩ := I.tuple hs
  rw [Vals.ref1 r]
  exact maxT_raw (I.ok.hd hc) hl rv.ints hne fun h' tk m t' hk h1 h2 => ⟨.int _, H, I.kept hk, ⟨_, rfl⟩, q m h1 h2⟩
theorem cr_minT (hc : X.calm = true) : CallR X (.builtin "min") (rMinT X.K) := by
  intro pins s σ H vs us Q I r h
  obtain ⟨a, ns, rfl, hs, hne, q⟩ := h
  obtain ⟨its, rv, hl, _⟩ := I.tuple hs
  rw [Vals.ref1 r]
  exact minT_raw (I.ok.hd hc) hl rv.ints hne fun h' tk m t' hk h1 h2 => ⟨.int _, H, I.kept hk, ⟨_, rfl⟩, q m h1 h2⟩
end
end OZ

set_option Elab.async false
set_option linter.all false
set_option maxRecDepth 100000
set_option maxHeartbeats 2000000
namespace OT
open PySem PySem.Spec PyProof.Rows L2
/-- the least numbers of the places, direction by direction -/
def IsLow (es : List Ent) (l : Pl) : Prop := ∀ (k : Nat) (y : Int), l[k]? = some y → (∃ e ∈ es, e.1[k]? = some y) ∧ ∀ e ∈ es, ∀ x, e.1[k]? = some x → y ≤ x
def IsTop (es : List Ent) (l : Pl) : Prop := ∀ (k : Nat) (y : Int), l[k]? = some y → (∃ e ∈ es, e.1[k]? = some y) ∧ ∀ e ∈ es, ∀ x, e.1[k]? = some x → x ≤ y
theorem IsLow.one {es : List Ent} {l m : Pl} (hl : l.length = m.length) (h1 : IsLow es l) (h2 : IsLow es m) : l = m := by
  refine List.ext_getElem? fun k => ?_
  by_cases c : k < l.length
  · have d : k < m.length := by omega
    rw [List.getElem?_eq_getElem c, List.getElem?_eq_getElem d]
    obtain ⟨⟨e, he, hk⟩, a1⟩ := h1 k _ (List.getElem?_eq_getElem c)
    obtain ⟨⟨f, hf, hk2⟩, a2⟩ := h2 k _ (List.getElem?_eq_getElem d)
    have := a1 f hf _ hk2
    have := a2 e he _ hk
    exact congrArg some (by omega)
  · rw [List.getElem?_eq_none (by omega), List.getElem?_eq_none (by omega)]
theorem IsTop.one {es : List Ent} {l m : Pl} (hl : l.length = m.length) (h1 : IsTop es l) (h2 : IsTop es m) : l = m := by
  refine List.ext_getElem? fun k => ?_
  by_cases c : k < l.length
  · have d : k < m.length := by omega
    rw [List.getElem?_eq_getElem c, List.getElem?_eq_getElem d]
    obtain ⟨⟨e, he, hk⟩, a1⟩ := h1 k _ (List.getElem?_eq_getElem c)
    obtain ⟨⟨f, hf, hk2⟩, a2⟩ := h2 k _ (List.getElem?_eq_getElem d)
    have := a1 f hf _ hk2
    have := a2 e he _ hk
    exact congrArg some (by omega)
  · rw [List.getElem?_eq_none (by omega), List.getElem?_eq_none (by omega)]
section
variable {P : Program} {w : World} {K : PySem.W.Frag} {mg : Str → Option Value} {base : Heap}
def spExt (K : PySem.W.Frag) (IS : List Ent → Pl → Prop) : Sp := fun vs H Q _ => ∃ (a : Addr) (xs : List V) (es : List Ent) (n : Nat), vs = [.ref a] ∧ SqL K H a xs ∧ Ents H xs es ∧ 0 < es.length ∧ es.length ≤ 1000 ∧ (∀ e ∈ es, e.1.length = n) ∧ n ≤ 3 ∧ ∀ p H' (l : Pl), l.length = n → IS es l → Same H H' → H' p = some (.tup (l.map V.int)) → Q (.ref p) H'
end
end OT

set_option Elab.async false
set_option linter.all false
set_option maxRecDepth 100000
set_option maxHeartbeats 2000000
namespace OT
open PySem PySem.Spec PyProof.Rows L2
def YN (K : PySem.W.Frag) (as : List Addr) (i : Nat) (H : Hp) (v : V) (H' : Hp) : Prop := ∃ T ys, v = .ref T ∧ H T = none ∧ H' = upd H T (.tup ys) ∧ ys.length = as.length ∧ ∀ (j : Nat) (a : Addr) (xs : List V), as[j]? = some a → SqT K H a xs → xs[i]? = ys[j]?
theorem walk_zipN {K : PySem.W.Frag} {as : List Addr} {n : Nat} : Walk (OZ.ItzN K as n) n (fun H => OZ.Cols K H as n) (YN K as) := by
  refine ⟨fun i _ hi q => ⟨hi, q⟩, fun _ q => ⟨Nat.le_refl _, q⟩, fun i H v H' _ q y => y⟩
/-- a list of pairs -/
structure Prs (H : Hp) (ws : List V) (lo hi : Pl) : Prop where
  l1 : ws.length = lo.length
  l2 : lo.length = hi.length
  at_ : ∀ (k : Nat) (v : V), ws[k]? = some v → ∃ t x y, v = .ref t ∧ lo[k]? = some x ∧ hi[k]? = some y ∧ H t = some (.tup [.int x, .int y])
theorem Prs.mono {H H' : Hp} {ws : List V} {lo hi : Pl} (s : ∀ b o, H b = some o → H' b = some o) (h : Prs H ws lo hi) : Prs H' ws lo hi :=
  ⟨h.l1, h.l2, fun k v e => by
    obtain ⟨t, x, y, a, b, c, d⟩ := h.at_ k v e
    exact ⟨t, x, y, a, b, c, s _ _ d⟩⟩
theorem Prs.updL {H : Hp} {D : Addr} {l l' : List V} {ws : List V} {lo hi : Pl} (hD : H D = some (.lst l)) (h : Prs H ws lo hi) : Prs (upd H D (.lst l')) ws lo hi :=
  ⟨h.l1, h.l2, fun k v e => by
    obtain ⟨t, x, y, a, b, c, d⟩ := h.at_ k v e
    exact ⟨t, x, y, a, b, c, by rw [upd_ne (ne_lst d hD)]; exact d⟩⟩
theorem Prs.snoc {H : Hp} {ws : List V} {lo hi : Pl} {t : Addr} {x y : Int} (h : Prs H ws lo hi) (ht : H t = some (.tup [.int x, .int y])) : Prs H (ws ++ [.ref t]) (lo ++ [x]) (hi ++ [y]) := by
  have l1 := h.l1
  have l2 := h.l2
  refine ⟨by rw [List.length_append, List.length_append, l1]; rfl, by rw [List.length_append, List.length_append, l2]; rfl, fun k v e => ?_⟩
  by_cases c : k < ws.length
  · rw [List.getElem?_append_left c] at e
    obtain ⟨t, x, y, a, b, c', d⟩ := h.at_ k v e
    exact ⟨t, x, y, a, by rw [List.getElem?_append_left (by omega)]; exact b, by rw [List.getElem?_append_left (by omega)]; exact c', d⟩
  · by_cases q : k = ws.length
    · subst q
      rw [List.getElem?_append_right (by omega), Nat.sub_self] at e
      cases e
      refine ⟨t, x, y, rfl, ?_, ?_, ht⟩
      · rw [List.getElem?_append_right (by omega), ← l1, Nat.sub_self]
        rfl
      · rw [List.getElem?_append_right (by omega), ← l2, ← l1, Nat.sub_self]
        rfl
    · rw [List.getElem?_eq_none (by rw [List.length_append]; show ws.length + 1 ≤ k; omega)] at e
      cases e
theorem ext_snoc {es : List Ent} {ls : Pl} {n i : Nat} {m : Int} (hll : ls.length = i) (hi : i < n) (hn : ∀ e ∈ es, e.1.length = n) (R : Int → Int → Prop) (h : ∀ (k : Nat) (y : Int), ls[k]? = some y → (∃ e ∈ es, e.1[k]? = some y) ∧ ∀ e ∈ es, ∀ x, e.1[k]? = some x → R y x)
    (h1 : m ∈ es.map fun e => e.1.getD i 0) (h2 : ∀ y ∈ es.map (fun e => e.1.getD i 0), R m y) : ∀ (k : Nat) (y : Int), (ls ++ [m])[k]? = some y → (∃ e ∈ es, e.1[k]? = some y) ∧ ∀ e ∈ es, ∀ x, e.1[k]? = some x → R y x := by
  intro k y hk
  have getD_some : ∀ e ∈ es, ∀ z, e.1[i]? = some z ↔ e.1.getD i 0 = z := fun e he z => by
    have hil : i < e.1.length := by rw [hn e he]; exact hi
    rw [List.getD_eq_getElem?_getD, List.getElem?_eq_getElem hil]
    exact ⟨fun h => Option.some.inj h, fun h => congrArg some h⟩
  by_cases hki : k < i
  · rw [List.getElem?_append_left (by omega)] at hk
    exact h k y hk
  · by_cases e : k = i
    · subst e
      rw [List.getElem?_append_right (by omega), hll, Nat.sub_self] at hk
      have hk : m = y := Option.some.inj hk
      subst hk
      obtain ⟨e, he, hem⟩ := List.mem_map.mp h1
      refine ⟨⟨e, he, (getD_some e he m).mpr hem⟩, fun e' he' x hx' => ?_⟩
      have := h2 _ (List.mem_map_of_mem (f := fun e : Ent => e.1.getD k 0) he')
      rw [← (getD_some e' he' x).mp hx']
      exact this
    · rw [List.getElem?_eq_none (by rw [List.length_append, hll]; show i + 1 ≤ k; omega)] at hk
      cases hk
section
variable {P : Program} {w : World} {K : PySem.W.Frag} {mg : Str → Option Value} {base : Heap}
def spBounds (K : PySem.W.Frag) : Sp := fun vs H Q _ => ∃ (a : Addr) (xs : List V) (es : List Ent) (n : Nat), vs = [.ref a] ∧ SqL K H a xs ∧ Ents H xs es ∧ 0 < es.length ∧ es.length ≤ 1000 ∧ (∀ e ∈ es, e.1.length = n) ∧ n ≤ 1000 ∧ ∀ p ws H' (lo hi : Pl), lo.length = n → IsLow es lo → IsTop es hi → Same H H' → H' p = some (.lst ws) → Prs H' ws lo hi → Q (.ref p) H'
theorem c_bounds {f : Addr} {fd : FuncData} (D : C8.Def K mg "bounds" s_bounds f fd) (b : Binds K fd ["row"] []) (T : Bi mg) : C8.Cal P w K mg base 1 "bounds" (spBounds K) [] := by
  refine C8.cal0 D b .nil sc_bounds (fun vs H Q E h => ?_) (fun cdv A outer s H vs Q E hr h => ?_)
  · obtain ⟨a, xs, es, n, rfl, _⟩ := h
    rfl
  · obtain ⟨a, xs, es, n, rfl, hSL, hE, hpos, hz, hn, hn3, q⟩ := h
    refine ⟨_, (pss_cons (ps_setLc (i := 1) (own := [("place", 3), ("number", 4)]) (g := (gTup K 2 (gCons (gName 3) (gCons (gName 4) gNil)))) (tt := tYes) rfl sc_bounds.nd rfl rfl (sw_true rfl rfl rfl rfl) (pi_list (pv 0)) (blkOk_by (N := ["row", "places", "column", "place", "number"]) (sc := C8.fnScope s_bounds) (by decide +kernel)) (fun _ _ _ _ _ => (pg_tup rfl (pgs_cons (pg_name (i := 3) sc_bounds.nd rfl (Or.inl rfl)) (pgs_cons (pg_name (i := 4) sc_bounds.nd rfl (Or.inl rfl)) pgs_nil)))) (fun _ _ _ _ _ => pts_nil) (fun _ _ _ _ _ => (pv 3)))
  (pss_one (ps_ret (pe_lc (own := [("column", 2)]) (g := (gName 2)) (tt := tYes) rfl sc_bounds.nd (OZ.pi_zipS (by rfl) T.n_zip (pv 1)) (blkOk_by (N := ["row", "places", "column", "place", "number"]) (sc := C8.fnScope s_bounds) (by decide +kernel)) (fun _ _ _ _ _ => (pg_name (i := 2) sc_bounds.nd rfl (Or.inl rfl))) (fun _ _ _ _ _ => pts_nil) (fun _ _ _ _ _ => (pe_tup (pa_cons (pe_callB (show CallR _ _ (OZ.rMinT K) from OZ.cr_minT rfl) (by rfl) T.n_min OT.b_min (pa_cons (pv 2) pa_nil)) (pa_cons (pe_callB (show CallR _ _ (OZ.rMaxT K) from OZ.cr_maxT rfl) (by rfl) T.n_max OT.b_max (pa_cons (pv 2) pa_nil)) pa_nil)))))))), ?_⟩
    have hx := hE.len
    refine ⟨_, rfl, a, rfl, ⟨_, hSL⟩, fun p np => ?_⟩
    refine lc_list (K := K) (xs := xs) (fun i H2 => Same H H2 ∧ ∃ as : List Addr, as.length = i ∧ H2 p = some (.lst (as.map V.ref)) ∧ ∀ (j : Nat) (a : Addr), as[j]? = some a → ∃ e, es[j]? = some e ∧ H a = some (.tup (e.1.map V.int))) ?_ ?_ ?_ ?_
    · exact ⟨same_upd np, [], rfl, upd_same, fun j a h => by simp at h⟩
    · rintro i H2 _ ⟨sm, _⟩
      exact sm.seq hSL
    · rintro i x H2 hxi ⟨sm, as, hal, hp, hA⟩
      obtain ⟨e, he, t, pe, rfl, ht, hpe⟩ := hE.get hxi
      obtain ⟨hi, hee⟩ := List.getElem?_eq_some_iff.mp he
      refine ⟨t, _, rfl, .inl (.inl (sm _ _ ht)), rfl, _, _, rfl, _, _, rfl, rfl, rfl, tYes_of ?_⟩
      refine ⟨_, rfl, _, hp, ?_, same_mut sm np, as ++ [pe], by rw [List.length_append, hal]; rfl, ?_, fun j a' h => ?_⟩
      · rw [List.length_map]
        exact small1000 (by omega)
      · rw [upd_same, List.map_append]
        rfl
      · by_cases c : j < as.length
        · rw [List.getElem?_append_left c] at h
          exact hA j a' h
        · by_cases d : j = as.length
          · subst d
            rw [List.getElem?_append_right (by omega), Nat.sub_self] at h
            cases h
            rw [hal]
            exact ⟨e, he, hpe⟩
          · rw [List.getElem?_eq_none (by rw [List.length_append]; show as.length + 1 ≤ j; omega)] at h
            cases h
    · rintro H2 ⟨sm, as, hal, hp, hA⟩
      rw [hx] at hal
      have hcol : ∀ H3, Same H H3 → OZ.Cols K H3 as n := fun H3 s3 a' ha' => by
        obtain ⟨j, hj, rfl⟩ := List.mem_iff_getElem.mp ha'
        obtain ⟨e, he, q⟩ := hA j _ (List.getElem?_eq_getElem hj)
        exact ⟨e.1.map V.int, .inl (.inl (s3 _ _ q)), by rw [List.length_map]; exact hn e (List.mem_of_getElem? he)⟩
      refine ⟨_, rfl, p, as, n, rfl, .inl (.inl hp), ?_, by omega, hcol H2 sm, fun p2 np2 => ?_⟩
      · intro z
        rw [z] at hal
        exact absurd hal (by simp; omega)
      refine lc_it (walk_zipN (K := K) (as := as) (n := n)) (fun i H3 => Same H2 H3 ∧ ∃ (ws : List V) (lo hi : Pl), lo.length = i ∧ IsLow es lo ∧ IsTop es hi ∧ H3 p2 = some (.lst ws) ∧ Prs H3 ws lo hi) ?_ ?_ ?_ ?_
      · exact ⟨same_upd np2, [], [], [], rfl, fun k y h => by simp at h, fun k y h => by simp at h, upd_same, rfl, rfl, fun k v h => by simp at h⟩
      · rintro i H3 _ ⟨sm3, _⟩
        exact hcol H3 (sm.trans sm3)
      · rintro i x H3 H4 hi ⟨sm3, ws, lo, hi2, hl, hlo, hhi, hp2, hW⟩ ⟨T1, ys, rfl, nT, rfl, hyl, hy⟩
        have hys : ys = (es.map fun e => e.1.getD i 0).map V.int := by
          refine List.ext_getElem? fun j => ?_
          by_cases c : j < as.length
          · obtain ⟨e, he, q⟩ := hA j _ (List.getElem?_eq_getElem c)
            have q2 := hy j _ (e.1.map V.int) (List.getElem?_eq_getElem c) (.inl (.inl (sm3 _ _ (sm _ _ q))))
            have hil : i < e.1.length := by rw [hn e (List.mem_of_getElem? he)]; exact hi
            rw [← q2, List.getElem?_map, List.getElem?_map, List.getElem?_map, he, List.getElem?_eq_getElem hil]
            show _ = some (V.int (e.1.getD i 0))
            rw [List.getD_eq_getElem?_getD, List.getElem?_eq_getElem hil]
            rfl
          · rw [List.getElem?_eq_none (by omega), List.getElem?_eq_none (by rw [List.length_map, List.length_map]; omega)]
        subst hys
        have sT : Same H3 (upd H3 T1 (.tup ((es.map fun e => e.1.getD i 0).map V.int))) := same_upd nT
        have hT : (upd H3 T1 (.tup ((es.map fun e => e.1.getD i 0).map V.int))) T1 = some (.tup ((es.map fun e => e.1.getD i 0).map V.int)) := upd_same
        generalize upd H3 T1 (.tup ((es.map fun e => e.1.getD i 0).map V.int)) = H4 at sT hT ⊢
        have hpos2 : 0 < (es.map fun e => e.1.getD i 0).length := by rw [List.length_map]; exact hpos
        refine ⟨rfl, tYes_of ?_⟩
        refine ⟨_, rfl, T1, _, rfl, .inl (.inl hT), hpos2, fun m hm1 hm2 => ⟨_, rfl, T1, _, rfl, .inl (.inl hT), hpos2, fun M hM1 hM2 => ⟨(by show 2 ≤ sizeLine; decide), fun t5 nt5 => ?_⟩⟩⟩
        have s5 : Same H4 (upd H4 t5 (.tup [.int m, .int M])) := same_upd nt5
        have ht5 : (upd H4 t5 (.tup [.int m, .int M])) t5 = some (.tup [.int m, .int M]) := upd_same
        generalize upd H4 t5 (.tup [.int m, .int M]) = H5 at s5 ht5 ⊢
        have sX := sT.trans s5
        have hD := sX _ _ hp2
        have hwl := hW.l1
        have hl2 := hW.l2
        refine ⟨ws, hD, small100k (by omega), same_mut (sm3.trans sX) np2, ws ++ [.ref t5], lo ++ [m], hi2 ++ [M], by rw [List.length_append, hl]; rfl, ?_, ?_, upd_same, ?_⟩
        · exact ext_snoc hl hi hn (fun y x => y ≤ x) hlo hm1 hm2
        · exact ext_snoc (hl2.symm.trans hl) hi hn (fun y x => x ≤ y) hhi hM1 hM2
        · exact ((hW.mono sX).snoc ht5).updL hD
      · rintro H3 ⟨sm3, ws, lo, hi2, hl, hlo, hhi, hp2, hW⟩
        exact q p2 ws H3 lo hi2 hl hlo hhi (sm.trans sm3) hp2 hW
end
end OT

set_option Elab.async false
set_option linter.all false
set_option maxRecDepth 100000
set_option maxHeartbeats 2000000
/-! max(xs, default=d) of a list of ints. -/
namespace OW
open PySem PySem.Spec PyProof.Rows L2
theorem maxOf_ints : ∀ (ns : List Int) (x : Int), (PySem.W.maxOf x ns = x ∨ PySem.W.maxOf x ns ∈ ns) ∧ x ≤ PySem.W.maxOf x ns ∧ ∀ y ∈ ns, y ≤ PySem.W.maxOf x ns
  | [], x => ⟨.inl rfl, Int.le_refl _, fun y h => by cases h⟩
  | n :: ns, x => by
    have e : PySem.W.maxOf x (n :: ns) = PySem.W.maxOf (if decide (x < n) = true then n else x) ns := rfl
    rw [e]
    by_cases h : x < n
    · rw [if_pos (decide_eq_true h)]
      obtain ⟨h1, h2, h3⟩ := maxOf_ints ns n
      refine ⟨.inr (h1.elim (fun z => by rw [z]; exact List.mem_cons_self) (List.mem_cons_of_mem _)), by omega, fun y hy => ?_⟩
      rcases List.mem_cons.mp hy with rfl | hy
      · exact h2
      · exact h3 y hy
    · rw [if_neg (by rw [decide_eq_false h]; decide)]
      obtain ⟨h1, h2, h3⟩ := maxOf_ints ns x
      refine ⟨h1.imp_right (List.mem_cons_of_mem _), h2, fun y hy => ?_⟩
      rcases List.mem_cons.mp hy with rfl | hy
      · omega
      · exact h3 y hy
variable {X : Cx}
/-- max(xs, default=d), d an int -/
def rMaxDf (K : PySem.W.Frag) : List V → List V → Hp → VK → Prop := fun vs zs H Q => ∃ (a : Addr) (ns : List Int) (d : Int), vs = [V.ref a] ∧ zs = [V.int d] ∧ SqL K H a (ns.map V.int) ∧ (ns = [] → Q (.int d) H) ∧ ∀ m, m ∈ ns → (∀ y, y ∈ ns → y ≤ m) → Q (.int m) H
theorem cr_maxDf (hc : X.calm = true) (hu : X.A.units + 64 < cLine) : CallRK X (.builtin "max") [Str.ofString "default"] (rMaxDf X.K) := by
  intro pins s σ H vs zs us ws Q I r rz h
  obtain ⟨a, ns, d, rfl, rfl, hs, q0, q⟩ := h
  obtain ⟨its, rv, hl, _⟩ := I.list hs
  obtain rfl := Vals.ref1 r
  obtain ⟨w1, rfl, e1⟩ := vals1 rz
  obtain ⟨tk1, rfl⟩ := (show ∃ tk, w1 = Value.int d tk from e1)
  have hi := rv.ints
  refine PySem.W.max_list_datum_default (α := Int) (xs := ns) (I.ok.hd hc) hl.isList ?_ ?_ (fun e h' tk hk => ?_) fun y ys i v h' tk e hi' hv hk => ?_
  · exact PySem.W.HoldAll.of_ints hi
  · show X.A.units + 1 + 0 < cLine
    omega
  · exact ⟨.int d, H, I.kept hk, ⟨_, rfl⟩, q0 e⟩
  · subst e
    obtain ⟨h1, h2, h3⟩ := maxOf_ints ys y
    obtain ⟨t2, rfl⟩ : ∃ t, v = .int (PySem.W.maxOf y ys) t := PySem.W.int_of_holds hv
    refine ⟨.int _, H, I.kept hk, ⟨_, rfl⟩, q _ (h1.elim (fun z => by rw [z]; exact List.mem_cons_self) (List.mem_cons_of_mem _)) fun z hz => ?_⟩
    rcases List.mem_cons.mp hz with rfl | hz
    · exact h2
    · exact h3 z hz
end OW

set_option Elab.async false
set_option linter.all false
set_option maxRecDepth 100000
set_option maxHeartbeats 2000000
/-! sorted(d), the keys of d ints, any number of them. -/
namespace OW
open PySem PySem.Spec PyProof.Rows L2
variable {X : Cx}
theorem cr_sortedDI (hcalm : X.calm = true) : CallR X (.builtin "sorted") (fun xs H Q => ∃ (a : Addr) (kvs : List (Key × V)) (ks : List Int), xs = [.ref a] ∧ Rd H a (.dK kvs) ∧ kvs.map (·.1) = ks.map Sum.inl ∧
    ∀ (ys : List Int) (p : Addr), ys.Perm ks → ys.Pairwise (· ≤ ·) → H p = none → Q (.ref p) (upd H p (.lst (ys.map V.int)))) := by
  intro pins s σ H xs us Q I r q
  obtain ⟨a, kvs, ks, ex, hd, hks, q⟩ := q
  subst ex
  obtain ⟨u, eu, rx⟩ := vals1 r
  subst eu
  cases rx
  obtain ⟨z, lo, vs, rel, dd⟩ := dk_rd I.hok hd
  obtain ⟨ep, hat⟩ := dd.dictAt
  have hkeys : vs.map (·.1) = ks.map Sum.inl := rel.keys.symm.trans hks
  have hl : vs.length = ks.length := by
    have e := congrArg List.length hkeys
    rw [List.length_map, List.length_map] at e
    exact e
  have hkl : kvs.length = ks.length := by
    have e := congrArg List.length hks
    rw [List.length_map, List.length_map] at e
    exact e
  have h16 : vs.length ≤ sizeLine := by omega
  refine Calls.call_function_entry PyProof.Rows.kind_sorted PyProof.Rows.plain_sorted PyProof.Rows.entry_sorted (PyProof.Rows.args_sorted1 _) ?_
  unfold Builtin.«sorted»
  refine wpAny_bind (m := checkCount "sorted" 1 1 _) (wpAny_pure ?_)
  refine wpAny_bind (PySem.W.kdu_collect (A := X.A.in1) (PySem.W.kdl_dict (knd := mixKind X.prog X.w) (kvs := vs) (ep := ep) lo) (I.ok.hd hcalm) hat h16 fun h' tk acc hk hacc => ?_)
  have hal : acc.toList.length = ks.length := by rw [Array.length_toList, hacc.1, hl]
  have hS : IntsAre acc.toList ks := ints_each hal fun j v e => by
    obtain ⟨k, x, e1, e2⟩ := hacc.2 j v (by rw [← Array.getElem?_toList]; exact e)
    have e3 : (vs.map (·.1))[j]? = some k := by rw [List.getElem?_map, e1]; rfl
    rw [hkeys, List.getElem?_map] at e3
    cases e4 : ks[j]? with
    | none => rw [e4] at e3; cases e3
    | some y =>
      rw [e4] at e3
      have e5 : Sum.inl y = k := Option.some.inj e3
      subst e5
      rcases keyIs_shape (show keyIs (Sum.inl y) v = true from e2) with ⟨i, t, ek, ev⟩ | ⟨z, t, ek, ev⟩
      · cases ek
        exact ⟨y, t, rfl, ev⟩
      · cases ek
  have I1 : Inv X pins σ H { s with heap := h', toks := tk } := I.kept hk
  refine wpAny_bind (wpAny_newList ?_ (by omega))
  have hoL : (h'.push (seqObj "list" acc.toList.toArray 0)).get? h'.objs.size = some (seqObj "list" acc.toList.toArray 0) := Heap.get?_push_size _ rfl
  show wpAny _ _ _ _ _ { s with heap := h'.push (seqObj "list" acc.toList.toArray 0), toks := tk }
  refine wpAny_bind (wpAny_holding (wpAny_call_entry PyProof.Rows.slot_list_sort ⟨_, hoL, rfl⟩ PyProof.Rows.entry_list_sort
    (SrtO.list_sort_ord (s := { s with heap := h'.push (seqObj "list" acc.toList.toArray 0), toks := tk }) SrtO.swo_int hoL (by omega) (fun h2 => SrtO.ints_sortable hS h2) fun out h1 h2 => ⟨_, rfl, ?_⟩) (PyProof.Rows.args_list_sort _)))
  obtain ⟨g1, g2, g3⟩ := SrtO.ints_out hS h1 h2
  obtain ⟨e', he'⟩ := PyProof.Rows.sortedHeap_at (vs := acc.toList) (out := out.toArray) hoL
  have hlen : ((out.map SrtO.iv).map V.int).length ≤ sizeLine := by
    rw [List.length_map, g2.length_eq]
    omega
  refine wpAny_pure ⟨_, rfl, .ref h'.objs.size, upd H h'.objs.size (.lst ((out.map SrtO.iv).map V.int)), I1.laid (t' := tk) (fun b u e => ?_) (Nat.le_refl _)
    (show ObjOk X.prog X.w _ _ _ (.lst ((out.map SrtO.iv).map V.int)) from ⟨hlen, out, e', vals_of_ints g1, he'⟩), rfl, q _ _ g2 g3 (I1.hok.fresh (Nat.le_refl _))⟩
  have hb : b < h'.objs.size := Heap.lt_size e
  rw [PyProof.Rows.sortedHeap_old (Nat.ne_of_lt hb) (by rw [size_push']; exact Nat.lt_succ_of_lt hb)]
  exact Heap.get?_push_of_some _ e
end OW

set_option Elab.async false
set_option linter.all false
set_option maxRecDepth 100000
set_option maxHeartbeats 2000000
namespace OT
open PySem PySem.Spec PyProof.Rows L2
/-! places as one number -/
def keyP (b : Int) : Pl → Int
  | [] => 0
  | x :: r => x * b ^ r.length + keyP b r
theorem keyP_snoc (b x : Int) : ∀ p : Pl, keyP b (p ++ [x]) = keyP b p * b + x
  | [] => by
    show x * b ^ 0 + 0 = 0 * b + x
    rw [Int.pow_zero]
    omega
  | y :: r => by
    show y * b ^ (r ++ [x]).length + keyP b (r ++ [x]) = (y * b ^ r.length + keyP b r) * b + x
    rw [keyP_snoc b x r, List.length_append, List.length_singleton, Int.pow_succ, Int.add_mul, ← Int.mul_assoc, Int.add_assoc]
theorem keyP_plus (b : Int) : ∀ {p q : Pl}, p.length = q.length → keyP b (plusP p q) = keyP b p + keyP b q
  | [], [], _ => rfl
  | [], _ :: _, h => by cases h
  | _ :: _, [], h => by cases h
  | x :: r, y :: t, h => by
    have hl : r.length = t.length := Nat.succ.inj h
    have ih := keyP_plus b hl
    have lp : (plusP r t).length = r.length := plusP_len (Nat.le_of_eq hl)
    show (x + y) * b ^ (plusP r t).length + keyP b (plusP r t) = (x * b ^ r.length + keyP b r) + (y * b ^ t.length + keyP b t)
    rw [ih, lp, hl, Int.add_mul]
    omega
/-- the numbers of a place stay within h -/
def Within (h : Nat) (p : Pl) : Prop := ∀ x ∈ p, x.natAbs ≤ h
theorem Within.tail {h : Nat} {x : Int} {r : Pl} (w : Within h (x :: r)) : Within h r := fun y hy => w y (List.mem_cons_of_mem _ hy)
theorem pow_pos' {b : Int} (hb : 0 < b) (n : Nat) : 0 < b ^ n := Int.pow_pos hb
theorem keyP_bound {h : Nat} {b : Int} (hb : b = 2 * (h : Int) + 1) : ∀ {p : Pl}, Within h p → 2 * keyP b p < b ^ p.length ∧ -(b ^ p.length) < 2 * keyP b p
  | [], _ => by
    show 2 * (0 : Int) < b ^ 0 ∧ -(b ^ 0) < 2 * (0 : Int)
    rw [Int.pow_zero]
    decide
  | x :: r, w => by
    obtain ⟨h1, h2⟩ := keyP_bound hb w.tail
    have hx := w x List.mem_cons_self
    have hp := pow_pos' (show 0 < b by omega) r.length
    show 2 * (x * b ^ r.length + keyP b r) < b ^ (r.length + 1) ∧ -(b ^ (r.length + 1)) < 2 * (x * b ^ r.length + keyP b r)
    rw [Int.pow_succ]
    generalize b ^ r.length = B at h1 h2 hp ⊢
    generalize keyP b r = k at h1 h2 ⊢
    subst hb
    have e1 : x * B ≤ (h : Int) * B := Int.mul_le_mul_of_nonneg_right (by omega) (by omega)
    have e2 : -(h : Int) * B ≤ x * B := Int.mul_le_mul_of_nonneg_right (by omega) (by omega)
    have e3 : B * (2 * (h : Int) + 1) = 2 * ((h : Int) * B) + B := by
      rw [Int.mul_add, Int.mul_one, Int.mul_comm B (2 * (h : Int)), Int.mul_assoc]
    have e4 : -(h : Int) * B = -((h : Int) * B) := Int.neg_mul _ _
    omega
theorem keyP_lt {h : Nat} {b : Int} (hb : b = 2 * (h : Int) + 1) : ∀ {p q : Pl}, p.length = q.length → Within h p → Within h q → HT.lexLt p q = true → keyP b p < keyP b q
  | [], [], _, _, _, e => by cases e
  | [], _ :: _, h, _, _, _ => by cases h
  | _ :: _, [], h, _, _, _ => by cases h
  | x :: r, y :: t, hl, w1, w2, e => by
    have hl' : r.length = t.length := Nat.succ.inj hl
    rw [HT.lexLt_cons] at e
    show x * b ^ r.length + keyP b r < y * b ^ t.length + keyP b t
    rw [hl']
    by_cases z : x = y
    · rw [if_pos z] at e
      have := keyP_lt hb hl' w1.tail w2.tail e
      rw [z]
      omega
    · rw [if_neg z] at e
      have z2 : x < y := of_decide_eq_true e
      obtain ⟨a1, a2⟩ := keyP_bound hb w1.tail
      obtain ⟨b1, b2⟩ := keyP_bound hb w2.tail
      rw [hl'] at a1 a2
      have hp := pow_pos' (show 0 < b by omega) t.length
      generalize b ^ t.length = B at a1 a2 b1 b2 hp ⊢
      have e1 : (x + 1) * B ≤ y * B := Int.mul_le_mul_of_nonneg_right (by omega) (by omega)
      rw [Int.add_mul, Int.one_mul] at e1
      omega
theorem lex_tri : ∀ {p q : Pl}, p.length = q.length → HT.lexLt p q = true ∨ p = q ∨ HT.lexLt q p = true
  | [], [], _ => .inr (.inl rfl)
  | [], _ :: _, h => by cases h
  | _ :: _, [], h => by cases h
  | x :: r, y :: t, hl => by
    rw [HT.lexLt_cons, HT.lexLt_cons]
    by_cases z : x = y
    · subst z
      rw [if_pos rfl, if_pos rfl]
      rcases lex_tri (Nat.succ.inj hl : r.length = t.length) with h | h | h
      · exact .inl h
      · exact .inr (.inl (by rw [h]))
      · exact .inr (.inr h)
    · rw [if_neg z, if_neg (fun e => z e.symm)]
      by_cases c : x < y
      · exact .inl (decide_eq_true c)
      · exact .inr (.inr (decide_eq_true (by omega)))
theorem keyP_inj {h : Nat} {b : Int} (hb : b = 2 * (h : Int) + 1) {p q : Pl} (hl : p.length = q.length) (w1 : Within h p) (w2 : Within h q) (e : keyP b p = keyP b q) : p = q := by
  rcases lex_tri hl with z | z | z
  · have := keyP_lt hb hl w1 w2 z
    omega
  · exact z
  · have := keyP_lt hb hl.symm w2 w1 z
    omega
theorem keyP_le {h : Nat} {b : Int} (hb : b = 2 * (h : Int) + 1) {p q : Pl} (hl : p.length = q.length) (w1 : Within h p) (w2 : Within h q) (e : keyP b p ≤ keyP b q) : HT.lexLt q p = false := by
  cases z : HT.lexLt q p with
  | false => rfl
  | true =>
    have := keyP_lt hb hl.symm w2 w1 z
    omega
/-- the last number of a place, from its key -/
theorem digit {h : Nat} {b k x : Int} (hb : b = 2 * (h : Int) + 1) (hx : x.natAbs ≤ h) : (k * b + x + h) % b - h = x ∧ (k * b + x - x) / b = k := by
  have hpos : 0 < b := by omega
  have e1 : (k * b + x + h) % b = x + h := by
    rw [show k * b + x + (h : Int) = x + h + k * b by omega, Int.add_mul_emod_self_right]
    exact Int.emod_eq_of_lt (by omega) (by omega)
  refine ⟨by omega, ?_⟩
  rw [show k * b + x - x = k * b by omega, Int.mul_ediv_cancel _ (by omega)]
end OT

set_option Elab.async false
set_option linter.all false
set_option maxRecDepth 100000
set_option maxHeartbeats 2000000
namespace OT
open PySem PySem.Spec PyProof.Rows L2
/-- two fors: the outer one over a list -/
theorem lc2_out {K : PySem.W.Frag} {a : Addr} {xs : List V} {g : TG} {tt : TT} {wi1 : TI} {g1 : TG} {tt1 : TT} {te : TE} {vs vs1 : List Nat} {σ : L2.St} {H1 : Hp} {D : Addr} {Qd : Hp → Prop} (Pv : Nat → Hp → Prop) (h0 : Pv 0 (upd H1 D (.lst []))) (hl : ∀ i H, i ≤ xs.length → Pv i H → SqL K H a xs)
    (hs : ∀ i x H, xs[i]? = some x → Pv i H → g x (wipe σ vs) H fun σ2 H2 => wipe σ2 vs = wipe σ vs ∧ tt σ2 H2 fun b H3 =>
      if b = true then wi1 σ2 H3 fun J1 H4 => ∃ W1 : Nat → Nat → Hp → Prop, (∃ m, W1 0 m H4) ∧ ∀ j k H, W1 j k H →
        (J1.stop j H ∧ Pv (i + 1) H) ∨ (J1.go j H ∧ ∃ Nx1 : Hp → Prop, (∀ H', Nx1 H' → ∃ k', k' < k ∧ W1 (j + 1) k' H') ∧ ∀ x H', J1.yld j H x H' → g1 x (wipe σ2 vs1) H' fun σ3 H5 => wipe σ3 vs1 = wipe σ2 vs1 ∧ tt1 σ3 H5 fun b H6 =>
          if b = true then te σ3 H6 fun y H7 => ∃ acc, H7 D = some (.lst acc) ∧ acc.length < sizeLine ∧ Nx1 (upd H7 D (.lst (acc ++ [y]))) else Nx1 H6)
      else Pv (i + 1) H3) (hd : ∀ H, Pv xs.length H → Qd H) :
    ∃ W : Nat → Nat → Hp → Prop, (∃ m, W 0 m (upd H1 D (.lst []))) ∧ ∀ i m H, W i m H →
      ((Itl K a).stop i H ∧ Qd H) ∨ ((Itl K a).go i H ∧ ∃ Nx : Hp → Prop, (∀ H', Nx H' → ∃ m', m' < m ∧ W (i + 1) m' H') ∧ ∀ x H', (Itl K a).yld i H x H' → g x (wipe σ vs) H' fun σ2 H2 => wipe σ2 vs = wipe σ vs ∧ tt σ2 H2 fun b H3 =>
        if b = true then wi1 σ2 H3 fun J1 H4 => ∃ W1 : Nat → Nat → Hp → Prop, (∃ m, W1 0 m H4) ∧ ∀ j k H, W1 j k H →
          (J1.stop j H ∧ Nx H) ∨ (J1.go j H ∧ ∃ Nx1 : Hp → Prop, (∀ H', Nx1 H' → ∃ k', k' < k ∧ W1 (j + 1) k' H') ∧ ∀ x H', J1.yld j H x H' → g1 x (wipe σ2 vs1) H' fun σ3 H5 => wipe σ3 vs1 = wipe σ2 vs1 ∧ tt1 σ3 H5 fun b H6 =>
            if b = true then te σ3 H6 fun y H7 => ∃ acc, H7 D = some (.lst acc) ∧ acc.length < sizeLine ∧ Nx1 (upd H7 D (.lst (acc ++ [y]))) else Nx1 H6)
        else Nx H3) := by
  refine ⟨fun i m H => m = xs.length - i ∧ i ≤ xs.length ∧ Pv i H, ⟨xs.length, by simp, Nat.zero_le _, h0⟩, ?_⟩
  rintro i m H ⟨rfl, hi, p⟩
  have q := hl i H hi p
  by_cases hlt : i < xs.length
  · refine .inr ⟨⟨xs, xs[i], q, by simp [hlt]⟩, Pv (i + 1), fun H' p' => ⟨xs.length - (i + 1), by omega, rfl, hlt, p'⟩, fun x H' y => ?_⟩
    obtain ⟨e, y⟩ := y
    subst e
    exact hs i x _ (y xs q) p
  · have e : i = xs.length := by omega
    subst e
    exact .inl ⟨⟨xs, q, Nat.le_refl _⟩, hd H p⟩
/-- the inner one over a tuple -/
theorem lc2_tup {K : PySem.W.Frag} {a : Addr} {ys : List V} {g1 : TG} {tt1 : TT} {te : TE} {vs1 : List Nat} {σ2 : L2.St} {H4 : Hp} {D : Addr} {Nx : Hp → Prop} (Pw : Nat → Hp → Prop) (h0 : Pw 0 H4) (hl : ∀ j H, j ≤ ys.length → Pw j H → SqT K H a ys)
    (hs : ∀ j y H, ys[j]? = some y → Pw j H → g1 y (wipe σ2 vs1) H fun σ3 H5 => wipe σ3 vs1 = wipe σ2 vs1 ∧ tt1 σ3 H5 fun b H6 =>
      if b = true then te σ3 H6 fun y H7 => ∃ acc, H7 D = some (.lst acc) ∧ acc.length < sizeLine ∧ Pw (j + 1) (upd H7 D (.lst (acc ++ [y]))) else Pw (j + 1) H6) (hd : ∀ H, Pw ys.length H → Nx H) :
    ∃ W1 : Nat → Nat → Hp → Prop, (∃ m, W1 0 m H4) ∧ ∀ j k H, W1 j k H →
      ((Itt K a).stop j H ∧ Nx H) ∨ ((Itt K a).go j H ∧ ∃ Nx1 : Hp → Prop, (∀ H', Nx1 H' → ∃ k', k' < k ∧ W1 (j + 1) k' H') ∧ ∀ x H', (Itt K a).yld j H x H' → g1 x (wipe σ2 vs1) H' fun σ3 H5 => wipe σ3 vs1 = wipe σ2 vs1 ∧ tt1 σ3 H5 fun b H6 =>
        if b = true then te σ3 H6 fun y H7 => ∃ acc, H7 D = some (.lst acc) ∧ acc.length < sizeLine ∧ Nx1 (upd H7 D (.lst (acc ++ [y]))) else Nx1 H6) := by
  refine ⟨fun j k H => k = ys.length - j ∧ j ≤ ys.length ∧ Pw j H, ⟨ys.length, by simp, Nat.zero_le _, h0⟩, ?_⟩
  rintro j k H ⟨rfl, hj, p⟩
  have q := hl j H hj p
  by_cases hlt : j < ys.length
  · refine .inr ⟨⟨ys, ys[j], q, by simp [hlt]⟩, Pw (j + 1), fun H' p' => ⟨ys.length - (j + 1), by omega, rfl, hlt, p'⟩, fun x H' y => ?_⟩
    obtain ⟨e, y⟩ := y
    subst e
    exact hs j x _ (y ys q) p
  · have e : j = ys.length := by omega
    subst e
    exact .inl ⟨⟨ys, q, Nat.le_refl _⟩, hd H p⟩
section
variable {P : Program} {w : World} {K : PySem.W.Frag} {mg : Str → Option Value} {base : Heap}
/-- the greatest absolute coordinate -/
def ReachIs (es : List Ent) (h : Nat) : Prop := (∀ e ∈ es, Within h e.1) ∧ ∀ C : Nat, (∀ e ∈ es, Within C e.1) → h ≤ C
def absP (p : Pl) : List Int := p.map fun x => if x < 0 then -x else x
def coords (es : List Ent) : List Int := es.flatMap fun e => absP e.1
theorem coords_len : ∀ {es : List Ent}, (∀ e ∈ es, e.1.length ≤ 3) → (coords es).length ≤ 3 * es.length
  | [], _ => Nat.le_refl _
  | e :: r, h => by
    have ih := coords_len (es := r) fun x hx => h x (List.mem_cons_of_mem _ hx)
    have h1 := h e List.mem_cons_self
    show (absP e.1 ++ coords r).length ≤ 3 * (r.length + 1)
    rw [List.length_append, show (absP e.1).length = e.1.length from List.length_map _]
    omega
theorem coords_mem {es : List Ent} {n : Int} : n ∈ coords es ↔ ∃ e ∈ es, ∃ x ∈ e.1, n = (x.natAbs : Int) := by
  unfold coords absP
  rw [List.mem_flatMap]
  constructor
  · rintro ⟨e, he, h⟩
    obtain ⟨x, hx, rfl⟩ := List.mem_map.mp h
    refine ⟨e, he, x, hx, ?_⟩
    by_cases z : x < 0
    · rw [if_pos z]
      omega
    · rw [if_neg z]
      omega
  · rintro ⟨e, he, x, hx, rfl⟩
    refine ⟨e, he, List.mem_map.mpr ⟨x, hx, ?_⟩⟩
    by_cases z : x < 0
    · rw [if_pos z]
      omega
    · rw [if_neg z]
      omega
theorem reach_nil {es : List Ent} (h : coords es = []) : ReachIs es 0 := by
  refine ⟨fun e he x hx => ?_, fun C _ => Nat.zero_le _⟩
  have : (x.natAbs : Int) ∈ coords es := coords_mem.mpr ⟨e, he, x, hx, rfl⟩
  rw [h] at this
  cases this
theorem reach_max {es : List Ent} {m : Int} (hm : m ∈ coords es) (hb : ∀ y ∈ coords es, y ≤ m) : ∃ h : Nat, m = (h : Int) ∧ ReachIs es h := by
  obtain ⟨e, he, x, hx, rfl⟩ := coords_mem.mp hm
  refine ⟨x.natAbs, rfl, fun e' he' x' hx' => ?_, fun C h => h e he x hx⟩
  have := hb _ (coords_mem.mpr ⟨e', he', x', hx', rfl⟩)
  omega
def spReach (K : PySem.W.Frag) : Sp := fun vs H Q _ => ∃ (a : Addr) (xs : List V) (es : List Ent), vs = [.ref a] ∧ SqL K H a xs ∧ Ents H xs es ∧ es.length ≤ 1000 ∧ (∀ e ∈ es, e.1.length ≤ 3) ∧ ∀ h H', ReachIs es h → Same H H' → Q (.int (h : Nat)) H'
theorem c_reach {f : Addr} {fd : FuncData} (D : C8.Def K mg "reach" s_reach f fd) (b : Binds K fd ["row"] []) (T : Bi mg) : C8.Cal P w K mg base 1 "reach" (spReach K) [] := by
  refine C8.cal0 D b .nil sc_reach (fun vs H Q E h => ?_) (fun cdv A outer s H vs Q E hr h => ?_)
  · obtain ⟨a, xs, es, rfl, _⟩ := h
    rfl
  · obtain ⟨a, xs, es, rfl, hS, hE, hz, hd, q⟩ := h
    refine ⟨_, (pss_one (ps_ret (pe_callBK (show CallRK _ _ _ (OW.rMaxDf K) from OW.cr_maxDf rfl hr.units) (by rfl) T.n_max OT.b_max (pa_cons (pe_lc2 (own := [("place", 2), ("number", 3), ("x", 1)]) (vs1 := [1]) (g := (gTup K 2 (gCons (gName 2) (gCons (gName 3) gNil)))) (g1 := (gName 1)) (tt := tYes) (tt1 := tYes) rfl sc_reach.nd (pi_list (pv 0)) (blkOk_by (N := ["row", "x", "place", "number"]) (sc := C8.fnScope s_reach) (by decide +kernel)) (by decide) (fun _ _ _ _ _ => (pg_tup rfl (pgs_cons (pg_name (i := 2) sc_reach.nd rfl (Or.inl rfl)) (pgs_cons (pg_name (i := 3) sc_reach.nd rfl (Or.inl rfl)) pgs_nil)))) (fun _ _ _ _ _ => pts_nil) (fun _ _ _ _ _ => (show PI _ _ _ (iTup K (tVar 2)) from pi_tup (pe_var (i := 2) rfl (.inl rfl)))) (fun _ _ _ _ _ => (pg_name (i := 1) sc_reach.nd rfl (Or.inl rfl))) (fun _ _ _ _ _ => pts_nil) (fun _ _ _ _ _ => (pe_callB call_abs (by rfl) T.n_abs OT.b_abs (pa_cons (pv 1) pa_nil)))) pa_nil) (pk_cons pe_int pk_nil)))), ?_⟩
    refine ⟨_, rfl, a, rfl, ⟨_, hS⟩, fun D nD => ?_⟩
    refine lc2_out (K := K) (xs := xs) (fun i H2 => Same H H2 ∧ H2 D = some (.lst ((coords (es.take i)).map V.int))) ⟨same_upd nD, upd_same⟩ ?_ ?_ ?_
    · rintro i H2 _ ⟨sm, _⟩
      exact sm.seq hS
    · rintro i v H2 hv ⟨sm, hp⟩
      obtain ⟨e, he, t, p, rfl, ht, hpe⟩ := hE.get hv
      have hie := (List.getElem?_eq_some_iff.mp he).1
      have hem : e ∈ es := List.mem_of_getElem? he
      have h3 := hd e hem
      have hc1 := coords_len (es := es.take i) fun x hx => hd x (List.mem_of_mem_take hx)
      rw [List.length_take] at hc1
      refine ⟨t, _, rfl, .inl (.inl (sm _ _ ht)), rfl, _, _, rfl, _, _, rfl, rfl, rfl, tYes_of ?_⟩
      have hT : SqT K H2 p (e.1.map V.int) := .inl (.inl (sm _ _ hpe))
      refine ⟨_, rfl, p, rfl, ⟨_, hT⟩, ?_⟩
      refine lc2_tup (K := K) (ys := e.1.map V.int) (fun j H3 => Same H H3 ∧ H3 D = some (.lst ((coords (es.take i) ++ absP (e.1.take j)).map V.int))) ⟨sm, ?_⟩ ?_ ?_ ?_
      · rw [hp, show absP (e.1.take 0) = [] from rfl, List.append_nil]
      · rintro j H3 _ ⟨sm3, _⟩
        exact .inl (.inl (sm3 _ _ hpe))
      · rintro j y H3 hy ⟨sm3, hp3⟩
        obtain ⟨hj, rfl⟩ := getm hy
        refine ⟨rfl, tYes_of ?_⟩
        refine ⟨_, rfl, e.1[j], rfl, _, hp3, ?_, same_mut sm3 nD, ?_⟩
        · have hj3 := h3
          rw [List.length_map, List.length_append, show (absP (e.1.take j)).length = (e.1.take j).length from List.length_map _, List.length_take]
          exact small100k (by omega)
        · rw [upd_same, List.take_add_one, List.getElem?_eq_getElem hj]
          show some (HO.lst _) = some (HO.lst (List.map V.int (coords (es.take i) ++ List.map _ (e.1.take j ++ [e.1[j]]))))
          rw [List.map_append (l₂ := [e.1[j]]), ← List.append_assoc, List.map_append (l₂ := List.map _ [e.1[j]])]
          rfl
      · rintro H3 ⟨sm3, hp3⟩
        refine ⟨sm3, ?_⟩
        rw [List.length_map, List.take_length] at hp3
        rw [hp3, take_snoc he]
        show _ = some (HO.lst (List.map V.int (List.flatMap _ (es.take i ++ [e]))))
        rw [List.flatMap_append]
        simp [coords]
    · rintro H2 ⟨sm, hp⟩
      rw [hE.len, List.take_length] at hp
      refine ⟨D, coords es, 0, rfl, rfl, .inl (.inl hp), fun h0 => q 0 H2 (reach_nil h0) sm, fun m hm hb => ?_⟩
      obtain ⟨h, rfl, hR⟩ := reach_max hm hb
      exact q h H2 hR sm
end
end OT

set_option Elab.async false
set_option linter.all false
set_option maxRecDepth 100000
set_option maxHeartbeats 2000000
namespace OT
open PySem PySem.Spec PyProof.Rows L2
section
variable {P : Program} {w : World} {K : PySem.W.Frag} {mg : Str → Option Value} {base : Heap}
structure RowL (K : PySem.W.Frag) (H : Hp) (a : Addr) (xs : List V) (es : List Ent) : Prop where
  l : SqL K H a xs
  e : Ents H xs es
  z : es.length ≤ 1000
  d : ∀ e ∈ es, e.1.length ≤ 3
theorem RowL.mono {H H' : Hp} {a : Addr} {xs : List V} {es : List Ent} (s : Same H H') (h : RowL K H a xs es) : RowL K H' a xs es := ⟨s.seq h.l, h.e.mono s, h.z, h.d⟩
def spKB (K : PySem.W.Frag) : Sp := fun vs H Q _ => ∃ (a b : Addr) (xs ys : List V) (es fs : List Ent), vs = [.ref a, .ref b] ∧ RowL K H a xs es ∧ RowL K H b ys fs ∧ ∀ h g H', ReachIs es h → ReachIs fs g → Same H H' → Q (.int (2 * ((h + g : Nat) : Int) + 1)) H'
theorem c_key_base {f : Addr} {fd : FuncData} (D : C8.Def K mg "key_base" s_key_base f fd) (b : Binds K fd ["first", "second"] []) (T : Bi mg) (c_reach : C8.Cal P w K mg base 1 "reach" (spReach K) []) : C8.Cal P w K mg base 2 "key_base" (spKB K) [] := by
  refine C8.cal0 D b .nil sc_key_base (fun vs H Q E h => ?_) (fun cdv A outer s H vs Q E hr h => ?_)
  · obtain ⟨a, b, xs, ys, es, fs, rfl, _⟩ := h
    rfl
  · obtain ⟨a, b, xs, ys, es, fs, rfl, hR, hS, q⟩ := h
    refine ⟨_, (pss_one (ps_ret (pe_op op_add (pe_op op_mul pe_int (pe_op op_add (C8.pe_c c_reach hr (by decide) (by rfl) (pa_cons (pv 0) pa_nil)) (C8.pe_c c_reach hr (by decide) (by rfl) (pa_cons (pv 1) pa_nil)))) pe_int))), ?_⟩
    refine ⟨_, rfl, a, xs, es, rfl, hR.l, hR.e, hR.z, hR.d, fun h H2 hh s2 => ?_⟩
    have hS2 := hS.mono s2
    refine ⟨_, rfl, b, ys, fs, rfl, hS2.l, hS2.e, hS2.z, hS2.d, fun g H3 hg s3 => ?_⟩
    refine ⟨_, _, rfl, rfl, _, _, rfl, rfl, .inl ⟨by decide, by decide⟩, _, _, rfl, rfl, ?_⟩
    have e : (2 : Int) * ((h : Int) + (g : Int)) + 1 = 2 * ((h + g : Nat) : Int) + 1 := by omega
    show Q (.int ((2 : Int) * ((h : Int) + (g : Int)) + 1)) H3
    rw [e]
    exact q h g H3 hh hg (s2.trans s3)
def spKO (K : PySem.W.Frag) : Sp := fun vs H Q _ => ∃ (a : Addr) (p : Pl) (b : Int), vs = [.ref a, .int b] ∧ SqT K H a (p.map V.int) ∧ (-(2 ^ 64) < b ∧ b < 2 ^ 64) ∧ Q (.int (keyP b p)) H
theorem c_key_of {f : Addr} {fd : FuncData} (D : C8.Def K mg "key_of" s_key_of f fd) (b : Binds K fd ["place", "base"] []) (T : Bi mg) : C8.Cal P w K mg base 1 "key_of" (spKO K) [] := by
  refine C8.cal0 D b .nil sc_key_of (fun vs H Q E h => ?_) (fun cdv A outer s H vs Q E hr h => ?_)
  · obtain ⟨a, p, b, rfl, _⟩ := h
    rfl
  · obtain ⟨a, p, b, rfl, hS, hb, q⟩ := h
    refine ⟨_, (pss_cons (ps_set (i := 2) sc_key_of.nd rfl (Or.inl rfl) pe_int)
  (pss_cons (ps_for PassesOwn.never rfl (pi_tup (pv 0)) (pg_name (i := 3) sc_key_of.nd rfl (Or.inl rfl)) (pss_one (ps_set (i := 2) sc_key_of.nd rfl (Or.inl rfl) (pe_op op_add (pe_op op_mul (pv 2) (pv 1)) (pv 3)))))
  (pss_one (ps_ret (pv 2))))), ?_⟩
    refine ⟨_, rfl, a, rfl, ⟨_, hS⟩, ?_⟩
    refine for_tup (K := K) (xs := p.map V.int) (fun i σ H2 => ∃ y, σ = [some (.ref a), some (.int b), some (.int (keyP b (p.take i))), y] ∧ H2 = H) ⟨none, rfl, rfl⟩ ?_ ?_ ?_
    · rintro i σ H2 _ ⟨_, _, rfl⟩
      exact hS
    · rintro i x σ H2 hx ⟨y, rfl, rfl⟩
      obtain ⟨hi, rfl⟩ := getm hx
      refine ⟨_, rfl, _, rfl, _, _, rfl, rfl, .inr hb, _, rfl, _, _, rfl, rfl, ?_⟩
      refine ⟨some (V.int p[i]), ?_, rfl⟩
      rw [List.take_add_one, List.getElem?_eq_getElem hi]
      show _ = [some (V.ref a), some (V.int b), some (V.int (keyP b (p.take i ++ [p[i]]))), _]
      rw [keyP_snoc]
      rfl
    · rintro σ H2 ⟨y, rfl, rfl⟩
      rw [List.length_map, List.take_length]
      exact ⟨_, rfl, q⟩
def spPO : Sp := fun vs H Q _ => ∃ (p : Pl) (h : Nat), vs = [.int (keyP (2 * (h : Int) + 1) p), .int (2 * (h : Int) + 1), .int (p.length : Int)] ∧ Within h p ∧ p.length ≤ 1000 ∧ h ≤ 100000000 ∧ ∀ q H', Same H H' → H' q = some (.tup (p.map V.int)) → Q (.ref q) H'
theorem c_place_of {f : Addr} {fd : FuncData} (D : C8.Def K mg "place_of" s_place_of f fd) (b : Binds K fd ["key", "base", "length"] []) (T : Bi mg) : C8.Cal P w K mg base 1 "place_of" spPO [] := by
  refine C8.cal0 D b .nil sc_place_of (fun vs H Q E h => ?_) (fun cdv A outer s H vs Q E hr h => ?_)
  · obtain ⟨p, h, rfl, _⟩ := h
    rfl
  · obtain ⟨p, h, rfl, hw, hl, hh, q⟩ := h
    refine ⟨_, (pss_cons (ps_set (i := 3) sc_place_of.nd rfl (Or.inl rfl) (pe_op op_fdiv (pv 1) pe_int))
  (pss_cons (ps_set (i := 4) sc_place_of.nd rfl (Or.inl rfl) (pe_lst pa_nil))
  (pss_cons (ps_for PassesOwn.never rfl (pi_range1 rfl T.n_range (pa_cons (pv 2) pa_nil)) (pg_name (i := 5) sc_place_of.nd rfl (Or.inl rfl)) (pss_cons (ps_set (i := 6) sc_place_of.nd rfl (Or.inl rfl) (pe_op op_sub (pe_op op_mod (pe_op op_add (pv 0) (pv 3)) (pv 1)) (pv 3)))
  (pss_cons (ps_expr (pe_bm PySem.F.plainAttrs_list PySem.F.slot_list_append PySem.F.type_list_append mt_append (pv 4) (pa_cons (pv 6) pa_nil)))
  (pss_one (ps_set (i := 0) sc_place_of.nd rfl (Or.inl rfl) (pe_op op_fdiv (pe_op op_sub (pv 0) (pv 6)) (pv 1)))))))
  (pss_one (ps_ret (pe_callTy call_tuple_of (by rfl) T.n_tuple OT.b_tuple (pa_cons (pe_revL (pv 4)) pa_nil))))))), ?_⟩
    refine ⟨_, rfl, _, _, rfl, rfl, ⟨by decide, by decide⟩, ?_⟩
    have e1 : (2 * (h : Int) + 1) / 2 = (h : Int) := by omega
    refine ⟨by decide, fun c nc => ?_⟩
    refine ⟨_, rfl, (p.length : Int), rfl, by omega, by omega, ?_⟩
    rw [Int.toNat_natCast]
    refine for_range (lo := 0) (n := p.length) (fun i σ H2 => ∃ y5 y6 : Option V, σ = [some (.int (keyP (2 * (h : Int) + 1) (p.take (p.length - i)))), some (.int (2 * (h : Int) + 1)), some (.int (p.length : Int)), some (.int (h : Int)), some (.ref c), y5, y6] ∧ Same H H2 ∧ H2 c = some (.lst ((p.reverse.take i).map V.int))) ?_ ?_ ?_
    · refine ⟨none, none, ?_, same_upd nc, upd_same⟩
      rw [Nat.sub_zero, List.take_length]
      show [_, _, _, some (V.int ((2 * (h : Int) + 1) / 2)), _, _, _] = _
      rw [e1]
    · rintro i σ H2 hi ⟨y5, y6, rfl, sm, hc⟩
      have hn : p.length - (i + 1) < p.length := by omega
      have hs : p.take (p.length - i) = p.take (p.length - (i + 1)) ++ [p[p.length - (i + 1)]] := by
        rw [show p.length - i = p.length - (i + 1) + 1 by omega, List.take_add_one, List.getElem?_eq_getElem hn]
        rfl
      have hr : p.reverse[i]? = some (p[p.length - (i + 1)]) := by
        rw [List.getElem?_reverse hi, List.getElem?_eq_getElem (by omega)]
        congr 2
        omega
      have hx := hw _ (List.getElem_mem hn)
      rw [hs, keyP_snoc]
      generalize p[p.length - (i + 1)] = x at hr hx ⊢
      generalize hk : keyP (2 * (h : Int) + 1) (p.take (p.length - (i + 1))) = k
      obtain ⟨d1, d2⟩ := digit (b := 2 * (h : Int) + 1) (k := k) rfl hx
      refine ⟨_, rfl, _, rfl, _, _, rfl, rfl, _, rfl, _, _, rfl, rfl, (by show (0 : Int) < 2 * (h : Int) + 1; omega), _, rfl, _, _, rfl, rfl, ?_⟩
      refine ⟨_, rfl, .inl ⟨rfl, _, .inl (.inl hc)⟩, _, rfl, c, _, _, rfl, rfl, hc, ?_, ?_⟩
      · rw [List.length_map, List.length_take]
        exact small1000 (by omega)
      · refine ⟨_, rfl, _, rfl, _, _, rfl, rfl, _, rfl, _, _, rfl, rfl, ⟨by omega, by omega⟩, ?_⟩
        refine ⟨some (V.int (0 + (i : Int))), some (V.int x), ?_, same_mut sm nc, ?_⟩
        · show [some (V.int ((k * (2 * (h : Int) + 1) + x - ((k * (2 * (h : Int) + 1) + x + (h : Int)) % (2 * (h : Int) + 1) - (h : Int))) / (2 * (h : Int) + 1))), _, _, _, _, _, some (V.int ((k * (2 * (h : Int) + 1) + x + (h : Int)) % (2 * (h : Int) + 1) - (h : Int)))] = _
          rw [d1, d2]
        · rw [upd_same, List.take_add_one, hr]
          show some (HO.lst (_ ++ [V.int ((k * (2 * (h : Int) + 1) + x + (h : Int)) % (2 * (h : Int) + 1) - (h : Int))])) = _
          rw [d1, List.map_append]
          rfl
    · rintro σ H2 ⟨y5, y6, rfl, sm, hc⟩
      rw [← List.length_reverse, List.take_length] at hc
      refine ⟨_, rfl, c, _, rfl, .inl (.inl hc), fun r nr => ?_⟩
      refine ⟨r, _, rfl, .inl ⟨.inl (.inl upd_same), fun l nl => ?_⟩⟩
      refine q l _ ((sm.trans (same_upd nr)).trans (same_upd nl)) ?_
      rw [upd_same, ← List.map_reverse, List.reverse_reverse]
end
end OT

set_option Elab.async false
set_option linter.all false
set_option maxRecDepth 100000
set_option maxHeartbeats 2000000
namespace OT
open PySem PySem.Spec PyProof.Rows L2
/-- pairs of a key and a number in the heap -/
def KpAt (H : Hp) (v : V) (e : Int × Int) : Prop := ∃ t, v = .ref t ∧ H t = some (.tup [.int e.1, .int e.2])
inductive Kps (H : Hp) : List V → List (Int × Int) → Prop
  | nil : Kps H [] []
  | cons {v : V} {e : Int × Int} {vs : List V} {es : List (Int × Int)} : KpAt H v e → Kps H vs es → Kps H (v :: vs) (e :: es)
theorem Kps.len {H : Hp} {vs : List V} {es : List (Int × Int)} (h : Kps H vs es) : vs.length = es.length := by
  induction h with
  | nil => rfl
  | cons _ _ ih => rw [List.length_cons, List.length_cons, ih]
theorem KpAt.mono {H H' : Hp} {v : V} {e : Int × Int} (s : Same H H') (h : KpAt H v e) : KpAt H' v e := by
  obtain ⟨t, rfl, h1⟩ := h
  exact ⟨t, rfl, s _ _ h1⟩
theorem Kps.mono {H H' : Hp} {vs : List V} {es : List (Int × Int)} (s : Same H H') (h : Kps H vs es) : Kps H' vs es := by
  induction h with
  | nil => exact .nil
  | cons h1 _ ih => exact .cons (h1.mono s) ih
theorem Kps.app {H : Hp} {vs ws : List V} {es fs : List (Int × Int)} (h : Kps H vs es) (g : Kps H ws fs) : Kps H (vs ++ ws) (es ++ fs) := by
  induction h with
  | nil => exact g
  | cons h1 _ ih => exact .cons h1 ih
theorem Kps.get {H : Hp} {vs : List V} {es : List (Int × Int)} (h : Kps H vs es) : ∀ {i : Nat} {v : V}, vs[i]? = some v → ∃ e, es[i]? = some e ∧ KpAt H v e := by
  induction h with
  | nil => intro i v h; simp at h
  | cons h1 _ ih =>
    intro i v hv
    cases i with
    | zero =>
      cases hv
      exact ⟨_, rfl, h1⟩
    | succ i => exact ih (i := i) hv
theorem KpAt.updL {H : Hp} {D : Addr} {l l' : List V} {v : V} {e : Int × Int} (hD : H D = some (.lst l)) (h : KpAt H v e) : KpAt (upd H D (.lst l')) v e := by
  obtain ⟨t, rfl, h1⟩ := h
  exact ⟨t, rfl, by rw [upd_ne (ne_lst h1 hD)]; exact h1⟩
theorem Kps.updL {H : Hp} {D : Addr} {l l' : List V} {vs : List V} {es : List (Int × Int)} (hD : H D = some (.lst l)) (h : Kps H vs es) : Kps (upd H D (.lst l')) vs es := by
  induction h with
  | nil => exact .nil
  | cons h1 _ ih => exact .cons (h1.updL hD) ih
/-- a dict of sums, its keys places as numbers -/
structure KSums (b : Int) (G : Pl → Prop) (kvs : List (Key × V)) (ks : List Pl) (f : Pl → Int) : Prop where
  keys : kvs.map (·.1) = ks.map fun k => (Sum.inl (keyP b k) : Key)
  val : ∀ k : Pl, G k → valV kvs (Sum.inl (keyP b k)) = if k ∈ ks then some (V.int (f k)) else none
  out : ∀ k, k ∉ ks → f k = 0
  gd : ∀ k ∈ ks, G k
  nod : ks.Nodup
theorem KSums.nil {b : Int} {G : Pl → Prop} : KSums b G [] [] (fun _ => 0) := ⟨rfl, fun k _ => rfl, fun _ _ => rfl, fun k h => (by cases h), .nil⟩
theorem KSums.len {b : Int} {G : Pl → Prop} {kvs : List (Key × V)} {ks : List Pl} {f : Pl → Int} (h : KSums b G kvs ks f) : kvs.length = ks.length := by
  have := congrArg List.length h.keys
  rwa [List.length_map, List.length_map] at this
theorem KSums.put {b : Int} {G : Pl → Prop} (inj : ∀ k l, G k → G l → keyP b k = keyP b l → k = l) {kvs : List (Key × V)} {ks : List Pl} {f : Pl → Int} (h : KSums b G kvs ks f) (k : Pl) (hk : G k) (n : Int) :
    KSums b G (putK kvs (Sum.inl (keyP b k)) (.int (f k + n))) (if k ∈ ks then ks else ks ++ [k]) (fun q => f q + if k = q then n else 0) := by
  have hv := h.val k hk
  refine ⟨?_, fun q hg => ?_, fun q hq => ?_, ?_, ?_⟩
  · by_cases m : k ∈ ks
    · rw [if_pos m] at hv ⊢
      rw [putK_keys (by rw [hv]; rfl), h.keys]
    · rw [if_neg m] at hv ⊢
      rw [putK_new _ hv, List.map_append, List.map_append, h.keys]
      rfl
  · rw [valV_put, h.val q hg]
    by_cases e : q = k
    · subst e
      rw [if_pos rfl, if_pos rfl, if_pos]
      by_cases m : q ∈ ks
      · rw [if_pos m]
        exact m
      · rw [if_neg m]
        exact List.mem_append_right _ List.mem_cons_self
    · have ne1 : ¬ ((Sum.inl (keyP b q) : Key) = Sum.inl (keyP b k)) := fun z => e (inj q k hg hk (Sum.inl.inj z))
      have ne2 : ¬ (k = q) := fun z => e z.symm
      rw [if_neg ne1, if_neg ne2]
      have mm : (q ∈ if k ∈ ks then ks else ks ++ [k]) ↔ q ∈ ks := by
        by_cases m : k ∈ ks
        · rw [if_pos m]
        · rw [if_neg m, List.mem_append, List.mem_singleton]
          exact ⟨fun z => z.elim id fun z => absurd z e, .inl⟩
      by_cases m : q ∈ ks
      · rw [if_pos m, if_pos (mm.mpr m), Int.add_zero]
      · rw [if_neg m, if_neg (fun z => m (mm.mp z))]
  · have hq2 : q ∉ ks ∧ k ≠ q := by
      by_cases m : k ∈ ks
      · rw [if_pos m] at hq
        exact ⟨hq, fun z => hq (z ▸ m)⟩
      · rw [if_neg m] at hq
        exact ⟨fun z => hq (List.mem_append_left _ z), fun z => hq (List.mem_append_right _ (z ▸ List.mem_cons_self))⟩
    show f q + (if k = q then n else 0) = 0
    rw [if_neg hq2.2, h.out q hq2.1]
    rfl
  · intro q hq
    by_cases m : k ∈ ks
    · rw [if_pos m] at hq
      exact h.gd q hq
    · rw [if_neg m] at hq
      rcases List.mem_append.mp hq with z | z
      · exact h.gd q z
      · rw [List.mem_singleton.mp z]
        exact hk
  · by_cases m : k ∈ ks
    · rw [if_pos m]
      exact h.nod
    · rw [if_neg m]
      exact List.nodup_append.mpr ⟨h.nod, List.nodup_cons.mpr ⟨fun z => (by cases z), .nil⟩, fun x hx y hy z => m (by rw [← List.mem_singleton.mp hy, ← z]; exact hx)⟩
theorem KSums.getD {b : Int} {G : Pl → Prop} {kvs : List (Key × V)} {ks : List Pl} {f : Pl → Int} (h : KSums b G kvs ks f) (k : Pl) (hk : G k) : (valV kvs (Sum.inl (keyP b k))).getD (.int 0) = .int (f k) := by
  rw [h.val k hk]
  by_cases m : k ∈ ks
  · rw [if_pos m]
    rfl
  · rw [if_neg m, h.out k m]
    rfl
theorem perm_map {f : Pl → Int} {ys zs : List Int} (h : ys.Perm zs) : ∀ ks : List Pl, zs = ks.map f → ∃ out : List Pl, ys = out.map f ∧ out.Perm ks := by
  induction h with
  | nil =>
    intro ks e
    cases ks with
    | nil => exact ⟨[], rfl, .nil⟩
    | cons k r => cases e
  | cons x _ ih =>
    intro ks e
    cases ks with
    | nil => cases e
    | cons k r =>
      obtain ⟨e1, e2⟩ := List.cons.inj e
      obtain ⟨out, o1, o2⟩ := ih r e2
      exact ⟨k :: out, by rw [List.map_cons, ← e1, ← o1], .cons k o2⟩
  | swap x y l =>
    intro ks e
    match ks, e with
    | [], e => cases e
    | [_], e => cases e
    | k :: k2 :: r, e =>
      obtain ⟨e1, e2⟩ := List.cons.inj e
      obtain ⟨e3, e4⟩ := List.cons.inj e2
      exact ⟨k2 :: k :: r, by rw [List.map_cons, List.map_cons, ← e1, ← e3, ← e4], .swap _ _ _⟩
  | trans _ _ ih1 ih2 =>
    intro ks e
    obtain ⟨o2, e2, p2⟩ := ih2 ks e
    obtain ⟨o1, e1, p1⟩ := ih1 o2 e2
    exact ⟨o1, e1, p1.trans p2⟩
section
variable {P : Program} {w : World} {K : PySem.W.Frag} {mg : Str → Option Value} {base : Heap}
def keyL (b : Int) (es : List Ent) : List (Int × Int) := es.map fun e => (keyP b e.1, e.2)
def spKeyed (K : PySem.W.Frag) : Sp := fun vs H Q _ => ∃ (a : Addr) (xs : List V) (es : List Ent) (b : Int), vs = [.ref a, .int b] ∧ SqL K H a xs ∧ Ents H xs es ∧ es.length ≤ 1000 ∧ (-(2 ^ 64) < b ∧ b < 2 ^ 64) ∧ ∀ p ws H', Same H H' → H p = none → H' p = some (.lst ws) → Kps H' ws (keyL b es) → Q (.ref p) H'
theorem c_keyed {f : Addr} {fd : FuncData} (D : C8.Def K mg "keyed" s_keyed f fd) (b : Binds K fd ["row", "base"] []) (T : Bi mg) (c_key_of : C8.Cal P w K mg base 1 "key_of" (spKO K) []) : C8.Cal P w K mg base 2 "keyed" (spKeyed K) [] := by
  refine C8.cal0 D b .nil sc_keyed (fun vs H Q E h => ?_) (fun cdv A outer s H vs Q E hr h => ?_)
  · obtain ⟨a, xs, es, b, rfl, _⟩ := h
    rfl
  · obtain ⟨a, xs, es, b, rfl, hS, hE, hz, hb, q⟩ := h
    refine ⟨_, (pss_one (ps_ret (pe_lc (own := [("place", 2), ("number", 3)]) (g := (gTup K 2 (gCons (gName 2) (gCons (gName 3) gNil)))) (tt := tYes) rfl sc_keyed.nd (pi_list (pv 0)) (blkOk_by (N := ["row", "base", "place", "number"]) (sc := C8.fnScope s_keyed) (by decide +kernel)) (fun _ _ _ _ _ => (pg_tup rfl (pgs_cons (pg_name (i := 2) sc_keyed.nd rfl (Or.inl rfl)) (pgs_cons (pg_name (i := 3) sc_keyed.nd rfl (Or.inl rfl)) pgs_nil)))) (fun _ _ _ _ _ => pts_nil) (fun _ _ _ _ _ => (pe_tup (pa_cons (C8.pe_c c_key_of hr (by decide) (by rfl) (pa_cons (pv 2) (pa_cons (pv 1) pa_nil))) (pa_cons (pv 3) pa_nil))))))), ?_⟩
    have hx := hE.len
    refine ⟨_, rfl, a, rfl, ⟨_, hS⟩, fun p np => ?_⟩
    refine lc_list (K := K) (xs := xs) (fun i H2 => Same H H2 ∧ ∃ ws, H2 p = some (.lst ws) ∧ Kps H2 ws (keyL b (es.take i))) ?_ ?_ ?_ ?_
    · exact ⟨same_upd np, [], upd_same, .nil⟩
    · rintro i H2 _ ⟨sm, _⟩
      exact sm.seq hS
    · rintro i x H2 hxi ⟨sm, ws, hp, hW⟩
      obtain ⟨e, he, t, pe, rfl, ht, hpe⟩ := (hE.mono sm).get hxi
      obtain ⟨hi, hee⟩ := List.getElem?_eq_some_iff.mp he
      refine ⟨t, _, rfl, .inl (.inl ht), rfl, _, _, rfl, _, _, rfl, rfl, rfl, tYes_of ?_⟩
      refine ⟨_, rfl, _, rfl, pe, e.1, b, rfl, .inl (.inl hpe), hb, ?_⟩
      refine ⟨_, rfl, (by show 2 ≤ sizeLine; decide), fun t4 nt4 => ?_⟩
      have sm4 : Same H2 (upd H2 t4 (.tup [.int (keyP b e.1), .int e.2])) := same_upd nt4
      have hv : KpAt (upd H2 t4 (.tup [.int (keyP b e.1), .int e.2])) (.ref t4) (keyP b e.1, e.2) := ⟨t4, rfl, upd_same⟩
      have hD := sm4 _ _ hp
      have hwl := hW.len
      refine ⟨ws, hD, ?_, same_mut (sm.trans sm4) np, ws ++ [.ref t4], upd_same, ?_⟩
      · unfold keyL at hwl
        rw [List.length_map, List.length_take] at hwl
        exact small100k (by omega)
      · unfold keyL
        rw [take_snoc he, List.map_append]
        exact ((hW.mono sm4).app (.cons hv .nil)).updL hD
    · rintro H2 ⟨sm, ws, hp, hW⟩
      rw [hx, List.take_length] at hW
      exact q p ws H2 sm np hp hW
def Gd (h n : Nat) (k : Pl) : Prop := k.length = n ∧ Within h k
def spUnk : Sp := fun vs H Q _ => ∃ (d : Addr) (h n : Nat) (kvs : List (Key × V)) (ks : List Pl) (es : List Ent), vs = [.ref d, .int (2 * (h : Int) + 1), .int (n : Int)] ∧ H d = some (.dK kvs) ∧ KSums (2 * (h : Int) + 1) (Gd h n) kvs ks (numAt es) ∧ ks.length ≤ 10000 ∧ n ≤ 1000 ∧ h ≤ 100000000 ∧ wantRow H es Q
theorem c_unkeyed {f : Addr} {fd : FuncData} (D : C8.Def K mg "unkeyed" s_unkeyed f fd) (b : Binds K fd ["numbers", "base", "length"] []) (T : Bi mg) (c_place_of : C8.Cal P w K mg base 1 "place_of" spPO []) : C8.Cal P w K mg base 2 "unkeyed" spUnk [] := by
  refine C8.cal0 D b .nil sc_unkeyed (fun vs H Q E h => ?_) (fun cdv A outer s H vs Q E hr h => ?_)
  · obtain ⟨d, h, n, kvs, ks, es, rfl, _⟩ := h
    rfl
  · obtain ⟨d, h, n, kvs, ks, es, rfl, hd, hs, hkl, hn, hh, q⟩ := h
    refine ⟨_, (pss_one (ps_ret (pe_lc (own := [("key", 3)]) (g := (gName 3)) rfl sc_unkeyed.nd (pi_list (pe_callB (OW.cr_sortedDI rfl) (by rfl) T.n_sorted OT.b_sorted (pa_cons (pv 0) pa_nil))) (blkOk_by (N := ["numbers", "base", "length", "key"]) (sc := C8.fnScope s_unkeyed) (by decide +kernel)) (fun _ _ _ _ _ => (pg_name (i := 3) sc_unkeyed.nd rfl (Or.inl rfl))) (fun _ _ _ _ _ => (pts_one (pt_cmpR op_ne (pe_dget (hu_of hr) (pv 0) (pv 3) (fun _ _ => rfl)) pe_int (nomark _)))) (fun _ _ _ _ _ => (pe_tup (pa_cons (C8.pe_c c_place_of hr (by decide) (by rfl) (pa_cons (pv 3) (pa_cons (pv 1) (pa_cons (pv 2) pa_nil)))) (pa_cons (pe_dget (hu_of hr) (pv 0) (pv 3) (fun _ _ => rfl)) pa_nil))))))), ?_⟩
    refine ⟨_, rfl, d, kvs, ks.map (keyP (2 * (h : Int) + 1)), rfl, .inl hd, ?_, fun ys p perm pw np => ?_⟩
    · rw [hs.keys, List.map_map]
      rfl
    obtain ⟨out, rfl, perm2⟩ := perm_map perm ks rfl
    have hgd : ∀ k ∈ out, Gd h n k := fun k hk => hs.gd k (perm2.mem_iff.mp hk)
    have pw2 : out.Pairwise fun a b => HT.lexLt b a = false := by
      refine List.Pairwise.imp_of_mem (fun {a b} ha hb hab => ?_) (List.pairwise_map.mp pw)
      exact keyP_le rfl ((hgd a ha).1.trans (hgd b hb).1.symm) (hgd a ha).2 (hgd b hb).2 hab
    refine ⟨p, rfl, ⟨_, .inl (.inl upd_same)⟩, fun D nD => ?_⟩
    have hpD : p ≠ D := ne_of_none upd_same nD
    obtain ⟨hDn, _⟩ := none_of_upd nD
    have hlo : out.length = ks.length := perm2.length_eq
    refine lc_list (K := K) (a := p) (xs := (out.map (keyP (2 * (h : Int) + 1))).map V.int) (fun i H2 => Same H H2 ∧ H2 p = some (.lst ((out.map (keyP (2 * (h : Int) + 1))).map V.int)) ∧ ∃ ws, H2 D = some (.lst ws) ∧ Ents H2 ws (mkR (numAt es) (out.take i))) ?_ ?_ ?_ ?_
    · refine ⟨(same_upd np).trans (same_upd nD), ?_, [], upd_same, .nil⟩
      rw [upd_ne hpD, upd_same]
    · rintro i H2 _ ⟨_, hp, _⟩
      exact .inl (.inl hp)
    · rintro i x H2 hx ⟨sm, hp, ws, hD, hE⟩
      rw [List.map_map] at hx
      obtain ⟨hi, rfl⟩ := getm hx
      have hm := List.getElem_mem hi
      have hg := hgd _ hm
      have hv := hs.val _ hg
      rw [if_pos (perm2.mem_iff.mp hm)] at hv
      have hd2 := sm _ _ hd
      have hget : DGet H2 d (.int (keyP (2 * (h : Int) + 1) out[i])) (some (.int (numAt es out[i]))) := by
        rw [← hv]
        exact DGet.k (k := Sum.inl (keyP (2 * (h : Int) + 1) out[i])) hd2
      refine ⟨rfl, _, rfl, _, rfl, d, _, rfl, hget, ?_⟩
      refine ⟨rfl, _, rfl, ?_⟩
      have htk : out.take (i + 1) = out.take i ++ [out[i]] := by
        rw [List.take_add_one, List.getElem?_eq_getElem hi]
        rfl
      rw [htk, mkR_snoc]
      refine iteND (fun hn' => ?_) (fun h0 => ?_)
      · have hn0 : numAt es out[i] ≠ 0 := fun z => hn' (by rw [z])
        rw [if_neg hn0]
        refine ⟨_, rfl, _, rfl, _, rfl, out[i], h, ?_, hg.2, by rw [hg.1]; exact hn, hh, fun q2 H3 sm3 hq2 => ?_⟩
        · rw [hg.1]
          rfl
        have hd3 := sm3 _ _ hd2
        have hget3 : DGet H3 d (.int (keyP (2 * (h : Int) + 1) out[i])) (some (.int (numAt es out[i]))) := by
          rw [← hv]
          exact DGet.k (k := Sum.inl (keyP (2 * (h : Int) + 1) out[i])) hd3
        refine ⟨_, rfl, _, rfl, d, _, rfl, hget3, (by show 2 ≤ sizeLine; decide), fun t nt => ?_⟩
        have smt : Same H3 (upd H3 t (.tup [.ref q2, .int (numAt es out[i])])) := same_upd nt
        have smA := sm3.trans smt
        have hD3 := smA _ _ hD
        refine ⟨ws, hD3, ?_, same_mut (sm.trans smA) hDn, ?_, ws ++ [.ref t], upd_same, ?_⟩
        · have h1 := hE.len
          have h2 := mkR_len (numAt es) (out.take i)
          rw [List.length_take] at h2
          exact small100k (by omega)
        · rw [upd_ne hpD]
          exact smA _ _ hp
        · refine ((hE.mono smA).updL hD3).app (.cons (EntAt.updL hD3 ⟨t, _, rfl, upd_same, ?_⟩) .nil)
          exact smt _ _ hq2
      · have h0' : numAt es out[i] = 0 := V.int.inj h0
        rw [if_pos h0', List.append_nil]
        exact ⟨sm, hp, ws, hD, hE⟩
    · rintro H2 ⟨sm, hp, ws, hD, hE⟩
      rw [List.length_map, List.length_map, List.take_length] at hE
      exact q _ D ws H2 (row_sorted perm2 pw2 hs.nod hs.out) sm hDn hD hE
end
end OT

set_option Elab.async false
set_option linter.all false
set_option maxRecDepth 100000
set_option maxHeartbeats 2000000
/-! products of lists of entries: order, brackets, maps -/
namespace OT
open PySem PySem.Spec PyProof.Rows L2
theorem sumW_zero_w : ∀ es : List Ent, sumW (fun _ => 0) es = 0
  | [] => rfl
  | e :: r => by
    show e.2 * 0 + sumW _ r = 0
    rw [sumW_zero_w r, Int.mul_zero]
    rfl
theorem sumW_lin (c : Int) (w v : Pl → Int) : ∀ es : List Ent, sumW (fun l => c * w l + v l) es = c * sumW w es + sumW v es
  | [] => by show (0 : Int) = c * 0 + 0; rw [Int.mul_zero]; rfl
  | e :: r => by
    have ih := sumW_lin c w v r
    show e.2 * (c * w e.1 + v e.1) + sumW _ r = c * (e.2 * w e.1 + sumW w r) + (e.2 * v e.1 + sumW v r)
    rw [ih, Int.mul_add, Int.mul_add, Int.mul_left_comm e.2 c]
    omega
theorem sumW_swap (w : Pl → Pl → Int) (b : List Ent) : ∀ a : List Ent, sumW (fun k => sumW (fun l => w k l) b) a = sumW (fun l => sumW (fun k => w k l) a) b
  | [] => by
    show (0 : Int) = sumW (fun _ => 0) b
    rw [sumW_zero_w]
  | e :: r => by
    have ih := sumW_swap w b r
    show e.2 * sumW (fun l => w e.1 l) b + sumW _ r = sumW (fun l => e.2 * w e.1 l + sumW (fun k => w k l) r) b
    rw [ih, sumW_lin]
theorem prodL_comm {op : Pl → Pl → Pl} (h : ∀ k l, op k l = op l k) (a b : List Ent) (q : Pl) : numAt (prodL op a b) q = numAt (prodL op b a) q := by
  rw [numAt_sumW, numAt_sumW, sumW_prodL, sumW_prodL, sumW_swap]
  refine sumW_congr fun e _ => sumW_congr fun g _ => ?_
  rw [h]
theorem prodL_app (op : Pl → Pl → Pl) (a b c : List Ent) : prodL op (a ++ b) c = prodL op a c ++ prodL op b c := List.flatMap_append
theorem prodL_row {op : Pl → Pl → Pl} (h : ∀ k l m, op (op k l) m = op k (op l m)) (e : Ent) (c : List Ent) : ∀ b : List Ent, prodL op (b.map fun g => (op e.1 g.1, e.2 * g.2)) c = (prodL op b c).map fun g => (op e.1 g.1, e.2 * g.2)
  | [] => rfl
  | g :: r => by
    have ih := prodL_row h e c r
    show (c.map fun x => (op (op e.1 g.1) x.1, e.2 * g.2 * x.2)) ++ prodL op (r.map _) c = ((c.map fun x => (op g.1 x.1, g.2 * x.2)) ++ prodL op r c).map _
    rw [ih, List.map_append, List.map_map]
    refine congrArg (· ++ _) (List.map_congr_left fun x _ => ?_)
    show (op (op e.1 g.1) x.1, e.2 * g.2 * x.2) = (op e.1 (op g.1 x.1), e.2 * (g.2 * x.2))
    rw [h, Int.mul_assoc]
theorem prodL_assoc {op : Pl → Pl → Pl} (h : ∀ k l m, op (op k l) m = op k (op l m)) (b c : List Ent) : ∀ a : List Ent, prodL op (prodL op a b) c = prodL op a (prodL op b c)
  | [] => rfl
  | e :: r => by
    have ih := prodL_assoc h b c r
    show prodL op ((b.map fun g => (op e.1 g.1, e.2 * g.2)) ++ prodL op r b) c = ((prodL op b c).map fun g => (op e.1 g.1, e.2 * g.2)) ++ prodL op r (prodL op b c)
    rw [prodL_app, ih, prodL_row h]
theorem prodL_map {op : Pl → Pl → Pl} {f : Pl → Pl} (h : ∀ k l, f (op k l) = op (f k) (f l)) (b : List Ent) : ∀ a : List Ent, mapF f (prodL op a b) = prodL op (mapF f a) (mapF f b)
  | [] => rfl
  | e :: r => by
    have ih := prodL_map h b r
    show ((b.map fun g => (op e.1 g.1, e.2 * g.2)) ++ prodL op r b).map _ = ((mapF f b).map fun g : Ent => (op (f e.1) g.1, e.2 * g.2)) ++ prodL op (mapF f r) (mapF f b)
    rw [List.map_append, show (prodL op r b).map (fun e => (f e.1, e.2)) = mapF f (prodL op r b) from rfl, ih, List.map_map, show mapF f b = b.map (fun e => (f e.1, e.2)) from rfl, List.map_map]
    refine congrArg (· ++ _) (List.map_congr_left fun g _ => ?_)
    show (f (op e.1 g.1), e.2 * g.2) = (op (f e.1) (f g.1), e.2 * g.2)
    rw [h]
/-- (a b)(c d) is (a c)(b d) -/
theorem prodL_four {op : Pl → Pl → Pl} (hc : ∀ k l, op k l = op l k) (ha : ∀ k l m, op (op k l) m = op k (op l m)) (a b c d : List Ent) (q : Pl) : numAt (prodL op (prodL op a b) (prodL op c d)) q = numAt (prodL op (prodL op a c) (prodL op b d)) q := by
  rw [prodL_assoc ha, prodL_assoc ha]
  refine numAt_prodL_eq op (fun _ => rfl) (fun q => ?_) q
  rw [← prodL_assoc ha, ← prodL_assoc ha]
  exact numAt_prodL_eq op (prodL_comm hc b c) (fun _ => rfl) q
end OT

set_option Elab.async false
set_option linter.all false
set_option maxRecDepth 100000
set_option maxHeartbeats 2000000
namespace OT
open PySem PySem.Spec PyProof.Rows L2
/-! products of rows: the first entry, no zero divisors, the box; the one quotient -/
theorem plusP_com : ∀ k l : Pl, plusP k l = plusP l k
  | [], [] => rfl
  | [], _ :: _ => rfl
  | _ :: _, [] => rfl
  | x :: k, y :: l => by
    show (x + y) :: plusP k l = (y + x) :: plusP l k
    rw [plusP_com k l, Int.add_comm]
theorem timesL_app2 (es a b : List Ent) (q : Pl) : numAt (timesL es (a ++ b)) q = numAt (timesL es a) q + numAt (timesL es b) q := by
  induction es with
  | nil => rfl
  | cons e r ih =>
    show numAt (rowT e (a ++ b) ++ timesL r (a ++ b)) q = numAt (rowT e a ++ timesL r a) q + numAt (rowT e b ++ timesL r b) q
    rw [numAt_app, numAt_app, numAt_app, ih]
    unfold rowT
    rw [List.map_append, numAt_app]
    omega
theorem timesL_neg2 (es a : List Ent) (q : Pl) : numAt (timesL es (negs a)) q = -numAt (timesL es a) q := by
  have h : ∀ e : Ent, rowT e (negs a) = negs (rowT e a) := fun e => by
    unfold rowT negs
    rw [List.map_map, List.map_map]
    refine List.map_congr_left fun x _ => ?_
    show (plusP e.1 x.1, e.2 * -x.2) = (plusP e.1 x.1, -(e.2 * x.2))
    rw [Int.mul_neg]
  induction es with
  | nil => rfl
  | cons e r ih =>
    show numAt (rowT e (negs a) ++ timesL r (negs a)) q = -numAt (rowT e a ++ timesL r a) q
    rw [numAt_app, numAt_app, ih, h, numAt_negs]
    omega
theorem timesL_eq2 (es : List Ent) {a b : List Ent} (h : ∀ q, numAt a q = numAt b q) (q : Pl) : numAt (timesL es a) q = numAt (timesL es b) q := numAt_prodL_eq plusP (fun _ => rfl) h q
theorem timesL_eq1 {a b : List Ent} (es : List Ent) (h : ∀ q, numAt a q = numAt b q) (q : Pl) : numAt (timesL a es) q = numAt (timesL b es) q := numAt_prodL_eq plusP h (fun _ => rfl) q
/-- all places have n numbers -/
def DimN (n : Nat) (es : List Ent) : Prop := ∀ e ∈ es, e.1.length = n
theorem DimN.app {n : Nat} {a b : List Ent} (h : DimN n a) (k : DimN n b) : DimN n (a ++ b) := fun e he => (List.mem_append.mp he).elim (h e) (k e)
theorem DimN.negs {n : Nat} {a : List Ent} (h : DimN n a) : DimN n (negs a) := fun e he => by
  obtain ⟨x, hx, rfl⟩ := List.mem_map.mp he
  exact h x hx
theorem DimN.times {n : Nat} {a b : List Ent} (h : DimN n a) (k : DimN n b) : DimN n (timesL a b) := fun e he => by
  obtain ⟨x, hx, g, hg, rfl⟩ := timesL_mem he
  show (plusP x.1 g.1).length = n
  rw [plusP_len (by rw [h x hx, k g hg]; exact Nat.le_refl _), h x hx]
theorem DimN.of {n : Nat} {r es : List Ent} (h : RowIs r es) (k : DimN n es) : DimN n r := fun e he => by
  obtain ⟨x, hx, e1⟩ := h.mem he
  rw [← e1]
  exact k x hx
theorem DimN.num {n : Nat} {es : List Ent} (h : DimN n es) {q : Pl} (hq : q.length ≠ n) : numAt es q = 0 := numAt_out fun e he z => hq (by rw [← z]; exact h e he)
/-- one entry put into a row -/
def addE (e : Ent) : List Ent → List Ent
  | [] => if e.2 = 0 then [] else [e]
  | f :: r => if HT.lexLt e.1 f.1 = true then (if e.2 = 0 then f :: r else e :: f :: r) else if e.1 = f.1 then (if e.2 + f.2 = 0 then r else (f.1, e.2 + f.2) :: r) else f :: addE e r
theorem addE_num (e : Ent) (q : Pl) : ∀ r : List Ent, numAt (addE e r) q = (if e.1 = q then e.2 else 0) + numAt r q
  | [] => by
    unfold addE
    by_cases h : e.2 = 0
    · rw [if_pos h, h]
      show 0 = (if e.1 = q then (0 : Int) else 0) + 0
      rw [ite_self]
      rfl
    · rw [if_neg h]
      rfl
  | f :: r => by
    have ih := addE_num e q r
    unfold addE
    by_cases c : HT.lexLt e.1 f.1 = true
    · rw [if_pos c]
      by_cases h : e.2 = 0
      · rw [if_pos h, h, ite_self]
        omega
      · rw [if_neg h]
        rfl
    · rw [if_neg c]
      by_cases d : e.1 = f.1
      · rw [if_pos d]
        by_cases h : e.2 + f.2 = 0
        · rw [if_pos h]
          show _ = (if e.1 = q then e.2 else 0) + ((if f.1 = q then f.2 else 0) + numAt r q)
          rw [d]
          by_cases k : f.1 = q
          · rw [if_pos k, if_pos k]
            omega
          · rw [if_neg k, if_neg k]
            omega
        · rw [if_neg h]
          show (if f.1 = q then e.2 + f.2 else 0) + numAt r q = (if e.1 = q then e.2 else 0) + ((if f.1 = q then f.2 else 0) + numAt r q)
          rw [d]
          by_cases k : f.1 = q
          · rw [if_pos k, if_pos k, if_pos k]
            omega
          · rw [if_neg k, if_neg k, if_neg k]
            omega
      · rw [if_neg d]
        show (if f.1 = q then f.2 else 0) + numAt (addE e r) q = _ + ((if f.1 = q then f.2 else 0) + numAt r q)
        rw [ih]
        omega
theorem addE_mem {e x : Ent} : ∀ {r : List Ent}, x ∈ addE e r → x.1 = e.1 ∨ ∃ y ∈ r, y.1 = x.1
  | [], h => by
    unfold addE at h
    by_cases c : e.2 = 0
    · rw [if_pos c] at h
      cases h
    · rw [if_neg c] at h
      exact .inl (by rw [List.mem_singleton.mp h])
  | f :: r, h => by
    unfold addE at h
    by_cases c : HT.lexLt e.1 f.1 = true
    · rw [if_pos c] at h
      by_cases k : e.2 = 0
      · rw [if_pos k] at h
        exact .inr ⟨x, h, rfl⟩
      · rw [if_neg k] at h
        rcases List.mem_cons.mp h with rfl | h
        · exact .inl rfl
        · exact .inr ⟨x, h, rfl⟩
    · rw [if_neg c] at h
      by_cases d : e.1 = f.1
      · rw [if_pos d] at h
        by_cases k : e.2 + f.2 = 0
        · rw [if_pos k] at h
          exact .inr ⟨x, List.mem_cons_of_mem _ h, rfl⟩
        · rw [if_neg k] at h
          rcases List.mem_cons.mp h with rfl | h
          · exact .inl d.symm
          · exact .inr ⟨x, List.mem_cons_of_mem _ h, rfl⟩
      · rw [if_neg d] at h
        rcases List.mem_cons.mp h with rfl | h
        · exact .inr ⟨x, List.mem_cons_self, rfl⟩
        · rcases addE_mem h with h | ⟨y, hy, h⟩
          · exact .inl h
          · exact .inr ⟨y, List.mem_cons_of_mem _ hy, h⟩
theorem addE_valid (e : Ent) : ∀ {r : List Ent}, Valid r → Valid (addE e r)
  | [], _ => by
    unfold addE
    by_cases c : e.2 = 0
    · rw [if_pos c]
      exact ⟨.nil, fun x h => by cases h⟩
    · rw [if_neg c]
      exact ⟨List.pairwise_singleton _ _, fun x h => by rw [List.mem_singleton.mp h]; exact c⟩
  | f :: r, v => by
    obtain ⟨p1, p2⟩ := List.pairwise_cons.mp v.asc
    unfold addE
    by_cases c : HT.lexLt e.1 f.1 = true
    · rw [if_pos c]
      by_cases k : e.2 = 0
      · rw [if_pos k]
        exact v
      · rw [if_neg k]
        refine ⟨List.pairwise_cons.mpr ⟨fun x hx => ?_, v.asc⟩, fun x hx => ?_⟩
        · rcases List.mem_cons.mp hx with rfl | hx
          · exact c
          · exact lt_trans c (p1 x hx)
        · rcases List.mem_cons.mp hx with rfl | hx
          · exact k
          · exact v.nz x hx
    · rw [if_neg c]
      by_cases d : e.1 = f.1
      · rw [if_pos d]
        by_cases k : e.2 + f.2 = 0
        · rw [if_pos k]
          exact v.tail
        · rw [if_neg k]
          refine ⟨List.pairwise_cons.mpr ⟨p1, p2⟩, fun x hx => ?_⟩
          rcases List.mem_cons.mp hx with rfl | hx
          · exact k
          · exact v.nz x (List.mem_cons_of_mem _ hx)
      · rw [if_neg d]
        have ih := addE_valid e v.tail
        refine ⟨List.pairwise_cons.mpr ⟨fun x hx => ?_, ih.asc⟩, fun x hx => ?_⟩
        · rcases addE_mem hx with h | ⟨y, hy, h⟩
          · rw [h]
            cases z : HT.lexLt f.1 e.1 with
            | true => rfl
            | false => exact absurd (lt_tot (by cases w : HT.lexLt e.1 f.1 with | true => exact absurd w c | false => rfl) z) d
          · rw [← h]
            exact p1 y hy
        · rcases List.mem_cons.mp hx with rfl | hx
          · exact v.nz x List.mem_cons_self
          · exact ih.nz x hx
/-- the row of any list of entries -/
def rowOf (es : List Ent) : List Ent := es.foldr addE []
theorem rowOf_is : ∀ es : List Ent, RowIs (rowOf es) es
  | [] => ⟨⟨.nil, fun x h => by cases h⟩, fun _ => rfl⟩
  | e :: r => by
    have ih := rowOf_is r
    refine ⟨addE_valid e ih.v, fun q => ?_⟩
    show numAt (addE e (rowOf r)) q = (if e.1 = q then e.2 else 0) + numAt r q
    rw [addE_num, ih.s]
/-- the first entry of a product -/
theorem lead_at {n : Nat} {f g : Ent} {F G : List Ent} (vF : Valid (f :: F)) (vG : Valid (g :: G)) (dF : DimN n (f :: F)) (dG : DimN n (g :: G)) :
    numAt (timesL (f :: F) (g :: G)) (plusP f.1 g.1) = f.2 * g.2 ∧ ∀ q, HT.lexLt q (plusP f.1 g.1) = true → numAt (timesL (f :: F) (g :: G)) q = 0 := by
  have hf := dF f List.mem_cons_self
  have hg := dG g List.mem_cons_self
  have big : ∀ x ∈ rowT f G ++ timesL F (g :: G), HT.lexLt (plusP f.1 g.1) x.1 = true := fun x hx => by
    rcases List.mem_append.mp hx with hx | hx
    · obtain ⟨y, hy, rfl⟩ := List.mem_map.mp hx
      have h1 := (List.pairwise_cons.mp vG.asc).1 y hy
      have h2 := dG y (List.mem_cons_of_mem _ hy)
      show HT.lexLt (plusP f.1 g.1) (plusP f.1 y.1) = true
      rw [plusP_com f.1 g.1, plusP_com f.1 y.1, plusP_lt (by omega) (by omega)]
      exact h1
    · obtain ⟨e, he, y, hy, rfl⟩ := timesL_mem hx
      have h1 := (List.pairwise_cons.mp vF.asc).1 e he
      have h2 := dG y hy
      have h3 := dF e (List.mem_cons_of_mem _ he)
      show HT.lexLt (plusP f.1 g.1) (plusP e.1 y.1) = true
      have a1 : HT.lexLt (plusP f.1 y.1) (plusP e.1 y.1) = true := by
        rw [plusP_lt (by omega) (by omega)]
        exact h1
      rcases List.mem_cons.mp hy with rfl | hy
      · exact a1
      · refine lt_trans ?_ a1
        rw [plusP_com f.1 g.1, plusP_com f.1 y.1, plusP_lt (by omega) (by omega)]
        exact (List.pairwise_cons.mp vG.asc).1 y hy
  have e0 : timesL (f :: F) (g :: G) = (plusP f.1 g.1, f.2 * g.2) :: (rowT f G ++ timesL F (g :: G)) := rfl
  refine ⟨?_, fun q hq => ?_⟩
  · rw [e0]
    show (if plusP f.1 g.1 = plusP f.1 g.1 then f.2 * g.2 else 0) + numAt (rowT f G ++ timesL F (g :: G)) (plusP f.1 g.1) = _
    rw [if_pos rfl, numAt_out fun x hx z => lt_ne (big x hx) z.symm]
    omega
  · rw [e0]
    refine numAt_out fun x hx z => ?_
    rcases List.mem_cons.mp hx with rfl | hx
    · exact lt_ne hq z.symm
    · exact lt_ne (lt_trans hq (big x hx)) z.symm
theorem no_zero {n : Nat} {F G : List Ent} (vF : Valid F) (vG : Valid G) (dF : DimN n F) (dG : DimN n G) (hF : F ≠ []) (hG : G ≠ []) : ∃ q, numAt (timesL F G) q ≠ 0 := by
  cases F with
  | nil => exact absurd rfl hF
  | cons f F =>
  cases G with
  | nil => exact absurd rfl hG
  | cons g G =>
  refine ⟨plusP f.1 g.1, ?_⟩
  rw [(lead_at vF vG dF dG).1]
  exact Int.mul_ne_zero (vF.nz f List.mem_cons_self) (vG.nz g List.mem_cons_self)
/-- the one quotient -/
theorem quot_one {n : Nat} {F G H : List Ent} (vF : Valid F) (vG : Valid G) (vH : Valid H) (dF : DimN n F) (dG : DimN n G) (dH : DimN n H) (hF : F ≠ []) (e : ∀ q, numAt (timesL F G) q = numAt (timesL F H) q) : G = H := by
  refine vG.ext vH fun q => ?_
  have rr := rowOf_is (G ++ negs H)
  have dr : DimN n (rowOf (G ++ negs H)) := DimN.of rr (dG.app dH.negs)
  have z : rowOf (G ++ negs H) = [] := by
    apply Classical.byContradiction
    intro c
    obtain ⟨p, hp⟩ := no_zero vF rr.v dF dr hF c
    apply hp
    rw [timesL_eq2 F rr.s, timesL_app2, timesL_neg2, e]
    omega
  have := rr.s q
  rw [z, numAt_app, numAt_negs] at this
  have h0 : numAt ([] : List Ent) q = 0 := rfl
  omega
theorem exists_min (φ : Pl → Int) : ∀ {G : List Ent}, G ≠ [] → ∃ g ∈ G, ∀ x ∈ G, φ g.1 ≤ φ x.1
  | [], h => absurd rfl h
  | [g], _ => ⟨g, List.mem_cons_self, fun x hx => by rw [List.mem_singleton.mp hx]; exact Int.le_refl _⟩
  | g :: y :: r, _ => by
    obtain ⟨m, hm, h⟩ := exists_min φ (G := y :: r) (by intro z; cases z)
    by_cases c : φ g.1 ≤ φ m.1
    · refine ⟨g, List.mem_cons_self, fun x hx => ?_⟩
      rcases List.mem_cons.mp hx with rfl | hx
      · exact Int.le_refl _
      · exact Int.le_trans c (h x hx)
    · refine ⟨m, List.mem_cons_of_mem _ hm, fun x hx => ?_⟩
      rcases List.mem_cons.mp hx with rfl | hx
      · omega
      · exact h x hx
theorem num_mem {es : List Ent} {q : Pl} (h : numAt es q ≠ 0) : ∃ e ∈ es, e.1 = q := by
  apply Classical.byContradiction
  intro z
  exact h (numAt_out fun e he y => z ⟨e, he, y⟩)
def on (φ : Pl → Int) (A : Int) (es : List Ent) : List Ent := es.filter fun e => decide (φ e.1 = A)
theorem on_valid {φ : Pl → Int} {A : Int} {es : List Ent} (h : Valid es) : Valid (on φ A es) := ⟨h.asc.sublist List.filter_sublist, fun e he => h.nz e (List.mem_filter.mp he).1⟩
theorem on_row {φ : Pl → Int} {n : Nat} (add : ∀ p q : Pl, p.length = n → q.length = n → φ (plusP p q) = φ p + φ q) {B : Int} {e : Ent} (he : e.1.length = n) {q : Pl} (hq : φ q = φ e.1 + B) : ∀ {G : List Ent}, DimN n G → numAt (rowT e G) q = numAt (rowT e (on φ B G)) q
  | [], _ => rfl
  | g :: G, dG => by
    have ih := on_row add he hq (G := G) fun x hx => dG x (List.mem_cons_of_mem _ hx)
    have hg := dG g List.mem_cons_self
    by_cases c : φ g.1 = B
    · have : on φ B (g :: G) = g :: on φ B G := List.filter_cons_of_pos (decide_eq_true c)
      rw [this]
      show _ + numAt (rowT e G) q = _ + numAt (rowT e (on φ B G)) q
      rw [ih]
    · have : on φ B (g :: G) = on φ B G := List.filter_cons_of_neg (fun z => c (of_decide_eq_true z))
      rw [this, ← ih]
      show (if plusP e.1 g.1 = q then e.2 * g.2 else 0) + numAt (rowT e G) q = _
      rw [if_neg (fun z => c (by have := add e.1 g.1 he hg; rw [z] at this; omega))]
      omega
theorem on_times {φ : Pl → Int} {n : Nat} (add : ∀ p q : Pl, p.length = n → q.length = n → φ (plusP p q) = φ p + φ q) {A B : Int} {G : List Ent} (dG : DimN n G) (mG : ∀ g ∈ G, B ≤ φ g.1) {q : Pl} (hq : φ q = A + B) : ∀ {F : List Ent}, DimN n F → (∀ f ∈ F, A ≤ φ f.1) → numAt (timesL F G) q = numAt (timesL (on φ A F) (on φ B G)) q
  | [], _, _ => rfl
  | f :: F, dF, mF => by
    have ih := on_times add dG mG hq (F := F) (fun x hx => dF x (List.mem_cons_of_mem _ hx)) fun x hx => mF x (List.mem_cons_of_mem _ hx)
    have hf := dF f List.mem_cons_self
    show numAt (rowT f G ++ timesL F G) q = _
    rw [numAt_app, ih]
    by_cases c : φ f.1 = A
    · have : on φ A (f :: F) = f :: on φ A F := List.filter_cons_of_pos (decide_eq_true c)
      rw [this]
      show _ = numAt (rowT f (on φ B G) ++ timesL (on φ A F) (on φ B G)) q
      rw [numAt_app, on_row add hf (by rw [hq, c]) dG]
    · have : on φ A (f :: F) = on φ A F := List.filter_cons_of_neg (fun z => c (of_decide_eq_true z))
      rw [this]
      have z : numAt (rowT f G) q = 0 := numAt_out fun x hx y => by
        obtain ⟨g, hg, rfl⟩ := List.mem_map.mp hx
        have h1 := add f.1 g.1 hf (dG g hg)
        have h2 : plusP f.1 g.1 = q := y
        rw [h2] at h1
        have h3 := mF f List.mem_cons_self
        have h4 := mG g hg
        omega
      rw [z]
      omega
/-- the least value of an additive function on a product is the sum of the least values -/
theorem edge {φ : Pl → Int} {n : Nat} (add : ∀ p q : Pl, p.length = n → q.length = n → φ (plusP p q) = φ p + φ q) {F G : List Ent} (vF : Valid F) (vG : Valid G) (dF : DimN n F) (dG : DimN n G) {f g : Ent} (hf : f ∈ F) (mF : ∀ x ∈ F, φ f.1 ≤ φ x.1) (hg : g ∈ G) (mG : ∀ x ∈ G, φ g.1 ≤ φ x.1) :
    ∃ q, φ q = φ f.1 + φ g.1 ∧ numAt (timesL F G) q ≠ 0 := by
  have dF' : DimN n (on φ (φ f.1) F) := fun x hx => dF x (List.mem_filter.mp hx).1
  have dG' : DimN n (on φ (φ g.1) G) := fun x hx => dG x (List.mem_filter.mp hx).1
  obtain ⟨q, hq⟩ := no_zero (on_valid (φ := φ) (A := φ f.1) vF) (on_valid (φ := φ) (A := φ g.1) vG) dF' dG' (List.ne_nil_of_mem (List.mem_filter.mpr ⟨hf, decide_eq_true rfl⟩)) (List.ne_nil_of_mem (List.mem_filter.mpr ⟨hg, decide_eq_true rfl⟩))
  obtain ⟨x, hx, e⟩ := num_mem hq
  obtain ⟨a, ha, b, hb, rfl⟩ := timesL_mem hx
  have h1 : φ q = φ f.1 + φ g.1 := by
    rw [← e]
    show φ (plusP a.1 b.1) = _
    rw [add _ _ (dF' a ha) (dG' b hb), of_decide_eq_true (List.mem_filter.mp ha).2, of_decide_eq_true (List.mem_filter.mp hb).2]
  refine ⟨q, h1, ?_⟩
  rw [on_times add dG mG h1 dF mF]
  exact hq
/-- within a box -/
def InB (lo hi t : Pl) : Prop := ∀ (k : Nat) (x y z : Int), t[k]? = some x → lo[k]? = some y → hi[k]? = some z → y ≤ x ∧ x ≤ z
def subP (k l : Pl) : Pl := List.zipWith (fun x y => x - y) k l
theorem subP_len {k l : Pl} (h : k.length = l.length) : (subP k l).length = k.length := by
  unfold subP
  rw [List.length_zipWith]
  omega
theorem subP_get {k l : Pl} {i : Nat} {z : Int} (h : (subP k l)[i]? = some z) : ∃ x y, k[i]? = some x ∧ l[i]? = some y ∧ z = x - y := by
  unfold subP at h
  rw [List.getElem?_zipWith] at h
  cases hk : k[i]? with
  | none =>
    rw [hk] at h
    cases h
  | some x =>
    cases hl : l[i]? with
    | none =>
      rw [hk, hl] at h
      cases h
    | some y =>
      rw [hk, hl] at h
      exact ⟨x, y, rfl, rfl, (Option.some.inj h).symm⟩
theorem plusP_sub : ∀ {p f : Pl}, p.length = f.length → plusP f (subP p f) = p
  | [], [], _ => rfl
  | [], _ :: _, h => by cases h
  | _ :: _, [], h => by cases h
  | x :: p, y :: f, h => by
    show (y + (x - y)) :: plusP f (subP p f) = x :: p
    rw [plusP_sub (Nat.succ.inj h), show y + (x - y) = x by omega]
theorem sub_plusP : ∀ {t f : Pl}, t.length = f.length → subP (plusP f t) f = t
  | [], [], _ => rfl
  | [], _ :: _, h => by cases h
  | _ :: _, [], h => by cases h
  | x :: t, y :: f, h => by
    show (y + x - y) :: subP (plusP f t) f = x :: t
    rw [sub_plusP (Nat.succ.inj h), show y + x - y = x by omega]
theorem coord_add {n k : Nat} (p q : Pl) (hp : p.length = n) (hq : q.length = n) : (plusP p q).getD k 0 = p.getD k 0 + q.getD k 0 := by
  by_cases h : k < n
  · have e : (plusP p q)[k]? = some (p[k] + q[k]) := by
      unfold plusP
      rw [List.getElem?_zipWith, List.getElem?_eq_getElem (by omega), List.getElem?_eq_getElem (by omega)]
    rw [List.getD_eq_getElem?_getD, List.getD_eq_getElem?_getD, List.getD_eq_getElem?_getD, e, List.getElem?_eq_getElem (by omega), List.getElem?_eq_getElem (by omega)]
    rfl
  · have z : ∀ l : Pl, l.length = n → l.getD k 0 = 0 := fun l hl => by
      rw [List.getD_eq_getElem?_getD, List.getElem?_eq_none (by omega)]
      rfl
    rw [z p hp, z q hq, z _ (by rw [plusP_len (by omega), hp])]
    rfl
theorem getD_some {l : Pl} {k : Nat} {x : Int} (h : l[k]? = some x) : l.getD k 0 = x := by
  rw [List.getD_eq_getElem?_getD, h]
  rfl
/-- a quotient lies in the quotient box -/
theorem quot_box {n : Nat} {F R S : List Ent} {rl rh fl fh : Pl} (vF : Valid F) (vS : Valid S) (dF : DimN n F) (dR : DimN n R) (dS : DimN n S) (hF : F ≠ []) (lR : IsLow R rl) (hR : IsTop R rh) (lF : IsLow F fl) (hF2 : IsTop F fh)
    (nr : rl.length = n) (nh : rh.length = n) (nf : fl.length = n) (ng : fh.length = n) (e : ∀ q, numAt R q = numAt (timesL F S) q) : ∀ s ∈ S, InB (subP rl fl) (subP rh fh) s.1 := by
  intro s hs k x y z hx hy hz
  obtain ⟨r1, f1, hr1, hf1, rfl⟩ := subP_get hy
  obtain ⟨r2, f2, hr2, hf2, rfl⟩ := subP_get hz
  have hS : S ≠ [] := List.ne_nil_of_mem hs
  have hk : k < n := by
    have := (List.getElem?_eq_some_iff.mp hr1).1
    omega
  have at1 : ∀ {es : List Ent}, DimN n es → ∀ a ∈ es, ∃ v, a.1[k]? = some v := fun d a ha => ⟨_, List.getElem?_eq_getElem (by rw [d a ha]; exact hk)⟩
  constructor
  · obtain ⟨g, hg, mG⟩ := exists_min (fun p => p.getD k 0) hS
    obtain ⟨⟨f, hf, ef⟩, mf⟩ := lF k f1 hf1
    obtain ⟨q, hq1, hq2⟩ := edge (φ := fun p => p.getD k 0) (n := n) (fun p q hp hq => coord_add p q hp hq) vF vS dF dS hf (fun a ha => by
      obtain ⟨v, hv⟩ := at1 dF a ha
      show f.1.getD k 0 ≤ a.1.getD k 0
      rw [getD_some ef, getD_some hv]
      exact mf a ha v hv) hg mG
    rw [← e] at hq2
    obtain ⟨r, hr, er⟩ := num_mem hq2
    obtain ⟨v, hv⟩ := at1 dR r hr
    have h1 := (lR k r1 hr1).2 r hr v hv
    have h2 := mG s hs
    have hq1' : q.getD k 0 = f.1.getD k 0 + g.1.getD k 0 := hq1
    have h2' : g.1.getD k 0 ≤ s.1.getD k 0 := h2
    rw [← er, getD_some hv, getD_some ef] at hq1'
    rw [getD_some hx] at h2'
    omega
  · obtain ⟨g, hg, mG⟩ := exists_min (fun p => -(p.getD k 0)) hS
    obtain ⟨⟨f, hf, ef⟩, mf⟩ := hF2 k f2 hf2
    obtain ⟨q, hq1, hq2⟩ := edge (φ := fun p => -(p.getD k 0)) (n := n) (fun p q hp hq => by
      show -((plusP p q).getD k 0) = -(p.getD k 0) + -(q.getD k 0)
      rw [coord_add p q hp hq]
      omega) vF vS dF dS hf (fun a ha => by
      obtain ⟨v, hv⟩ := at1 dF a ha
      show -(f.1.getD k 0) ≤ -(a.1.getD k 0)
      rw [getD_some ef, getD_some hv]
      have := mf a ha v hv
      omega) hg mG
    rw [← e] at hq2
    obtain ⟨r, hr, er⟩ := num_mem hq2
    obtain ⟨v, hv⟩ := at1 dR r hr
    have h1 := (hR k r2 hr2).2 r hr v hv
    have h2 := mG s hs
    have hq1' : -(q.getD k 0) = -(f.1.getD k 0) + -(g.1.getD k 0) := hq1
    have h2' : -(g.1.getD k 0) ≤ -(s.1.getD k 0) := h2
    rw [← er, getD_some hv, getD_some ef] at hq1'
    rw [getD_some hx] at h2'
    omega
/-- where division is stuck there is no quotient -/
theorem stuck {n : Nat} {f : Ent} {F R PL S : List Ent} {rl rh fl fh p : Pl} (vF : Valid (f :: F)) (dF : DimN n (f :: F)) (dR : DimN n R) (dP : DimN n PL) (dS : DimN n S) (lR : IsLow R rl) (hR : IsTop R rh) (lF : IsLow (f :: F) fl) (hF2 : IsTop (f :: F) fh)
    (nr : rl.length = n) (nh : rh.length = n) (nf : fl.length = n) (ng : fh.length = n) (bP : ∀ e ∈ PL, InB (subP rl fl) (subP rh fh) e.1) (hp : p.length = n) (h0 : numAt (R ++ negs (timesL (f :: F) PL)) p ≠ 0) (low : ∀ q, HT.lexLt q p = true → numAt (R ++ negs (timesL (f :: F) PL)) q = 0)
    (bad : ¬ f.2 ∣ numAt (R ++ negs (timesL (f :: F) PL)) p ∨ ¬ InB (subP rl fl) (subP rh fh) (subP p f.1)) (e : ∀ q, numAt R q = numAt (timesL (f :: F) S) q) : False := by
  have rS := rowOf_is S
  have eS : ∀ q, numAt R q = numAt (timesL (f :: F) (rowOf S)) q := fun q => by rw [e, timesL_eq2 _ (fun q => (rS.s q).symm)]
  have bS := quot_box vF rS.v dF dR (DimN.of rS dS) (by intro z; cases z) lR hR lF hF2 nr nh nf ng eS
  have rT := rowOf_is (rowOf S ++ negs PL)
  have dT : DimN n (rowOf (rowOf S ++ negs PL)) := DimN.of rT ((DimN.of rS dS).app dP.negs)
  have eT : ∀ q, numAt (R ++ negs (timesL (f :: F) PL)) q = numAt (timesL (f :: F) (rowOf (rowOf S ++ negs PL))) q := fun q => by
    rw [timesL_eq2 _ rT.s, timesL_app2, timesL_neg2, numAt_app, numAt_negs, eS]
  have bT : ∀ t ∈ rowOf (rowOf S ++ negs PL), InB (subP rl fl) (subP rh fh) t.1 := fun t ht => by
    obtain ⟨x, hx, ex⟩ := rT.mem ht
    rw [← ex]
    rcases List.mem_append.mp hx with hx | hx
    · exact bS x hx
    · obtain ⟨y, hy, rfl⟩ := List.mem_map.mp hx
      exact bP y hy
  cases hT : rowOf (rowOf S ++ negs PL) with
  | nil =>
    rw [eT, hT] at h0
    apply h0
    refine numAt_out fun x hx => ?_
    obtain ⟨_, _, g, hg, _⟩ := timesL_mem hx
    cases hg
  | cons t T =>
    rw [hT] at eT bT dT
    have vT : Valid (t :: T) := by rw [← hT]; exact rT.v
    obtain ⟨l1, l2⟩ := lead_at vF vT dF dT
    have hf := dF f List.mem_cons_self
    have ht := dT t List.mem_cons_self
    have hl : (plusP f.1 t.1).length = p.length := by rw [plusP_len (by omega)]; omega
    have ep : plusP f.1 t.1 = p := by
      rcases lex_tri hl with z | z | z
      · have := low _ z
        rw [eT, l1] at this
        exact absurd this (Int.mul_ne_zero (vF.nz f List.mem_cons_self) (vT.nz t List.mem_cons_self))
      · exact z
      · have := l2 p z
        rw [eT] at h0
        exact absurd this h0
    rcases bad with b | b
    · apply b
      rw [eT, ← ep, l1]
      exact ⟨t.2, rfl⟩
    · apply b
      rw [← ep, sub_plusP (by omega)]
      exact bT t List.mem_cons_self
end OT

set_option Elab.async false
set_option linter.all false
set_option maxRecDepth 100000
set_option maxHeartbeats 2000000
namespace OT
open PySem PySem.Spec PyProof.Rows L2
/-- a def that is never reached -/
def spNo : Sp := fun _ _ _ _ => False
section
variable {P : Program} {w : World} {K : PySem.W.Frag} {mg : Str → Option Value} {base : Heap}
theorem c_no {k : Nat} {x : Str} {st : Stmt} {f : Addr} {fd : FuncData} {ps : List Str} (D : C8.Def K mg x st f fd) (b : Binds K fd ps []) : C8.Cal P w K mg base k x spNo [] :=
  ⟨f, fd, ps, [], ⟨fun _ _ _ _ h => h.elim, fun _ _ _ _ _ _ _ _ _ _ _ _ _ h => h.elim⟩, D.mgf, D.kp, b, .nil⟩
/-- few pairs of entries: not crowded -/
def spFew : Sp := fun vs H Q _ => ∃ (a b : Addr) (xs ys : List V), vs = [.ref a, .ref b] ∧ H a = some (.lst xs) ∧ H b = some (.lst ys) ∧ xs.length ≤ 1000 ∧ xs.length * ys.length < 2000 ∧ Q (.bl false) H
theorem c_is_crowded {f : Addr} {fd : FuncData} {tk : Tok} (D : C8.Def K mg "is_crowded" s_is_crowded f fd) (b : Binds K fd ["first", "second"] []) (T : Bi mg) (gF : mg "FEW_PAIRS" = some (.int 2000 tk)) (c_digit_bits : C8.Cal P w K mg base 1 "digit_bits" spNo []) (c_product_sizes : C8.Cal P w K mg base 1 "product_sizes" spNo []) : C8.Cal P w K mg base 2 "is_crowded" spFew [] := by
  refine C8.cal0 D b .nil sc_is_crowded (fun vs H Q E h => ?_) (fun cdv A outer s H vs Q E hr h => ?_)
  · obtain ⟨a, b, xs, ys, rfl, _⟩ := h
    rfl
  · obtain ⟨a, b, xs, ys, rfl, ha, hb, hx, hz, q⟩ := h
    refine ⟨_, (pss_cons (ps_set (i := 2) sc_is_crowded.nd rfl (Or.inl rfl) (pe_op op_mul (pe_callB call_len_seq (by rfl) T.n_len OT.b_len (pa_cons (pv 0) pa_nil)) (pe_callB call_len_seq (by rfl) T.n_len OT.b_len (pa_cons (pv 1) pa_nil))))
  (pss_cons (ps_if (pt_cmpR op_lt (pv 2) (pe_glob (v := .int 2000) (by rfl) gF ⟨_, rfl⟩) (nomark _)) (pss_one (ps_ret pe_bl)) pss_nil)
  (pss_cons (ps_set (i := 3) sc_is_crowded.nd rfl (Or.inl rfl) (C8.pe_c c_digit_bits hr (by decide) (by rfl) (pa_cons (pv 0) (pa_cons (pv 1) pa_nil))))
  (pss_cons (ps_for PassesOwn.never rfl (pi_list (C8.pe_c c_product_sizes hr (by decide) (by rfl) (pa_cons (pv 0) (pa_cons (pv 1) pa_nil)))) (pg_name (i := 4) sc_is_crowded.nd rfl (Or.inl rfl)) (pss_one (ps_set (i := 3) sc_is_crowded.nd rfl (Or.inl rfl) (pe_op op_mul (pv 3) (pv 4)))))
  (pss_one (ps_ret (pe_cmpR op_lt (pv 3) (pe_op op_mul pe_int (pv 2)) (nomark _)))))))), ?_⟩
    refine ⟨_, rfl, a, _, rfl, .inl (.inl (.inl ha)), _, rfl, b, _, rfl, .inl (.inl (.inl hb)), _, _, rfl, rfl, .inl (by constructor <;> omega), ?_⟩
    refine ⟨_, rfl, _, _, rfl, rfl, _, rfl, ?_⟩
    refine iteD (fun _ => q) (fun z => absurd ?_ z)
    show (xs.length : Int) * (ys.length : Int) < 2000
    rw [← Int.natCast_mul]
    omega
end
end OT

set_option Elab.async false
set_option linter.all false
set_option maxRecDepth 100000
set_option maxHeartbeats 2000000
namespace OT
open PySem PySem.Spec PyProof.Rows L2
theorem Kps.updK {H : Hp} {D : Addr} {l l' : List (Key × V)} {vs : List V} {es : List (Int × Int)} (hD : H D = some (.dK l)) (h : Kps H vs es) : Kps (upd H D (.dK l')) vs es := by
  induction h with
  | nil => exact .nil
  | cons h1 _ ih =>
    obtain ⟨t, rfl, h1⟩ := h1
    refine .cons ⟨t, rfl, ?_⟩ ih
    rw [upd_ne (fun z => by rw [z, hD] at h1; cases h1)]
    exact h1
theorem reach_le {es : List Ent} {h C : Nat} (hr : ReachIs es h) (hc : ∀ e ∈ es, ∀ x ∈ e.1, x.natAbs ≤ C) : h ≤ C := hr.2 C fun e he x hx => hc e he x hx
section
variable {P : Program} {w : World} {K : PySem.W.Frag} {mg : Str → Option Value} {base : Heap}
/-- two rows that are handed to a def of two rows -/
structure TwoR (K : PySem.W.Frag) (H : Hp) (a b : Addr) (xs ys : List V) (es fs : List Ent) (n m C : Nat) : Prop where
  ha : H a = some (.lst xs)
  hb : H b = some (.lst ys)
  e : Ents H xs es
  f : Ents H ys fs
  ze : es.length ≤ 1000
  zf : fs.length ≤ 1000
  de : ∀ e ∈ es, e.1.length = n
  df : ∀ e ∈ fs, e.1.length = m
  n3 : n ≤ 3
  m3 : m ≤ 3
  ce : ∀ e ∈ es, ∀ x ∈ e.1, x.natAbs ≤ C
  cf : ∀ e ∈ fs, ∀ x ∈ e.1, x.natAbs ≤ C
  c : C ≤ 1000000
theorem TwoR.mono {H H' : Hp} {a b : Addr} {xs ys : List V} {es fs : List Ent} {n m C : Nat} (s : Same H H') (h : TwoR K H a b xs ys es fs n m C) : TwoR K H' a b xs ys es fs n m C :=
  ⟨s _ _ h.ha, s _ _ h.hb, h.e.mono s, h.f.mono s, h.ze, h.zf, h.de, h.df, h.n3, h.m3, h.ce, h.cf, h.c⟩
def spMul (K : PySem.W.Frag) (M : Addr) : Sp := fun vs H Q E => ∃ (a b : Addr) (xs ys : List V) (es fs : List Ent) (n m C : Nat), vs = [.ref a, .ref b] ∧ TwoR K H a b xs ys es fs n m C ∧ es.length * fs.length < 2000 ∧ (∀ g ∈ fs, -(2 ^ 64) < g.2 ∧ g.2 < 2 ^ 64) ∧
  (mixL ((dims [es, fs]).filter nz) = true → ∀ d H', Same H H' → H' d = some (.xd errM) → E (.ref M) (some d) H') ∧
  (mixL ((dims [es, fs]).filter nz) = false → (es ≠ [] → fs ≠ [] → n = m) ∧ wantRow H (timesL es fs) Q)
theorem ok_multiply {f M fD A0 : Addr} {fd fdD : FuncData} {ds : List Value} (D : C8.Def K mg "multiply" s_multiply f fd) (T : Bi mg) (DD : C8.Def K mg "same_dimension" s_same_dimension fD fdD) (bD : Binds K fdD ["rows", "places"] ds) (hdv : Vals [V.ref A0] ds) (hA0 : ∀ H, SqT K H A0 [])
    (GD : FnOk P w K mg base (L2.CX P w) 4 fD fdD ["rows", "places"] (spSDT K M)) (c_key_base : C8.Cal P w K mg base 2 "key_base" (spKB K) []) (c_keyed : C8.Cal P w K mg base 2 "keyed" (spKeyed K) []) (c_unkeyed : C8.Cal P w K mg base 2 "unkeyed" spUnk []) (c_places_length : C8.Cal P w K mg base 1 "places_length" (spPLen K) []) (c_is_crowded : C8.Cal P w K mg base 2 "is_crowded" spFew []) (c_crowded_product : C8.Cal P w K mg base 1 "crowded_product" spNo []) : FnOk P w K mg base (L2.CX P w) 5 f fd ["first", "second"] (spMul K M) := by
  obtain ⟨oc, od, dV, kV, doc, pm, an, cdv, ct, osl, rfl, lk, hcd⟩ := D.fn.ex
  refine fn_of lk hcd sc_multiply (fun vs H Q E h => ?_) fun A outer s H vs Q E hr h => ?_
  · obtain ⟨a, b, xs, ys, es, fs, n, m, C, rfl, _⟩ := h
    rfl
  · obtain ⟨a, b, xs, ys, es, fs, n, m, C, rfl, R, hz, hnum, qE, qN⟩ := h
    refine ⟨_, (pss_cons (ps_expr (pe_callSD GD hr rfl DD.mgf DD.kp bD hdv (fun σ => passAt (takes_of rfl rfl rfl rfl) σ) (pa_cons (pe_lst (pa_cons (pv 0) (pa_cons (pv 1) pa_nil))) pa_nil)))
  (pss_cons (ps_if (pt_val (C8.pe_c c_is_crowded hr (by decide) (by rfl) (pa_cons (pv 0) (pa_cons (pv 1) pa_nil)))) (pss_one (ps_ret (C8.pe_c c_crowded_product hr (by decide) (by rfl) (pa_cons (pv 0) (pa_cons (pv 1) pa_nil))))) pss_nil)
  (pss_cons (ps_set (i := 2) sc_multiply.nd rfl (Or.inl rfl) (C8.pe_c c_key_base hr (by decide) (by rfl) (pa_cons (pv 0) (pa_cons (pv 1) pa_nil))))
  (pss_cons (ps_set (i := 3) sc_multiply.nd rfl (Or.inl rfl) (C8.pe_c c_keyed hr (by decide) (by rfl) (pa_cons (pv 1) (pa_cons (pv 2) pa_nil))))
  (pss_cons (ps_set (i := 4) sc_multiply.nd rfl (Or.inl rfl) pe_dnewK)
  (pss_cons (ps_for (passes_of rfl) rfl (pi_list (C8.pe_c c_keyed hr (by decide) (by rfl) (pa_cons (pv 0) (pa_cons (pv 2) pa_nil)))) (pg_tup rfl (pgs_cons (pg_name (i := 5) sc_multiply.nd rfl (Or.inl rfl)) (pgs_cons (pg_name (i := 6) sc_multiply.nd rfl (Or.inl rfl)) pgs_nil))) (pss_one (ps_for (passes_of rfl) rfl (pi_list (pv 3)) (pg_tup rfl (pgs_cons (pg_name (i := 7) sc_multiply.nd rfl (Or.inl rfl)) (pgs_cons (pg_name (i := 8) sc_multiply.nd rfl (Or.inl rfl)) pgs_nil))) (pss_one (ps_dput (hu_of hr) (pv 4) (pe_op op_add (pv 5) (pv 7)) (pe_op op_add (pe_dget2 (hu_of hr) (pv 4) (pe_op op_add (pv 5) (pv 7)) pe_int ⟨rfl, rfl, rfl, rfl⟩) (pe_op op_mul (pv 6) (pv 8))) rfl)))))
  (pss_one (ps_ret (C8.pe_c c_unkeyed hr (by decide) (by rfl) (pa_cons (pv 4) (pa_cons (pv 2) (pa_cons (C8.pe_c c_places_length hr (by decide) (by rfl) (pa_cons (pv 0) pa_nil)) pa_nil)))))))))))), ?_⟩
    refine ⟨_, rfl, _, rfl, (by show 2 ≤ sizeLine; decide), fun p1 np1 => ?_⟩
    have s1 : Same H (upd H p1 (.lst [.ref a, .ref b])) := same_upd np1
    refine ⟨p1, A0, [.ref a, .ref b], [es, fs], rfl, .inl (.inl upd_same), .cons (s1 _ _ R.ha) (R.e.mono s1) (.cons (s1 _ _ R.hb) (R.f.mono s1) .nil), hA0 _, (by show 2 ≤ 1000; decide), fun hm d H3 sm hd => qE hm d H3 (s1.trans sm) hd, fun hm H3 sm3 => ?_⟩
    have sA := s1.trans sm3
    obtain ⟨hnm, q⟩ := qN hm
    have R3 := R.mono sA
    clear hm qE qN
    refine ⟨_, rfl, _, rfl, a, b, xs, ys, rfl, R3.ha, R3.hb, by rw [R3.e.len]; exact R3.ze, by rw [R3.e.len, R3.f.len]; exact hz, _, rfl, ?_⟩
    refine iteF ?_
    refine ⟨_, rfl, _, rfl, a, b, xs, ys, es, fs, rfl, ⟨.inl (.inl R3.ha), R3.e, R3.ze, fun e he => by rw [R3.de e he]; exact R3.n3⟩, ⟨.inl (.inl R3.hb), R3.f, R3.zf, fun e he => by rw [R3.df e he]; exact R3.m3⟩, fun h g H4 hh hg s4 => ?_⟩
    have hN : h + g ≤ 2000000 := by
      have := reach_le hh R.ce
      have := reach_le hg R.cf
      have := R.c
      omega
    have hG : ∀ e ∈ es, ∀ z ∈ fs, Gd (h + g) (dimE es) (plusP e.1 z.1) ∧ e.1.length = z.1.length := fun e he z hz' => by
      have hne : es ≠ [] := fun y => by rw [y] at he; cases he
      have hnf : fs ≠ [] := fun y => by rw [y] at hz'; cases hz'
      have l1 := R.de e he
      have l2 := R.df z hz'
      have hl : e.1.length = z.1.length := l1.trans ((hnm hne hnf).trans l2.symm)
      refine ⟨⟨?_, fun x hx => ?_⟩, hl⟩
      · rw [plusP_len (Nat.le_of_eq hl), l1, dimE_eq R.de hne]
      · obtain ⟨u, hu, v, hv, rfl⟩ := plusP_mem hx
        have := hh.1 e he u hu
        have := hg.1 z hz' v hv
        omega
    have hd3 : dimE es ≤ 1000 := by
      by_cases hne : es = []
      · rw [hne]
        exact Nat.zero_le _
      · rw [dimE_eq R.de hne]
        have := R.n3
        omega
    have inj : ∀ k l, Gd (h + g) (dimE es) k → Gd (h + g) (dimE es) l → keyP (2 * ((h + g : Nat) : Int) + 1) k = keyP (2 * ((h + g : Nat) : Int) + 1) l → k = l := fun k l hk hl e => keyP_inj rfl (hk.1.trans hl.1.symm) hk.2 hl.2 e
    have hb64 : -(2 ^ 64) < 2 * ((h + g : Nat) : Int) + 1 ∧ 2 * ((h + g : Nat) : Int) + 1 < 2 ^ 64 := by
      have e1 : (2 : Int) ^ 64 = 18446744073709551616 := by decide
      omega
    clear hh hg
    have R4 := R3.mono s4
    have sB := sA.trans s4
    refine ⟨_, rfl, _, rfl, b, ys, fs, _, rfl, .inl (.inl R4.hb), R4.f, R4.zf, hb64, fun r ws2 H5 s5 nr hr5 hK2 => ?_⟩
    have R5 := R4.mono s5
    have sC := sB.trans s5
    refine fun d nd => ?_
    have s6 : Same H5 (upd H5 d (.dK [])) := same_upd nd
    have hd6 : (upd H5 d (.dK [])) d = some (.dK []) := upd_same
    generalize upd H5 d (.dK []) = H6 at s6 hd6 ⊢
    have R6 := R5.mono s6
    refine ⟨_, rfl, _, rfl, a, xs, es, _, rfl, .inl (.inl R6.ha), R6.e, R6.ze, hb64, fun p7 ws1 H7 s7 np7 hp7 hK1 => ?_⟩
    have s57 := s6.trans s7
    have hd7 := s7 _ _ hd6
    generalize hB : (2 * ((h + g : Nat) : Int) + 1) = B at inj hK1 hK2 hb64 ⊢
    have pne : p7 ≠ d := fun z => by
      rw [z, hd7] at hp7
      cases hp7
    refine ⟨p7, rfl, ⟨_, .inl (.inl hp7)⟩, ?_⟩
    refine for_list (K := K) (xs := ws1) (fun i σ H8 => ∃ (kvs : List (Key × V)) (ks : List Pl) (y5 y6 y7 y8 : Option V), σ = [some (.ref a), some (.ref b), some (.int B), some (.ref r), some (.ref d), y5, y6, y7, y8] ∧ Same H5 H8 ∧ H8 p7 = some (.lst ws1) ∧ Kps H8 ws1 (keyL B es) ∧ H8 d = some (.dK kvs) ∧ KSums B (Gd (h + g) (dimE es)) kvs ks (numAt (timesL (es.take i) fs)) ∧ ks.length ≤ i * fs.length) ?_ ?_ ?_ ?_
    · exact ⟨[], [], none, none, none, none, rfl, s57, hp7, hK1, hd7, KSums.nil, Nat.zero_le _⟩
    · rintro i σ H8 _ ⟨_, _, _, _, _, _, _, _, hp, _⟩
      exact .inl (.inl hp)
    · rintro i x σ H8 hx ⟨kvs, ks, y5, y6, y7, y8, rfl, sm, hp8, hK8, hd8, hs, hl⟩
      obtain ⟨ke, he', t, rfl, ht⟩ := hK8.get hx
      have hi : i < es.length := by
        have := (List.getElem?_eq_some_iff.mp he').1
        unfold keyL at this
        rwa [List.length_map] at this
      obtain ⟨e, hee⟩ : ∃ e, es[i]? = some e := ⟨_, List.getElem?_eq_getElem hi⟩
      have hem : e ∈ es := List.mem_of_getElem? hee
      have hke : ke = (keyP B e.1, e.2) := by
        unfold keyL at he'
        rw [List.getElem?_map, hee] at he'
        exact (Option.some.inj he').symm
      subst hke
      refine ⟨t, _, rfl, .inl (.inl ht), rfl, _, _, rfl, _, _, rfl, rfl, ?_⟩
      refine ⟨_, rfl, r, rfl, ⟨_, .inl (.inl (sm _ _ hr5))⟩, ?_⟩
      refine for_list (K := K) (xs := ws2) (fun j σ H9 => ∃ (kvs : List (Key × V)) (ks : List Pl) (y7 y8 : Option V), σ = [some (.ref a), some (.ref b), some (.int B), some (.ref r), some (.ref d), some (.int (keyP B e.1)), some (.int e.2), y7, y8] ∧ Same H5 H9 ∧ H9 p7 = some (.lst ws1) ∧ Kps H9 ws1 (keyL B es) ∧ H9 d = some (.dK kvs) ∧ KSums B (Gd (h + g) (dimE es)) kvs ks (numAt (timesL (es.take i) fs ++ rowT e (fs.take j))) ∧ ks.length ≤ i * fs.length + j) ?_ ?_ ?_ ?_
      · refine ⟨kvs, ks, y7, y8, rfl, sm, hp8, hK8, hd8, ?_, hl⟩
        rw [show rowT e (fs.take 0) = [] from rfl, List.append_nil]
        exact hs
      · rintro j σ H9 _ ⟨_, _, _, _, _, sm9, _⟩
        exact .inl (.inl (sm9 _ _ hr5))
      · rintro j x σ H9 hx ⟨kvs, ks, y7, y8, rfl, sm9, hp9, hK9, hd9, hs9, hl9⟩
        obtain ⟨kg, hg', t2, rfl, ht2⟩ := (hK2.mono sm9).get hx
        have hj : j < fs.length := by
          have := (List.getElem?_eq_some_iff.mp hg').1
          unfold keyL at this
          rwa [List.length_map] at this
        obtain ⟨z, hzz⟩ : ∃ z, fs[j]? = some z := ⟨_, List.getElem?_eq_getElem hj⟩
        have hzm : z ∈ fs := List.mem_of_getElem? hzz
        have hkg : kg = (keyP B z.1, z.2) := by
          unfold keyL at hg'
          rw [List.getElem?_map, hzz] at hg'
          exact (Option.some.inj hg').symm
        subst hkg
        obtain ⟨gd, gl⟩ := hG e hem z hzm
        have hk : keyP B (plusP e.1 z.1) = keyP B e.1 + keyP B z.1 := keyP_plus B gl
        have hget : DGet H9 d (.int (keyP B e.1 + keyP B z.1)) (valV kvs (Sum.inl (keyP B (plusP e.1 z.1)))) := by
          rw [← hk]
          exact DGet.k (k := Sum.inl (keyP B (plusP e.1 z.1))) hd9
        have hlt : kvs.length < sizeLine := by
          rw [hs9.len]
          have h1 : i * fs.length + fs.length ≤ es.length * fs.length := by
            rw [← Nat.succ_mul]
            exact Nat.mul_le_mul_right _ hi
          exact small100k (by omega)
        have hput : DPut H9 d (.int (keyP B e.1 + keyP B z.1)) (.int (numAt (timesL (es.take i) fs ++ rowT e (fs.take j)) (plusP e.1 z.1) + e.2 * z.2)) (upd H9 d (.dK (putK kvs (Sum.inl (keyP B (plusP e.1 z.1))) (.int (numAt (timesL (es.take i) fs ++ rowT e (fs.take j)) (plusP e.1 z.1) + e.2 * z.2))))) := by
          rw [← hk]
          exact DPut.k (k := Sum.inl (keyP B (plusP e.1 z.1))) hd9 hlt
        refine ⟨t2, _, rfl, .inl (.inl ht2), rfl, _, _, rfl, _, _, rfl, rfl, ?_⟩
        refine ⟨_, rfl, d, rfl, .inl ⟨kvs, .inl hd9⟩, _, rfl, _, rfl, _, _, rfl, rfl, _, hget, _, rfl, _, rfl, _, _, rfl, rfl, .inr (hnum z hzm), _, _, hs9.getD _ gd, rfl, _, rfl, _, rfl, _, rfl, _, _, rfl, rfl, d, _, rfl, hput, ?_⟩
        refine ⟨_, _, _, _, rfl, same_mut sm9 nd, ?_, hK9.updK hd9, upd_same, ?_, put_klen (e := plusP e.1 z.1) hl9⟩
        · rw [upd_ne pne]
          exact hp9
        · have hf : numAt (timesL (es.take i) fs ++ rowT e (fs.take (j + 1))) = fun q => numAt (timesL (es.take i) fs ++ rowT e (fs.take j)) q + if plusP e.1 z.1 = q then e.2 * z.2 else 0 := by
            funext q
            rw [take_snoc hzz]
            show numAt (timesL (es.take i) fs ++ List.map _ (fs.take j ++ [z])) q = _
            rw [List.map_append, ← List.append_assoc, numAt_app]
            show _ + ((if plusP e.1 z.1 = q then e.2 * z.2 else 0) + 0) = _
            rw [Int.add_zero]
            rfl
          rw [hf]
          exact hs9.put inj _ gd _
      · rintro σ H9 ⟨kvs, ks, y7, y8, rfl, sm9, hp9, hK9, hd9, hs9, hl9⟩
        have hw2 : ws2.length = fs.length := by
          have := hK2.len
          unfold keyL at this
          rwa [List.length_map] at this
        rw [hw2, List.take_length] at hs9
        refine ⟨kvs, ks, _, _, y7, y8, rfl, sm9, hp9, hK9, hd9, ?_, ?_⟩
        · rw [take_snoc hee, timesL_snoc]
          exact hs9
        · rw [hw2] at hl9
          rw [Nat.succ_mul]
          exact hl9
    · rintro σ H8 ⟨kvs, ks, y5, y6, y7, y8, rfl, sm, hp8, hK8, hd8, hs, hl⟩
      have hw1 : ws1.length = es.length := by
        have := hK1.len
        unfold keyL at this
        rwa [List.length_map] at this
      rw [hw1] at hs hl
      rw [List.take_length] at hs
      have R8 := R5.mono sm
      subst hB
      refine ⟨_, rfl, _, rfl, _, rfl, a, xs, es, rfl, .inl (.inl R8.ha), R8.e, d, h + g, dimE es, kvs, ks, timesL es fs, rfl, hd8, hs, by omega, hd3, by omega, ?_⟩
      exact wantRow.mono (sC.trans sm) q
end
end OT

set_option Elab.async false
set_option linter.all false
set_option maxRecDepth 100000
set_option maxHeartbeats 2000000
namespace OT
open PySem PySem.Spec PyProof.Rows L2
theorem Ents.rev {H : Hp} {vs : List V} {es : List Ent} (h : Ents H vs es) : Ents H vs.reverse es.reverse := by
  induction h with
  | nil => exact .nil
  | cons h1 _ ih =>
    rw [List.reverse_cons, List.reverse_cons]
    exact ih.app (.cons h1 .nil)
/-- tuple(xs) -/
def rTupOf (K : PySem.W.Frag) : List V → Hp → VK → Prop := fun args H Q => ∃ (b : Addr) (items : List V), args = [.ref b] ∧ ((SqL K H b items ∧ ∀ l, H l = none → Q (.ref l) (upd H l (.tup items))) ∨ (SqT K H b items ∧ Q (.ref b) H))
section
variable {P : Program} {w : World} {K : PySem.W.Frag} {mg : Str → Option Value} {base : Heap}
def spMirror : Sp := fun vs H Q _ => ∃ (a : Addr) (xs : List V) (es : List Ent), vs = [.ref a] ∧ H a = some (.lst xs) ∧ Ents H xs es ∧ es.length ≤ 1000 ∧ (∀ e ∈ es, e.1.length ≤ 1000) ∧ ∀ p ws H', Same H H' → H p = none → H' p = some (.lst ws) → Ents H' ws (mirP es) → Q (.ref p) H'
theorem c_mirror {f : Addr} {fd : FuncData} (D : C8.Def K mg "mirror" s_mirror f fd) (b : Binds K fd ["row"] []) (T : Bi mg) : C8.Cal P w K mg base 1 "mirror" spMirror [] := by
  refine C8.cal0 D b .nil sc_mirror (fun vs H Q E h => ?_) (fun cdv A outer s H vs Q E hr h => ?_)
  · obtain ⟨a, xs, es, rfl, _⟩ := h
    rfl
  · obtain ⟨a, xs, es, rfl, ha, hE, hz, hle, q⟩ := h
    refine ⟨_, (pss_one (ps_ret (pe_lc (own := [("place", 1), ("number", 2)]) (g := (gTup K 2 (gCons (gName 1) (gCons (gName 2) gNil)))) (tt := tYes) rfl sc_mirror.nd (pi_list (pe_revL (pv 0))) (blkOk_by (N := ["row", "place", "number", "x"]) (sc := C8.fnScope s_mirror) (by decide +kernel)) (fun _ _ _ _ _ => (pg_tup rfl (pgs_cons (pg_name (i := 1) sc_mirror.nd rfl (Or.inl rfl)) (pgs_cons (pg_name (i := 2) sc_mirror.nd rfl (Or.inl rfl)) pgs_nil)))) (fun _ _ _ _ _ => pts_nil) (fun _ _ _ _ _ => (pe_tup (pa_cons (pe_callTy (show CallR _ _ (rTupOf K) from call_tuple_of) (by rfl) T.n_tuple OT.b_tuple (pa_cons (pe_lc (own := [("x", 3)]) (g := (gName 3)) (tt := tYes) rfl sc_mirror.nd (show PI _ _ _ (iTup K (tVar 1)) from pi_tup (pe_var (i := 1) rfl (.inl rfl))) (blkOk_by (N := ["row", "place", "number", "x"]) (sc := { kind := .function, names := [(".0", .local), ("place", .local), ("number", .local), ("tuple", .globalImplicit)], isGenerator := false, isCoroutine := false }) (by decide +kernel)) (fun _ _ _ _ _ => (pg_name (i := 3) sc_mirror.nd rfl (Or.inl rfl))) (fun _ _ _ _ _ => pts_nil) (fun _ _ _ _ _ => (pe_un un_neg (pv 3)))) pa_nil)) (pa_cons (pv 2) pa_nil))))))), ?_⟩
    have hS : SqL K H a xs := .inl (.inl ha)
    have hx := hE.len
    refine ⟨_, rfl, a, xs, rfl, hS, fun ra nra => ?_⟩
    have s1 : Same H (upd H ra (.lst xs.reverse)) := same_upd nra
    have hra : (upd H ra (.lst xs.reverse)) ra = some (.lst xs.reverse) := upd_same
    generalize upd H ra (.lst xs.reverse) = H1 at s1 hra ⊢
    refine ⟨ra, rfl, ⟨_, .inl (.inl hra)⟩, fun p np => ?_⟩
    have hE1 : Ents H1 xs.reverse es.reverse := (hE.mono s1).rev
    refine lc_list (K := K) (xs := xs.reverse) (fun i H2 => Same H1 H2 ∧ ∃ ws, H2 p = some (.lst ws) ∧ Ents H2 ws ((es.reverse.take i).map fun e => (negP e.1, e.2))) ?_ ?_ ?_ ?_
    · exact ⟨same_upd np, [], upd_same, .nil⟩
    · rintro i H2 _ ⟨sm, _⟩
      exact .inl (.inl (sm _ _ hra))
    · rintro i x H2 hxi ⟨sm, ws, hp, hW⟩
      obtain ⟨e, he, t, pe, rfl, ht, hpe⟩ := (hE1.mono sm).get hxi
      obtain ⟨hi, hee⟩ := List.getElem?_eq_some_iff.mp he
      have hm := List.mem_reverse.mp (List.mem_of_getElem? he)
      rw [List.length_reverse] at hi
      refine ⟨t, _, rfl, .inl (.inl ht), rfl, _, _, rfl, _, _, rfl, rfl, rfl, tYes_of ?_⟩
      refine ⟨_, rfl, pe, rfl, ⟨_, .inl (.inl hpe)⟩, fun p3 np3 => ?_⟩
      refine lc_tup (K := K) (xs := e.1.map V.int) (fun j H3 => Same H2 H3 ∧ H3 p3 = some (.lst ((e.1.take j).map fun n => V.int (-n)))) ?_ ?_ ?_ ?_
      · exact ⟨same_upd np3, upd_same⟩
      · rintro j H3 _ ⟨sm3, _⟩
        exact .inl (.inl (sm3 _ _ hpe))
      · rintro j y H3 hy ⟨sm3, hp3⟩
        obtain ⟨hj, rfl⟩ := getm hy
        refine ⟨rfl, tYes_of ?_⟩
        refine ⟨_, rfl, _, rfl, _, hp3, ?_, same_mut sm3 np3, ?_⟩
        · rw [List.length_map, List.length_take]
          have := hle e hm
          exact small100k (by omega)
        · rw [upd_same, take_map_succ (fun n => V.int (-n)) hj]
      · rintro H3 ⟨sm3, hp3⟩
        rw [List.length_map, List.take_length] at hp3
        refine ⟨p3, _, rfl, .inl ⟨.inl (.inl hp3), fun l4 nl4 => ?_⟩⟩
        have sm4 : Same H3 (upd H3 l4 (.tup (e.1.map fun n => V.int (-n)))) := same_upd nl4
        have hl4 : (upd H3 l4 (.tup (e.1.map fun n => V.int (-n)))) l4 = some (.tup ((negP e.1).map V.int)) := by
          rw [upd_same]
          unfold negP
          rw [List.map_map]
          rfl
        generalize upd H3 l4 (.tup (e.1.map fun n => V.int (-n))) = H4 at sm4 hl4 ⊢
        refine ⟨_, rfl, (by show 2 ≤ sizeLine; decide), fun t6 nt6 => ?_⟩
        have sm6 : Same H4 (upd H4 t6 (.tup [.ref l4, .int e.2])) := same_upd nt6
        have smX := (sm3.trans sm4).trans sm6
        have hv : EntAt (upd H4 t6 (.tup [.ref l4, .int e.2])) (.ref t6) (negP e.1, e.2) := ⟨t6, l4, rfl, upd_same, sm6 _ _ hl4⟩
        have hD := smX _ _ hp
        have hwl := hW.len
        refine ⟨ws, hD, ?_, same_mut (sm.trans smX) np, ws ++ [.ref t6], upd_same, ?_⟩
        · rw [List.length_map, List.length_take, List.length_reverse] at hwl
          exact small100k (by omega)
        · rw [take_snoc he, List.map_append]
          exact ((hW.mono smX).app (.cons hv .nil)).updL hD
    · rintro H2 ⟨sm, ws, hp, hW⟩
      rw [List.length_reverse, hx, ← List.length_reverse, List.take_length] at hW
      refine q p ws H2 (s1.trans sm) ?_ hp hW
      cases z : H p with
      | none => rfl
      | some o =>
        rw [s1 _ _ z] at np
        cases np
end
end OT

set_option Elab.async false
set_option linter.all false
set_option maxRecDepth 100000
set_option maxHeartbeats 4000000
/-! steps of a reading, one lemma for each form -/
namespace AU
open PySem PySem.Spec PyProof.Rows L2
section
variable {K : PySem.W.Frag} {σ : L2.St} {H : Hp} {Q : VK} {D : Ends}
theorem climb {H1 H2 : Hp} {a : Addr} {o : HO} (s : Same H1 H2) (h : H1 a = some o) : H2 a = some o := s _ _ h
theorem sqL {a : Addr} {xs : List V} (h : H a = some (.lst xs)) : SqL K H a xs := .inl (.inl h)
theorem sqT {a : Addr} {xs : List V} (h : H a = some (.tup xs)) : SqT K H a xs := .inl (.inl h)
theorem newS {H H2 : Hp} {p : Addr} {o : HO} (h : H p = none) (e : upd H p o = H2) : Same H H2 := fun b x z => by
  rw [← e, upd_ne (ne_of_none z h)]
  exact z
theorem newH {H H2 : Hp} {p : Addr} {o : HO} (e : upd H p o = H2) : H2 p = some o := by rw [← e]; exact upd_same
theorem back {H H2 : Hp} {p : Addr} (s : Same H H2) (h : H2 p = none) : H p = none := by
  cases h1 : H p with
  | none => rfl
  | some o =>
    rw [s p o h1] at h
    cases h
theorem trueT {A B : Prop} (h : A) : if true = true then A else B := by rw [if_pos rfl]; exact h
theorem falseF {A B : Prop} (h : B) : if false = true then A else B := by rw [if_neg (by decide)]; exact h
theorem trueN {A B : Prop} (h : B) : if (!true) = true then A else B := by rw [if_neg (by decide)]; exact h
theorem falseN {A B : Prop} (h : A) : if (!false) = true then A else B := by rw [if_pos (by decide)]; exact h
theorem mutS {H H1 : Hp} {p : Addr} {o : HO} (e : Same H H1) (h : H p = none) : Same H (upd H1 p o) := fun b x z => by
  rw [upd_ne (ne_of_none z h)]
  exact e b x z
theorem sqLS {H1 H2 : Hp} {a : Addr} {xs : List V} (s : Same H1 H2) (h : SqL K H1 a xs) : SqL K H2 a xs := s.seq h
theorem sqTS {H1 H2 : Hp} {a : Addr} {xs : List V} (e : Same H1 H2) (h : SqT K H1 a xs) : SqT K H2 a xs := by
  rcases h with (h | ⟨o, h⟩) | h
  · exact .inl (.inl (e _ _ h))
  · exact .inl (.inr ⟨o, e _ _ h⟩)
  · exact .inr h
/- statements -/
theorem seq_ {t u : TS} (h : t { D with nx := u D } σ H) : tSeq t u D σ H := h
theorem asg_ {te : TE} {g : TG} (h : te σ H fun x H1 => g x σ H1 D.nx) : tAsg te g D σ H := h
theorem name_ {i : Nat} {v : V} {W : L2.St → Hp → Prop} (h : W (σ.set i (some v)) H) : gName i v σ H W := h
theorem drop_ {te : TE} (h : te σ H fun _ H1 => D.nx σ H1) : tDrop te D σ H := h
theorem ret_ {te : TE} (h : te σ H D.rt) : tRet te D σ H := h
theorem retN_ (h : D.rt .non H) : tRetN D σ H := h
theorem next_ (h : D.nx σ H) : tNext D σ H := h
theorem brk_ (h : D.bk σ H) : tBreak D σ H := h
theorem cont_ (h : D.ct σ H) : tCont D σ H := h
theorem ifs_ {c : TT} {t u : TS} (h : c σ H fun b H1 => if b = true then t D σ H1 else u D σ H1) : tIfS c t u D σ H := h
theorem aug_ {i : Nat} {te : TE} {ti : TIp} {x : V} (e : σ[i]? = some (some x)) (h : te σ H fun y H1 => ti x y H1 fun z H2 => D.nx (σ.set i (some z)) H2) : tAug i te ti D σ H := ⟨x, e, h⟩
theorem nxm {nx : L2.St → Hp → Prop} {rt : VK} {bk ct : L2.St → Hp → Prop} (h : nx σ H) : (Ends.mk nx rt bk ct).nx σ H := h
theorem rtm {nx : L2.St → Hp → Prop} {rt : VK} {bk ct : L2.St → Hp → Prop} {v : V} (h : rt v H) : (Ends.mk nx rt bk ct).rt v H := h
theorem bkm {nx : L2.St → Hp → Prop} {rt : VK} {bk ct : L2.St → Hp → Prop} (h : bk σ H) : (Ends.mk nx rt bk ct).bk σ H := h
theorem ctm {nx : L2.St → Hp → Prop} {rt : VK} {bk ct : L2.St → Hp → Prop} (h : ct σ H) : (Ends.mk nx rt bk ct).ct σ H := h
/- expressions -/
theorem var_ {i : Nat} {v : V} (e : σ[i]? = some (some v)) (q : Q v H) : tVar i σ H Q := ⟨v, e, q⟩
theorem c_ {v : V} (q : Q v H) : tC v σ H Q := q
theorem op_ {r : R2} {ta tb : TE} (h : ta σ H fun x H1 => tb σ H1 fun y H2 => r x y H2 Q) : tOp r ta tb σ H Q := h
theorem un_ {r : V → Hp → VK → Prop} {ta : TE} (h : ta σ H fun x H1 => r x H1 Q) : tUn r ta σ H Q := h
theorem u_ {g : Int → V} {i : Int} (q : Q (g i) H) : rU g (.int i) H Q := ⟨i, rfl, q⟩
theorem i0_ {g : Int → Int → V} {i j : Int} (q : Q (g i j) H) : rI0 g (.int i) (.int j) H Q := ⟨i, j, rfl, rfl, q⟩
theorem i_ {C : Int → Int → Prop} {g : Int → Int → V} {i j : Int} (c : C i j) (q : Q (g i j) H) : rI C g (.int i) (.int j) H Q := ⟨i, j, rfl, rfl, c, q⟩
theorem eq_ {x y : V} (c : scal x y = true) (q : Q (.bl (decide (x = y))) H) : rEq x y H Q := ⟨c, q⟩
theorem eqr_ {i : Int} (q : Q (.bl true) H) : rEq (.int i) (.int i) H Q := ⟨rfl, by
  rw [decide_eq_true rfl]; exact q⟩
theorem eqs_ {i : Str} (q : Q (.bl true) H) : rEq (.str i) (.str i) H Q := ⟨rfl, by
  rw [decide_eq_true rfl]; exact q⟩
theorem eqi_ {i j : Int} (q : Q (.bl (decide (i = j))) H) : rEq (.int i) (.int j) H Q := ⟨rfl, by
  have : decide (V.int i = V.int j) = decide (i = j) := decide_eq_decide.mpr ⟨fun h => by cases h; rfl, fun h => by rw [h]⟩
  rw [this]; exact q⟩
theorem nei_ {i j : Int} (q : Q (.bl (!decide (i = j))) H) : rNe (.int i) (.int j) H Q := ⟨rfl, by
  have : decide (V.int i = V.int j) = decide (i = j) := decide_eq_decide.mpr ⟨fun h => by cases h; rfl, fun h => by rw [h]⟩
  rw [this]; exact q⟩
theorem ne_ {x y : V} (c : scal x y = true) (q : Q (.bl (!decide (x = y))) H) : rNe x y H Q := ⟨c, q⟩
theorem test_ {t : TE} {R : Bool → Hp → Prop} (h : t σ H fun x H' => ∃ k, x = .bl k ∧ R k H') : tTest t σ H R := h
theorem sl_ {r : V → Option Int → Option Int → Hp → VK → Prop} {te : TE} {tl th : TO} (h : te σ H fun x H1 => tl σ H1 fun l H2 => th σ H2 fun u H3 => r x l u H3 Q) : tSl r te tl th σ H Q := h
theorem npart_ {R : Option Int → Hp → Prop} (h : R none H) : tNoPart σ H R := h
theorem part_ {te : TE} {R : Option Int → Hp → Prop} (h : te σ H fun x H1 => ∃ i, x = .int i ∧ R (some i) H1) : tPart te σ H R := h
theorem int1_ {i : Int} {A : Int → Prop} (h : A i) : ∃ k, V.int i = .int k ∧ A k := ⟨i, rfl, h⟩
theorem int2_ {i : Int} {A : Int → Prop} (h : A i) : ∃ k, [V.int i] = [V.int k] ∧ A k := ⟨i, rfl, h⟩
theorem slL_ {a : Addr} {xs : List V} {lo hi : Option Int} (s : SqL K H a xs) (h : ∀ p, H p = none → Q (.ref p) (upd H p (.lst (cutV xs lo hi)))) : rSlL K (.ref a) lo hi H Q := ⟨a, xs, rfl, s, h⟩
theorem cut_takeA {xs : List Int} (n : Nat) : cutV (xs.map V.int) none (some (n : Int)) = (xs.take n).map V.int := by
  unfold cutV
  rw [HT.sIx_none, HT.sIx_nat, List.length_map, List.drop_zero, Nat.sub_zero, List.map_take]
  by_cases h : n ≤ xs.length
  · rw [Nat.min_eq_left h]
  · rw [Nat.min_eq_right (by omega), List.take_of_length_le (by rw [List.length_map]; omega), List.take_of_length_le (by rw [List.length_map]; omega)]
theorem bool_ {b : Bool} {A : Bool → Prop} (h : A b) : ∃ k, V.bl b = .bl k ∧ A k := ⟨b, rfl, h⟩
theorem b_ {t : TE} {R : Bool → Hp → Prop} (h : t σ H fun x H' => ∃ k, x = .bl k ∧ R k H') : tB t σ H R := h
theorem and_ {t u : TT} {R : Bool → Hp → Prop} (h : t σ H fun c H1 => if c = true then u σ H1 R else R false H1) : tAnd t u σ H R := h
theorem or_ {t u : TT} {R : Bool → Hp → Prop} (h : t σ H fun c H1 => if c = true then R true H1 else u σ H1 R) : tOr t u σ H R := h
theorem not_ {t : TT} {R : Bool → Hp → Prop} (h : t σ H fun c H1 => R (!c) H1) : tNot t σ H R := h
theorem andV_ {ta tb : TE} (h : ta σ H fun x H1 => ∃ c, x = .bl c ∧ if c = true then tb σ H1 Q else Q (.bl false) H1) : tAndV ta tb σ H Q := h
theorem orV_ {ta tb : TE} (h : ta σ H fun x H1 => ∃ c, x = .bl c ∧ if c = true then Q (.bl true) H1 else tb σ H1 Q) : tOrV ta tb σ H Q := h
theorem notV_ {ta : TE} (h : ta σ H fun x H1 => ∃ c, x = .bl c ∧ Q (.bl (!c)) H1) : tNotV ta σ H Q := h
theorem if_ {t : TT} {ta tb : TE} (h : t σ H fun c H1 => if c = true then ta σ H1 Q else tb σ H1 Q) : tIf t ta tb σ H Q := h
theorem nil_ {R : List V → Hp → Prop} (h : R [] H) : tNil σ H R := h
theorem cons_ {ta : TE} {tr : TA} {R : List V → Hp → Prop} (h : ta σ H fun x H1 => tr σ H1 fun xs H2 => R (x :: xs) H2) : tCons ta tr σ H R := h
theorem lst_ {t : TA} (h : t σ H fun xs H1 => xs.length ≤ sizeLine ∧ ∀ p, H1 p = none → Q (.ref p) (upd H1 p (.lst xs))) : tLst t σ H Q := h
theorem tup_ {t : TA} (h : t σ H fun xs H1 => xs.length ≤ sizeLine ∧ ∀ p, H1 p = none → Q (.ref p) (upd H1 p (.tup xs))) : tTup t σ H Q := h
theorem call_ {sp : Sp} {dvs : List V} {E : XK} {t : TA} (h : t σ H fun vs H1 => sp (vs ++ dvs) H1 Q E) : tCall sp dvs E t σ H Q := h
theorem callS_ {sp : Sp} {E : L2.St → XK} {t : TA} (h : t σ H fun vs H1 => sp vs H1 Q (E σ)) : tCallS sp E t σ H Q := h
theorem cb_ {r : List V → Hp → VK → Prop} {t : TA} (h : t σ H fun vs H1 => r vs H1 Q) : tCB r t σ H Q := h
theorem bm_ {T : String} {r : V → List V → Hp → VK → Prop} {to : TE} {t : TA} (h : to σ H fun x H1 => tyV K T x H1 ∧ t σ H1 fun xs H2 => r x xs H2 Q) : tBM K T r to t σ H Q := h
theorem ixL_ {p : Addr} {xs : List V} {i : Int} {v : V} (h : SqL K H p xs) (e : atI xs i = some v) (q : Q v H) : rIxL K (.ref p) (.int i) H Q := ⟨p, xs, i, v, rfl, rfl, h, e, q⟩
theorem ixT_ {p : Addr} {xs : List V} {i : Int} {v : V} (h : SqT K H p xs) (e : atI xs i = some v) (q : Q v H) : rIxT K (.ref p) (.int i) H Q := ⟨p, xs, i, v, rfl, rfl, h, e, q⟩
theorem lenL_ {p : Addr} {xs : List V} (h : SqL K H p xs) (q : Q (.int xs.length) H) : _root_.Evl.rLenS K [.ref p] H Q := ⟨p, xs, rfl, .inl h, q⟩
theorem lenT_ {p : Addr} {xs : List V} (h : SqT K H p xs) (q : Q (.int xs.length) H) : _root_.Evl.rLenS K [.ref p] H Q := ⟨p, xs, rfl, .inr h, q⟩
theorem app_ {l : Addr} {xs : List V} {y : V} (h : H l = some (.lst xs)) (z : xs.length < sizeLine) (q : Q .non (upd H l (.lst (xs ++ [y])))) : rAppend (.ref l) [y] H Q := ⟨l, xs, y, rfl, rfl, h, z, q⟩
theorem listof_ {p : Addr} {ys : List V} {A : List V → Prop} (h : SqL K H p ys) (q : A ys) : ∃ p' ys', [V.ref p] = [.ref p'] ∧ (SqL K H p' ys' ∨ SqT K H p' ys') ∧ A ys' := ⟨p, ys, rfl, .inl h, q⟩
theorem listofT_ {p : Addr} {ys : List V} {A : List V → Prop} (h : SqT K H p ys) (q : A ys) : ∃ p' ys', [V.ref p] = [.ref p'] ∧ (SqL K H p' ys' ∨ SqT K H p' ys') ∧ A ys' := ⟨p, ys, rfl, .inr h, q⟩
theorem tupleofT_ {p : Addr} {ys : List V} {A : List V → Prop} {B : Addr → Prop} (h : SqT K H p ys) (q : B p) : ∃ p' ys', [V.ref p] = [.ref p'] ∧ ((SqL K H p' ys' ∧ A ys') ∨ (SqT K H p' ys' ∧ B p')) := ⟨p, ys, rfl, .inr ⟨h, q⟩⟩
theorem eqD_ {x y : V} {d e : PyData} (hx : Dp K H x d) (hy : Dp K H y e) (hd : SeqAt.shaped d = true) (he : SeqAt.shaped e = true) (q : Q (.bl (PyData.eqv d e)) H) : rEqD K x y H Q := ⟨d, e, hx, hy, hd, he, q⟩
theorem neD_ {x y : V} {d e : PyData} (hx : Dp K H x d) (hy : Dp K H y e) (hd : SeqAt.shaped d = true) (he : SeqAt.shaped e = true) (q : Q (.bl (!PyData.eqv d e)) H) : rNeD K x y H Q := ⟨d, e, hx, hy, hd, he, q⟩
theorem wAs_ {c cls : Value} {i : Nat} {ts : Addr → Value → Option Addr → TS} {Wout : WX} {d : Option Addr} (e : PySem.W.exmOne K cls c = some true) (h : ∀ a, H a = none → ts a cls d { nx := fun σ' H' => D.nx (σ'.set i none) H', rt := D.rt, bk := fun σ' H' => D.bk (σ'.set i none) H', ct := fun σ' H' => D.ct (σ'.set i none) H' } (σ.set i (some (.ref a))) H) : wAs K c i ts Wout D cls d σ H := ⟨true, e, fun _ => h, fun z => by cases z⟩
theorem cat_ {l b : Addr} {xs zs : List V} (h : H l = some (.lst xs)) (k : H b = some (.lst zs)) (z : xs.length + zs.length ≤ sizeLine) (q : ∀ p, H p = none → Q (.ref p) (upd H p (.lst (xs ++ zs)))) : rCat (.ref l) (.ref b) H Q := ⟨l, b, xs, zs, rfl, rfl, h, k, z, q⟩
theorem intb_ {b : Bool} {A : Int → Prop} {B : Bool → Prop} (q : B b) : (∃ i, [V.bl b] = [.int i] ∧ A i) ∨ ∃ k, [V.bl b] = [.bl k] ∧ B k := .inr ⟨b, rfl, q⟩
theorem inti_ {i : Int} {A : Int → Prop} {B : Prop} (q : A i) : (∃ i', [V.int i] = [.int i'] ∧ A i') ∨ B := .inl ⟨i, rfl, q⟩
theorem b01 (b : Bool) : -(2 ^ 64) < (if b = true then (1 : Int) else 0) ∧ (if b = true then (1 : Int) else 0) < 2 ^ 64 := by cases b <;> decide
theorem rng1_ {ta : TA} {R : It → Hp → Prop} (h : ta σ H fun vs H1 => ∃ j : Int, vs = [.int j] ∧ -(2 ^ 62) ≤ j ∧ j < 2 ^ 62 ∧ R (Itr 0 j.toNat) H1) : iRng1 ta σ H R := h
theorem list_ {tl : TE} {R : It → Hp → Prop} (h : tl σ H fun x H1 => ∃ a, x = .ref a ∧ (∃ xs, SqL K H1 a xs) ∧ R (Itl K a) H1) : iList K tl σ H R := h
theorem itup_ {tl : TE} {R : It → Hp → Prop} (h : tl σ H fun x H1 => ∃ a, x = .ref a ∧ (∃ xs, SqT K H1 a xs) ∧ R (Itt K a) H1) : iTup K tl σ H R := h
theorem for_ {wi : TI} {g : TG} {tb : TS} (h : wi σ H fun J H1 => ∃ W : Nat → Nat → L2.St → Hp → Prop, (∃ m, W 0 m σ H1) ∧ ∀ i m σ H, W i m σ H →
  (J.stop i H ∧ D.nx σ H) ∨ (J.go i H ∧ ∃ N : L2.St → Hp → Prop, (∀ σ' H', N σ' H' → ∃ m', m' < m ∧ W (i + 1) m' σ' H') ∧ ∀ x H', J.yld i H x H' → g x σ H' fun σ2 H2 => tb { D with nx := N, ct := N, bk := D.nx } σ2 H2)) : tFor wi g tb D σ H := h
theorem lc_ {wi : TI} {g : TG} {tt : TT} {te : TE} {vs : List Nat} (h : wi σ H fun J H1 => ∀ D, H1 D = none → ∃ W : Nat → Nat → Hp → Prop, (∃ m, W 0 m (upd H1 D (.lst []))) ∧ ∀ i m H, W i m H →
  (J.stop i H ∧ Q (.ref D) H) ∨ (J.go i H ∧ ∃ Nx : Hp → Prop, (∀ H', Nx H' → ∃ m', m' < m ∧ W (i + 1) m' H') ∧ ∀ x H', J.yld i H x H' → g x (wipe σ vs) H' fun σ2 H2 => wipe σ2 vs = wipe σ vs ∧ tt σ2 H2 fun b H3 =>
    if b = true then te σ2 H3 fun y H4 => ∃ acc, H4 D = some (.lst acc) ∧ acc.length < sizeLine ∧ Nx (upd H4 D (.lst (acc ++ [y]))) else Nx H3)) : tLc wi g tt te vs σ H Q := h
theorem yes_ {A B : Hp → Prop} (h : A H) : tYes σ H (fun b H3 => if b = true then A H3 else B H3) := by
  show (if true = true then A H else B H)
  rw [if_pos rfl]
  exact h
theorem refNon {p : Addr} {A B : Prop} (h : B) : if decide (V.ref p = V.non) = true then A else B := by rw [if_neg (by intro z; have := of_decide_eq_true z; cases this)]; exact h
theorem nonNon {A B : Prop} (h : A) : if decide (V.non = V.non) = true then A else B := by rw [if_pos (decide_eq_true rfl)]; exact h
theorem line {n : Nat} (h : n ≤ 20000) : n < sizeLine := Nat.lt_of_lt_of_le (Nat.lt_of_le_of_lt h (by decide : 20000 < 100000)) (by decide)
theorem tyl_ {p : Addr} {xs : List V} {A : Prop} (h : SqL K H p xs) (q : A) : tyV K "list" (.ref p) H ∧ A := ⟨.inl ⟨rfl, xs, h⟩, q⟩
theorem tupleof_ {p : Addr} {ys : List V} {A : List V → Prop} {B : Addr → List V → Prop} (h : SqL K H p ys) (q : A ys) : ∃ p' ys', [V.ref p] = [.ref p'] ∧ ((SqL K H p' ys' ∧ A ys') ∨ B p' ys') := ⟨p, ys, rfl, .inl ⟨h, q⟩⟩
/-- a list of ints that grows at D, H0 without D -/
def IntsAt (H0 : Hp) (D : Addr) (Pr : Nat → Int → Prop) (i : Nat) (H : Hp) : Prop := Same H0 H ∧ ∃ zs : List Int, H D = some (.lst (zs.map V.int)) ∧ zs.length = i ∧ ∀ (k : Nat) (z : Int), zs[k]? = some z → Pr k z
theorem IntsAt.start {H0 : Hp} {D : Addr} {Pr : Nat → Int → Prop} (nD : H0 D = none) : IntsAt H0 D Pr 0 (upd H0 D (.lst [])) := ⟨newS nD rfl, [], upd_same, rfl, fun k z h => by simp at h⟩
theorem IntsAt.step {H0 H H4 : Hp} {D : Addr} {Pr : Nat → Int → Prop} {i : Nat} {z : Int} (nD : H0 D = none) (h : IntsAt H0 D Pr i H) (s : Same H H4) (hi : i < 10000) (pz : Pr i z) : ∃ acc, H4 D = some (.lst acc) ∧ acc.length < sizeLine ∧ IntsAt H0 D Pr (i + 1) (upd H4 D (.lst (acc ++ [.int z]))) := by
  obtain ⟨s0, zs, hD, hl, hp⟩ := h
  refine ⟨_, s _ _ hD, by rw [List.length_map]; exact line (by omega), mutS (s0.trans s) nD, zs ++ [z], by rw [upd_same, List.map_append]; rfl, by rw [List.length_append, hl]; rfl, fun k x hk => ?_⟩
  by_cases c : k < zs.length
  · rw [List.getElem?_append_left c] at hk
    exact hp k x hk
  · have hkl := (List.getElem?_eq_some_iff.mp hk).1
    rw [List.length_append, List.length_singleton] at hkl
    obtain rfl : k = zs.length := by omega
    rw [List.getElem?_append_right (Nat.le_refl _), Nat.sub_self] at hk
    cases hk
    rw [hl]
    exact pz
/-- entries that grow at D, H0 without D -/
def EntsG (H0 : Hp) (D : Addr) (Pe : Nat → OT.Ent → Prop) (i : Nat) (H : Hp) : Prop := Same H0 H ∧ ∃ (ws : List V) (es : List OT.Ent), H D = some (.lst ws) ∧ OT.Ents H ws es ∧ es.length = i ∧ ∀ (k : Nat) (e : OT.Ent), es[k]? = some e → Pe k e
theorem EntsG.start {H0 : Hp} {D : Addr} {Pe : Nat → OT.Ent → Prop} (nD : H0 D = none) : EntsG H0 D Pe 0 (upd H0 D (.lst [])) := ⟨newS nD rfl, [], [], upd_same, .nil, rfl, fun k z h => by simp at h⟩
theorem ne_ltup {a D : Addr} {xs l : List V} (h : H a = some (.tup xs)) (hD : H D = some (.lst l)) : a ≠ D := fun e => by
  rw [e, hD] at h
  cases h
theorem ents_upd {H : Hp} {D : Addr} {l l' : List V} {vs : List V} {es : List OT.Ent} (hD : H D = some (.lst l)) (h : OT.Ents H vs es) : OT.Ents (upd H D (.lst l')) vs es := by
  induction h with
  | nil => exact .nil
  | cons h1 _ ih =>
    obtain ⟨t, p, rfl, ht, hp⟩ := h1
    refine .cons ⟨t, p, rfl, ?_, ?_⟩ ih
    · rw [upd_ne (ne_ltup ht hD)]; exact ht
    · rw [upd_ne (ne_ltup hp hD)]; exact hp
theorem EntsG.step {H0 H H4 : Hp} {D : Addr} {Pe : Nat → OT.Ent → Prop} {i : Nat} {v : V} {e : OT.Ent} (nD : H0 D = none) (h : EntsG H0 D Pe i H) (s : Same H H4) (hi : i < 10000) (hv : OT.EntAt H4 v e) (pz : Pe i e) : ∃ acc, H4 D = some (.lst acc) ∧ acc.length < sizeLine ∧ EntsG H0 D Pe (i + 1) (upd H4 D (.lst (acc ++ [v]))) := by
  obtain ⟨s0, ws, es, hD, hE, hl, hp⟩ := h
  have hw := hE.len
  refine ⟨_, s _ _ hD, line (by omega), mutS (s0.trans s) nD, ws ++ [v], es ++ [e], upd_same, ents_upd (s _ _ hD) ((hE.mono s).app (.cons hv .nil)), by rw [List.length_append, hl]; rfl, fun k x hk => ?_⟩
  by_cases c : k < es.length
  · rw [List.getElem?_append_left c] at hk
    exact hp k x hk
  · have hkl := (List.getElem?_eq_some_iff.mp hk).1
    rw [List.length_append, List.length_singleton] at hkl
    obtain rfl : k = es.length := by omega
    rw [List.getElem?_append_right (Nat.le_refl _), Nat.sub_self] at hk
    cases hk
    rw [hl]
    exact pz
theorem atN {xs : List V} {k : Int} {j : Nat} {v : V} (e : k = (j : Int)) (h : xs[j]? = some v) : atI xs k = some v := by rw [e]; exact atI_nat h
end
end AU

set_option Elab.async false
set_option linter.all false
set_option maxRecDepth 100000
set_option maxHeartbeats 4000000
/-! xs.count(y) of a list of flat items -/
namespace OA
open PySem PySem.Spec PyProof.Rows PySem.W PySem.Calls L2
theorem count_vals {y : V} : ∀ {ys : List V} {its : List Value}, Vals ys its → ys.all flatV = true → its.countP (eqU y) = ys.countP fun z => eqV z y
  | [], _, .nil, _ => rfl
  | z :: r, _, .cons rz rt, f => by
    rw [List.all_cons, Bool.and_eq_true] at f
    rw [List.countP_cons, List.countP_cons, count_vals rt f.2, eqU_of rz f.1]
section
variable {X : Cx}
def rCntV (K : PySem.W.Frag) : V → List V → Hp → VK → Prop := fun x xs H Q => ∃ (p : Addr) (ys : List V) (y : V), x = .ref p ∧ xs = [y] ∧ SqL K H p ys ∧ flatV y = true ∧ ys.all flatV = true ∧ Q (.int ((ys.countP fun z => eqV z y : Nat) : Int)) H
theorem mt_lcountV : MtR X "list.count" (rCntV X.K) := by
  intro pins s σ H x xs v us Q I rx rxs h
  obtain ⟨p, ys, y, rfl, rfl, hs, fy, fys, q⟩ := h
  cases rx
  cases rxs with
  | cons ry rt =>
    rename_i uy ut
    cases rt
    obtain ⟨its, rv, ⟨⟨cls, dd, data, sl⟩, n, ho, hc, hdn, hd⟩, hlen⟩ := I.list hs
    simp only at hc hd
    subst hc hd
    refine call_meets PySem.F.slot_list_count ⟨_, ho, rfl⟩ PySem.F.entry_list_count (PySem.F.args_list_count_2 _ _)
      (SeqAt.list_countAt p its.toArray n dd sl uy (eqU y)) ⟨ho, fun u' hu' => mem_eqAt ry fy rv fys u' (by simpa using hu'), ?_⟩
    refine ⟨.int ((ys.countP fun z => eqV z y : Nat) : Int), H, I.tok _, ⟨s.toks, ?_⟩, q⟩
    show Value.int ((its.toArray.toList.countP (eqU y) : Nat) : Int) s.toks = Value.int ((ys.countP fun z => eqV z y : Nat) : Int) s.toks
    have e : its.toArray.toList = its := rfl
    rw [e, count_vals rv fys]
end
end OA

set_option Elab.async false
set_option linter.all false
set_option maxRecDepth 100000
set_option maxHeartbeats 2000000
/-! data in the heap: kept where the heap grows; what is shaped -/
namespace OT
open PySem PySem.Spec PyProof.Rows L2
theorem same_tD {K : PySem.W.Frag} {H H' : Hp} {a : Addr} {xs : List V} (e : Same H H') (h : SqT K H a xs) : SqT K H' a xs := by
  rcases h with (h | ⟨o, h⟩) | h
  · exact .inl (.inl (e _ _ h))
  · exact .inl (.inr ⟨o, e _ _ h⟩)
  · exact .inr h
mutual
theorem Dp.mono {K : PySem.W.Frag} {H H' : Hp} (s : Same H H') : ∀ {v : V} {d : PyData}, Dp K H v d → Dp K H' v d
  | _, _, .non => .non
  | _, _, .bl b => .bl b
  | _, _, .int i => .int i
  | _, _, .str x => .str x
  | _, _, .lst h1 h2 => .lst (s.seq h1) (DpAll.mono s h2)
  | _, _, .tup h1 h2 => .tup (same_tD s h1) (DpAll.mono s h2)
theorem DpAll.mono {K : PySem.W.Frag} {H H' : Hp} (s : Same H H') : ∀ {vs : List V} {ds : List PyData}, DpAll K H vs ds → DpAll K H' vs ds
  | _, _, .nil => .nil
  | _, _, .cons h1 h2 => .cons (Dp.mono s h1) (DpAll.mono s h2)
end
theorem DpAll.len {K : PySem.W.Frag} {H : Hp} {vs : List V} {ds : List PyData} (h : DpAll K H vs ds) : vs.length = ds.length := by
  induction vs generalizing ds with
  | nil =>
    cases h
    rfl
  | cons v r ih =>
    cases h with
    | cons _ h2 => rw [List.length_cons, List.length_cons, ih h2]
theorem DpAll.snoc {K : PySem.W.Frag} {H : Hp} {v : V} {d : PyData} : ∀ {vs : List V} {ds : List PyData}, DpAll K H vs ds → Dp K H v d → DpAll K H (vs ++ [v]) (ds ++ [d])
  | [], _, h, k => by
    cases h
    exact .cons k .nil
  | _ :: r, _, h, k => by
    cases h with
    | cons h1 h2 => exact .cons h1 (DpAll.snoc h2 k)
/-- data that is shaped, of a depth -/
structure DOk (n : Nat) (d : PyData) : Prop where
  lay : d.canLay0 = true
  dep : d.depth ≤ n
theorem DOk.le {n m : Nat} {d : PyData} (h : DOk n d) (k : n ≤ m) : DOk m d := ⟨h.lay, Nat.le_trans h.dep k⟩
theorem layAll {ds : List PyData} {n : Nat} : (∀ d ∈ ds, DOk n d) → PyData.canLayAll0 ds = true ∧ PyData.depthAll ds ≤ n := by
  induction ds with
  | nil =>
    intro _
    exact ⟨by simp only [PyData.canLayAll0], by simp only [PyData.depthAll]; omega⟩
  | cons d r ih =>
    intro h
    obtain ⟨h1, h2⟩ := ih fun x hx => h x (List.mem_cons_of_mem _ hx)
    have hd := h d List.mem_cons_self
    refine ⟨?_, ?_⟩
    · simp only [PyData.canLayAll0, hd.lay, h1, Bool.and_self]
    · have := hd.dep
      simp only [PyData.depthAll]
      omega
theorem DOk.list {n : Nat} {ds : List PyData} (h : ∀ d ∈ ds, DOk n d) : DOk (n + 1) (.list ds) := by
  obtain ⟨h1, h2⟩ := layAll h
  exact ⟨h1, by simp only [PyData.depth]; omega⟩
theorem DOk.tuple {n : Nat} {ds : List PyData} (h : ∀ d ∈ ds, DOk n d) : DOk (n + 1) (.tuple ds) := by
  obtain ⟨h1, h2⟩ := layAll h
  exact ⟨h1, by simp only [PyData.depth]; omega⟩
theorem DOk.int (i : Int) : DOk 1 (.int i) := ⟨rfl, by simp only [PyData.depth]; omega⟩
theorem DOk.shaped {n : Nat} {d : PyData} (h : DOk n d) (hn : n ≤ 64) : SeqAt.shaped d = true := by
  unfold SeqAt.shaped
  rw [h.lay, Bool.true_and]
  exact decide_eq_true (Nat.le_trans h.dep hn)
theorem eqvD {d : PyData} (h : SeqAt.shaped d = true) : PyData.eqv d d = true := SeqAt.eqv_refl _ (SeqAt.canLay_of_shaped h)
theorem DOk.pl (k : Pl) : DOk 2 (.tuple (k.map PyData.int)) := DOk.tuple fun d hd => by
  obtain ⟨x, _, rfl⟩ := List.mem_map.mp hd
  exact DOk.int x
theorem DOk.ent (e : Ent) : DOk 3 (dEnt e) := DOk.tuple (n := 2) fun d hd => by
  rcases List.mem_cons.mp hd with rfl | hd
  · exact DOk.pl e.1
  · rcases List.mem_cons.mp hd with rfl | hd
    · exact (DOk.int _).le (by decide)
    · cases hd
theorem DOk.row (es : List Ent) : DOk 4 (dRow es) := DOk.list fun d hd => by
  obtain ⟨x, _, rfl⟩ := List.mem_map.mp hd
  exact DOk.ent x
/-- places as data -/
def dMat (M : List Pl) : PyData := .list (M.map fun l => .tuple (l.map PyData.int))
theorem DOk.mat (M : List Pl) : DOk 3 (dMat M) := DOk.list fun d hd => by
  obtain ⟨x, _, rfl⟩ := List.mem_map.mp hd
  exact DOk.pl x
theorem DOk.ints (ns : List Int) : DOk 2 (.list (ns.map PyData.int)) := DOk.list fun d hd => by
  obtain ⟨x, _, rfl⟩ := List.mem_map.mp hd
  exact DOk.int x
end OT

set_option Elab.async false
set_option linter.all false
set_option maxRecDepth 100000
set_option maxHeartbeats 4000000
/-! a held error: isinstance, fields, calls with it -/
namespace OT
open PySem PySem.Spec PyProof.Rows L2
def rIsX (K : PySem.W.Frag) (a : Addr) (c : Value) (d : Option Addr) : List V → Hp → VK → Prop := fun xs H Q => ∃ (C dd : Addr) (fs : List (Str × V)) (y : V) (u : Value) (b : Bool),
    xs = [.ref a, y] ∧ c = .ref C ∧ d = some dd ∧ PySem.W.OtCls K C ∧ H dd = some (.xd fs) ∧ ClsV y u ∧ PySem.W.kitOne K (.ref C) u = some b ∧ Q (.bl b) H
theorem call_isA {X : Cx} {a : Addr} {oe : Obj} {c : Value} {d : Option Addr} (hp : (a, oe) ∈ X.pn) (zc : Zc c d oe) (fld : ∃ fs, oe.data = .fields fs) : CallR X (.builtin "isinstance") (rIsX X.K a c d) := call_isX (p := (a, oe)) hp zc fld
def tCallE (sp : SpE) (a : Addr) (c : Value) (d : Option Addr) (t : TA) : TE := fun σ H Q => t σ H fun vs H1 => sp a c d vs H1 Q E0
theorem pe_callA {X : Cx} {a : Addr} {oe : Obj} {c : Value} {d : Option Addr} {k : Nat} {f : Addr} {fd : FuncData} {ps : List Str} {sp : SpE} {x : Str} {q pos : Pos} {e : Expr} {es : List Expr} {t : TA} (F : FnE X.prog X.w X.K X.mg X.base k f fd ps sp) (hr : L2H.RoomH k X.A) (hp : (a, oe) ∈ X.pn) (zc : Zc c d oe) (fld : ∃ fs, oe.data = .fields fs) (hg : Gl X x) (hm : X.mg x = some (.ref f)) (hk : PySem.W.keepIn X.K (.ref f) = true) (hb : Binds X.K fd ps [])
    (ha : PA X (e :: es) t) (hdb : (x == ("__debug__" : Str)) = false := by decide) (he : starEach (e :: es) X.env = (false, eval e X.env) :: starEach es X.env := by rfl) (hpl : (backTo pos (starEach es X.env)).any (·.1) = false := by rfl) :
    PE X (.Call (.Name x q) (e :: es) [] pos) (tCallE sp a c d t) := pe_callE (p := (a, oe)) F hr hp zc fld hg hm hk hb ha hdb he hpl
def tFA (K : PySem.W.Frag) (a : Addr) (c : Value) (d : Option Addr) (n : Str) (te : TE) : TE := fun σ H Q => te σ H fun y H1 => ∃ (C dd : Addr) (fs : List (Str × V)) (v : V), y = .ref a ∧ c = .ref C ∧ d = some dd ∧ PySem.W.OtCls K C ∧ PySem.W.findIn K (.ref C) n = some none ∧ H1 dd = some (.xd fs) ∧ fs.lookup n = some v ∧ Q v H1
theorem pe_fA {X : Cx} {a : Addr} {oe : Obj} {c : Value} {d : Option Addr} {n : Str} {e : Expr} {te : TE} {pos : Pos} (hp : (a, oe) ∈ X.pn) (zc : Zc c d oe) (fld : ∃ fs, oe.data = .fields fs) (he : PE X e te) (hb : attributeBase e n X.env (eval e X.env) = eval e X.env := by rfl) :
    PE X (.Attribute e n pos) (tFA X.K a c d n te) := pe_fX (p := (a, oe)) hp zc fld he hb
structure HeldF (K : PySem.W.Frag) (H : Hp) (C dd : Addr) (c : Value) (d : Option Addr) (fs : List (Str × V)) : Prop where
  c : c = .ref C
  d : d = some dd
  t : PySem.W.OtCls K C
  h : H dd = some (.xd fs)
structure KitE (K : PySem.W.Frag) (B C : Addr) : Prop where
  b : PySem.W.kitOne K (.ref C) (.ref B) = some true
  v : PySem.W.kitOne K (.ref C) (.type "ValueError") = some true
theorem roomH_m {k : Nat} {A : Around} {v : Option Value} (r : Room k A) : L2H.RoomH k (A.mark v) := ⟨r.dp, r.un⟩
theorem HeldF.mono {K : PySem.W.Frag} {H H' : Hp} {C dd : Addr} {c : Value} {d : Option Addr} {fs : List (Str × V)} (s : Same H H') (h : HeldF K H C dd c d fs) : HeldF K H' C dd c d fs := { h with h := s _ _ h.h }
theorem isX_ {K : PySem.W.Frag} {a : Addr} {c : Value} {d : Option Addr} {H : Hp} {Q : VK} {C dd : Addr} {fs : List (Str × V)} {y : V} {u : Value} {b : Bool} (h : HeldF K H C dd c d fs) (v : ClsV y u) (k : PySem.W.kitOne K (.ref C) u = some b) (q : Q (.bl b) H) : rIsX K a c d [.ref a, y] H Q := ⟨C, dd, fs, y, u, b, rfl, h.c, h.d, h.t, h.h, v, k, q⟩
theorem fA_ {K : PySem.W.Frag} {a : Addr} {c : Value} {d : Option Addr} {n : Str} {te : TE} {σ : L2.St} {H : Hp} {Q : VK} (h : te σ H fun y H1 => ∃ (C dd : Addr) (fs : List (Str × V)) (v : V), y = .ref a ∧ c = .ref C ∧ d = some dd ∧ PySem.W.OtCls K C ∧ PySem.W.findIn K (.ref C) n = some none ∧ H1 dd = some (.xd fs) ∧ fs.lookup n = some v ∧ Q v H1) : tFA K a c d n te σ H Q := h
theorem fB_ {K : PySem.W.Frag} {a : Addr} {c : Value} {d : Option Addr} {n : Str} {H : Hp} {A : V → Prop} {C dd : Addr} {fs : List (Str × V)} {v : V} (h : HeldF K H C dd c d fs) (f : PySem.W.findIn K (.ref C) n = some none) (l : fs.lookup n = some v) (q : A v) : ∃ (C dd : Addr) (fs : List (Str × V)) (v : V), V.ref a = .ref a ∧ c = .ref C ∧ d = some dd ∧ PySem.W.OtCls K C ∧ PySem.W.findIn K (.ref C) n = some none ∧ H dd = some (.xd fs) ∧ fs.lookup n = some v ∧ A v := ⟨C, dd, fs, v, rfl, h.c, h.d, h.t, f, h.h, l, q⟩
theorem callE_ {sp : SpE} {a : Addr} {c : Value} {d : Option Addr} {t : TA} {σ : L2.St} {H : Hp} {Q : VK} (h : t σ H fun vs H1 => sp a c d vs H1 Q E0) : tCallE sp a c d t σ H Q := h
theorem isi_ {K : PySem.W.Frag} {H : Hp} {Q : VK} {x c : V} {t u : Value} {b : Bool} (hc : ClsV c u) (hx : TyX K H x t) (hk : PySem.W.kitOne K t u = some b) (q : Q (.bl b) H) : rIsi K [x, c] H Q := ⟨x, c, t, u, b, rfl, hc, hx, hk, q⟩
theorem isin_ {K : PySem.W.Frag} {H : Hp} {Q : VK} {x c : V} {t u : Value} {b : Bool} (hc : ClsV c u) (hx : TyX K H x t) (hk : PySem.W.kitOne K t u = some b) (q : Q (.bl b) H) : ∃ (x' c' : V) (t' u' : Value) (b' : Bool), [x, c] = [x', c'] ∧ ClsV c' u' ∧ TyX K H x' t' ∧ PySem.W.kitOne K t' u' = some b' ∧ Q (.bl b') H := ⟨x, c, t, u, b, rfl, hc, hx, hk, q⟩
theorem kt {K : PySem.W.Frag} {a b : String} {r : Bool} (h : kitB a b = some r) : PySem.W.kitOne K (.type a) (.type b) = some r := kit_ty h
theorem kq_int_int : kitB "int" "int" = some true := by decide +kernel
theorem kq_int_bool : kitB "int" "bool" = some false := by decide +kernel
theorem kq_bool_bool : kitB "bool" "bool" = some true := by decide +kernel
theorem kq_bool_int : kitB "bool" "int" = some true := by decide +kernel
theorem kq_str_str : kitB "str" "str" = some true := by decide +kernel
theorem kq_tuple_tuple : kitB "tuple" "tuple" = some true := by decide +kernel
theorem kq_list_list : kitB "list" "list" = some true := by decide +kernel
theorem kq_list_tuple : kitB "list" "tuple" = some false := by decide +kernel
theorem kq_tuple_list : kitB "tuple" "list" = some false := by decide +kernel
theorem kq_list_int : kitB "list" "int" = some false := by decide +kernel
theorem kq_tuple_int : kitB "tuple" "int" = some false := by decide +kernel
theorem kq_list_bool : kitB "list" "bool" = some false := by decide +kernel
theorem kq_tuple_bool : kitB "tuple" "bool" = some false := by decide +kernel
theorem kq_str_int : kitB "str" "int" = some false := by decide +kernel
theorem kq_int_str : kitB "int" "str" = some false := by decide +kernel
theorem kq_int_list : kitB "int" "list" = some false := by decide +kernel
theorem kq_int_tuple : kitB "int" "tuple" = some false := by decide +kernel
theorem kq_bool_list : kitB "bool" "list" = some false := by decide +kernel
theorem kq_bool_tuple : kitB "bool" "tuple" = some false := by decide +kernel
end OT

set_option Elab.async false
set_option linter.all false
set_option maxRecDepth 100000
set_option maxHeartbeats 4000000
namespace OT
open PySem PySem.Spec PyProof.Rows L2
local macro_rules | `(tactic| walk_at "sm") => `(tactic| first | assumption | ((with_reducible show Same _ (upd _ _ _)); (refine' AU.mutS ?s ?h; (case h => assumption); (case s => walk_at "sm"))) | fail)
local macro_rules | `(tactic| walk_at "le") => `(tactic| first | (refine Nat.le_of_lt (AU.line ?_); (try simp only [List.length_append, List.length_map, List.length_cons, List.length_nil, List.length_take, List.length_replicate]); omega) | fail)
local macro_rules | `(tactic| walk_at "ll") => `(tactic| first | (show 0 < sizeLine; decide) | (show 1 < sizeLine; decide) | (show 2 < sizeLine; decide) | (show 3 < sizeLine; decide) | (refine AU.line ?_; (try simp only [List.length_append, List.length_map, List.length_cons, List.length_nil, List.length_take, List.length_replicate]); omega) | fail)
local macro_rules | `(tactic| walk_at "hl") => `(tactic| first | assumption | exact upd_same | (refine' AU.climb ?s ?h; (case s => walk_at "sm"); (case h => walk_at "hl")) | fail)
local macro_rules | `(tactic| walk_at "sl") => `(tactic| first | assumption | (refine' AU.sqL ?h; (case h => walk_at "hl")) | (refine' AU.sqLS ?s ?h; (case s => walk_at "sm"); (case h => walk_at "sl")) | fail)
local macro_rules | `(tactic| walk_at "tl") => `(tactic| first | assumption | (refine' AU.sqT ?h; (case h => walk_at "hl")) | (refine' AU.sqTS ?s ?h; (case s => walk_at "sm"); (case h => walk_at "tl")) | fail)
local macro_rules | `(tactic| walk_at "sz") => `(tactic| first | (show 0 ≤ sizeLine; decide) | (show 1 ≤ sizeLine; decide) | (show 2 ≤ sizeLine; decide) | (show 3 ≤ sizeLine; decide) | (show 4 ≤ sizeLine; decide) | (show 5 ≤ sizeLine; decide) | (show 6 ≤ sizeLine; decide) | (show 7 ≤ sizeLine; decide) | (show 8 ≤ sizeLine; decide) | (show 9 ≤ sizeLine; decide) | (show 10 ≤ sizeLine; decide) | fail)
local macro_rules | `(tactic| walk_at "ci") => `(tactic| first | exact trivial | omega | (show (0 : Int) < _; omega) | (show CMul _ _; exact .inl ⟨by omega, by omega⟩) | (show CMul _ _; exact .inr ⟨by omega, by omega⟩) | (show CMul _ _; exact .inr (AU.b01 _)) | (show CMul _ _; exact .inl (AU.b01 _)) | (show CDiv _ _; exact ⟨by omega, by omega⟩) | (show _ ≠ (0 : Int); omega) | (show CDiv _ _; exact ⟨by decide, by decide⟩) | fail)
local macro_rules | `(tactic| walk_at "hh") => `(tactic| first | assumption | (refine' OT.HeldF.mono ?s ?h; (case s => walk_at "sm"); (case h => walk_at "hh")) | fail)
local macro_rules | `(tactic| walk_at "tyx") => `(tactic| first | exact .base (.int _) | exact .base (.bl _) | exact .base (.str _) | exact .base (.lst (by walk_at "hl")) | exact .base (.tup (by walk_at "hl")) | fail)
local macro_rules | `(tactic| walk_at "st1") => `(tactic| first | ((with_reducible show tSeq _ _ _ _ _); (try simp only [List.set_cons_zero, List.set_cons_succ]); refine AU.seq_ ?_) | ((with_reducible show tAsg _ _ _ _ _); refine AU.asg_ ?_) | ((with_reducible show gName _ _ _ _ _); refine AU.name_ ?_) | ((with_reducible show tDrop _ _ _ _); refine AU.drop_ ?_) | ((with_reducible show tRet _ _ _ _); refine AU.ret_ ?_) | ((with_reducible show tRetN _ _ _); refine AU.retN_ ?_) | ((with_reducible show tNext _ _ _); refine AU.next_ ?_) | ((with_reducible show tBreak _ _ _); refine AU.brk_ ?_) | ((with_reducible show tCont _ _ _); refine AU.cont_ ?_) | ((with_reducible show tIfS _ _ _ _ _ _); refine AU.ifs_ ?_) | ((with_reducible show tAug _ _ _ _ _ _); refine AU.aug_ rfl ?_) | ((with_reducible show Ends.nx (Ends.mk _ _ _ _) _ _); refine AU.nxm ?_) | ((with_reducible show Ends.rt (Ends.mk _ _ _ _) _ _); refine AU.rtm ?_) | ((with_reducible show Ends.bk (Ends.mk _ _ _ _) _ _); refine AU.bkm ?_) | ((with_reducible show Ends.ct (Ends.mk _ _ _ _) _ _); refine AU.ctm ?_) | ((with_reducible show tVar _ _ _ _); refine AU.var_ rfl ?_) | ((with_reducible show tC _ _ _ _); refine AU.c_ ?_) | ((with_reducible show tOp _ _ _ _ _ _); refine AU.op_ ?_) | ((with_reducible show tUn _ _ _ _ _); refine AU.un_ ?_) | ((with_reducible show rU _ _ _ _); refine AU.u_ ?_) | ((with_reducible show rI0 _ _ _ _ _); refine AU.i0_ ?_) | ((with_reducible show rI _ _ _ _ _ _); refine AU.i_ (by walk_at "ci") ?_) | ((with_reducible show rEq (V.int _) (V.int _) _ _); first | (with_reducible refine AU.eqr_ ?_) | refine AU.eqi_ ?_) | ((with_reducible show rEq (V.str _) (V.str _) _ _); (with_reducible refine AU.eqs_ ?_)) | ((with_reducible show rNe (V.int _) (V.int _) _ _); refine AU.nei_ ?_) | ((with_reducible show rEq _ _ _ _); refine AU.eq_ rfl ?_) | ((with_reducible show rNe _ _ _ _); refine AU.ne_ rfl ?_) | ((with_reducible show tTest _ _ _ _); refine AU.test_ ?_) | ((with_reducible show tB _ _ _ _); refine AU.b_ ?_) | ((with_reducible show tAnd _ _ _ _ _); refine AU.and_ ?_) | ((with_reducible show tOr _ _ _ _ _); refine AU.or_ ?_) | ((with_reducible show tNot _ _ _ _); refine AU.not_ ?_) | ((with_reducible show tAndV _ _ _ _ _); refine AU.andV_ ?_) | ((with_reducible show tOrV _ _ _ _ _); refine AU.orV_ ?_) | ((with_reducible show tNotV _ _ _ _); refine AU.notV_ ?_) | ((with_reducible show tIf _ _ _ _ _ _); refine AU.if_ ?_) | ((with_reducible show tNil _ _ _); refine AU.nil_ ?_) | ((with_reducible show tCons _ _ _ _ _); refine AU.cons_ ?_) | ((with_reducible show tLst _ _ _ _); refine AU.lst_ ?_) | ((with_reducible show tTup _ _ _ _); refine AU.tup_ ?_) | ((with_reducible show tCall _ _ _ _ _ _ _); refine AU.call_ ?_) | ((with_reducible show tCallS _ _ _ _ _ _); refine AU.callS_ ?_) | ((with_reducible show tCB _ _ _ _ _); refine AU.cb_ ?_) | ((with_reducible show tBM _ _ _ _ _ _ _ _); refine AU.bm_ ?_) | ((with_reducible show rIxL _ _ _ _ _); refine AU.ixL_ (by walk_at "sl") (by first | assumption | rfl) ?_) | ((with_reducible show rIxT _ _ _ _ _); refine AU.ixT_ (by walk_at "tl") (by first | assumption | rfl) ?_) | ((with_reducible show Evl.rLenS _ _ _ _); first | refine AU.lenL_ (by walk_at "sl") ?_ | refine AU.lenT_ (by walk_at "tl") ?_) | ((with_reducible show rAppend (V.ref _) [_] _ _); refine AU.app_ (by walk_at "hl") (by walk_at "ll") ?_) | ((with_reducible show tyV _ _ (V.ref _) _ ∧ _); refine AU.tyl_ (by walk_at "sl") ?_) | ((with_reducible show rCat (V.ref _) (V.ref _) _ _); refine AU.cat_ (by walk_at "hl") (by walk_at "hl") (by walk_at "le") ?_) | ((with_reducible show tFor _ _ _ _ _ _); refine AU.for_ ?_) | ((with_reducible show tLc _ _ _ _ _ _ _ _); refine AU.lc_ ?_) | ((with_reducible show iRng1 _ _ _ _); refine AU.rng1_ ?_) | ((with_reducible show iList _ _ _ _ _); refine AU.list_ ?_) | ((with_reducible show iTup _ _ _ _ _); refine AU.itup_ ?_) | ((with_reducible show (∃ i, [V.bl _] = [V.int i] ∧ _) ∨ _); refine AU.intb_ ?_) | ((with_reducible show (∃ i, [V.int _] = [V.int i] ∧ _) ∨ _); refine AU.inti_ ?_) | ((with_reducible show tYes _ _ _); refine AU.yes_ ?_) | ((with_reducible show ∃ p ys, [V.ref _] = [V.ref p] ∧ (SqL _ _ p ys ∨ SqT _ _ p ys) ∧ _); first | refine AU.listof_ (by walk_at "sl") ?_ | refine AU.listofT_ (by walk_at "tl") ?_) | ((with_reducible show ∃ p ys, [V.ref _] = [V.ref p] ∧ ((SqL _ _ p ys ∧ _) ∨ (SqT _ _ p ys ∧ _))); first | refine AU.tupleof_ (by walk_at "sl") ?_ | refine AU.tupleofT_ (by walk_at "tl") ?_) | ((with_reducible show V.non = V.non ∧ _); refine ⟨rfl, ?_⟩) | ((with_reducible show OT.rIsX _ _ _ _ [V.ref _, _] _ _); refine OT.isX_ (by walk_at "hh") (by first | exact .own _ | exact .ty _) (by assumption) ?_) | ((with_reducible show OT.tFA _ _ _ _ _ _ _ _ _); refine OT.fA_ ?_) | ((with_reducible show OT.tCallE _ _ _ _ _ _ _ _); refine OT.callE_ ?_) | ((with_reducible show rIsi _ [_, _] _ _); refine OT.isi_ (by first | exact .own _ | exact .ty _) (by walk_at "tyx") (by first | assumption | exact kit_ty OT.kq_int_int | exact kit_ty OT.kq_int_bool | exact kit_ty OT.kq_bool_bool | exact kit_ty OT.kq_bool_int | exact kit_ty OT.kq_str_str | exact kit_ty OT.kq_tuple_tuple | exact kit_ty OT.kq_list_list | exact kit_ty OT.kq_list_tuple | exact kit_ty OT.kq_tuple_list | exact kit_ty OT.kq_list_int | exact kit_ty OT.kq_tuple_int | exact kit_ty OT.kq_list_bool | exact kit_ty OT.kq_tuple_bool | exact kit_ty OT.kq_str_int | exact kit_ty OT.kq_int_str | exact kit_ty OT.kq_int_list | exact kit_ty OT.kq_int_tuple | exact kit_ty OT.kq_bool_list | exact kit_ty OT.kq_bool_tuple) ?_) | ((with_reducible show ∃ k, V.bl _ = V.bl k ∧ _); refine AU.bool_ ?_) | ((with_reducible show tSl _ _ _ _ _ _ _); refine AU.sl_ ?_) | ((with_reducible show tNoPart _ _ _); refine AU.npart_ ?_) | ((with_reducible show tPart _ _ _ _); refine AU.part_ ?_) | ((with_reducible show ∃ k, V.int _ = V.int k ∧ rSlL _ _ _ (some k) _ _); refine AU.int1_ ?_) | ((with_reducible show rSlL _ (V.ref _) _ _ _ _); refine AU.slL_ (by walk_at "sl") ?_) | ((with_reducible refine AU.trueT ?_)) | ((with_reducible refine AU.refNon ?_)) | ((with_reducible refine AU.nonNon ?_)) | ((with_reducible refine AU.trueN ?_)) | ((with_reducible refine AU.falseN ?_)) | ((with_reducible refine AU.falseF ?_)) | fail)
local macro_rules | `(tactic| walk_at "st") => `(tactic| repeat walk_at "st1")
theorem mirP_dim {n : Nat} {es : List Ent} (h : DimN n es) : DimN n (mirP es) := fun e he => by
  obtain ⟨y, hy, rfl⟩ := List.mem_map.mp he
  show (negP y.1).length = n
  rw [negP_len, h y (List.mem_reverse.mp hy)]
theorem mirP_len (es : List Ent) : (mirP es).length = es.length := by
  unfold mirP
  rw [List.length_map, List.length_reverse]
theorem mirP_c {C : Nat} {es : List Ent} (h : ∀ e ∈ es, ∀ x ∈ e.1, x.natAbs ≤ C) : ∀ e ∈ mirP es, ∀ x ∈ e.1, x.natAbs ≤ C := fun e he x hx => by
  obtain ⟨y, hy, rfl⟩ := List.mem_map.mp he
  obtain ⟨z, hz, rfl⟩ := List.mem_map.mp hx
  have := h y (List.mem_reverse.mp hy) z hz
  omega
theorem mirP_u {P : Int → Prop} {es : List Ent} (h : ∀ e ∈ es, P e.2) : ∀ e ∈ mirP es, P e.2 := fun e he => by
  obtain ⟨y, hy, rfl⟩ := List.mem_map.mp he
  exact h y (List.mem_reverse.mp hy)
theorem mirP_nil {es : List Ent} : mirP es = [] ↔ es = [] := by
  unfold mirP
  rw [List.map_eq_nil_iff, List.reverse_eq_nil_iff]
section
variable {P : Program} {w : World} {K : PySem.W.Frag} {mg : Str → Option Value} {base : Heap}
end
end OT

set_option Elab.async false
set_option linter.all false
set_option maxRecDepth 100000
set_option maxHeartbeats 4000000
namespace OT
open PySem PySem.Spec PyProof.Rows L2
local macro_rules | `(tactic| walk_at "sm") => `(tactic| first | assumption | ((with_reducible show Same _ (upd _ _ _)); (refine' AU.mutS ?s ?h; (case h => assumption); (case s => walk_at "sm"))) | fail)
local macro_rules | `(tactic| walk_at "le") => `(tactic| first | (refine Nat.le_of_lt (AU.line ?_); (try simp only [List.length_append, List.length_map, List.length_cons, List.length_nil, List.length_take, List.length_replicate]); omega) | fail)
local macro_rules | `(tactic| walk_at "ll") => `(tactic| first | (show 0 < sizeLine; decide) | (show 1 < sizeLine; decide) | (show 2 < sizeLine; decide) | (show 3 < sizeLine; decide) | (refine AU.line ?_; (try simp only [List.length_append, List.length_map, List.length_cons, List.length_nil, List.length_take, List.length_replicate]); omega) | fail)
local macro_rules | `(tactic| walk_at "hl") => `(tactic| first | assumption | exact upd_same | (refine' AU.climb ?s ?h; (case s => walk_at "sm"); (case h => walk_at "hl")) | fail)
local macro_rules | `(tactic| walk_at "sl") => `(tactic| first | assumption | (refine' AU.sqL ?h; (case h => walk_at "hl")) | (refine' AU.sqLS ?s ?h; (case s => walk_at "sm"); (case h => walk_at "sl")) | fail)
local macro_rules | `(tactic| walk_at "tl") => `(tactic| first | assumption | (refine' AU.sqT ?h; (case h => walk_at "hl")) | (refine' AU.sqTS ?s ?h; (case s => walk_at "sm"); (case h => walk_at "tl")) | fail)
local macro_rules | `(tactic| walk_at "sz") => `(tactic| first | (show 0 ≤ sizeLine; decide) | (show 1 ≤ sizeLine; decide) | (show 2 ≤ sizeLine; decide) | (show 3 ≤ sizeLine; decide) | (show 4 ≤ sizeLine; decide) | (show 5 ≤ sizeLine; decide) | (show 6 ≤ sizeLine; decide) | (show 7 ≤ sizeLine; decide) | (show 8 ≤ sizeLine; decide) | (show 9 ≤ sizeLine; decide) | (show 10 ≤ sizeLine; decide) | fail)
local macro_rules | `(tactic| walk_at "ci") => `(tactic| first | exact trivial | omega | (show (0 : Int) < _; omega) | (show CMul _ _; exact .inl ⟨by omega, by omega⟩) | (show CMul _ _; exact .inr ⟨by omega, by omega⟩) | (show CMul _ _; exact .inr (AU.b01 _)) | (show CMul _ _; exact .inl (AU.b01 _)) | (show CDiv _ _; exact ⟨by omega, by omega⟩) | (show _ ≠ (0 : Int); omega) | (show CDiv _ _; exact ⟨by decide, by decide⟩) | fail)
local macro_rules | `(tactic| walk_at "hh") => `(tactic| first | assumption | (refine' OT.HeldF.mono ?s ?h; (case s => walk_at "sm"); (case h => walk_at "hh")) | fail)
local macro_rules | `(tactic| walk_at "tyx") => `(tactic| first | exact .base (.int _) | exact .base (.bl _) | exact .base (.str _) | exact .base (.lst (by walk_at "hl")) | exact .base (.tup (by walk_at "hl")) | fail)
local macro_rules | `(tactic| walk_at "st1") => `(tactic| first | ((with_reducible show tSeq _ _ _ _ _); (try simp only [List.set_cons_zero, List.set_cons_succ]); refine AU.seq_ ?_) | ((with_reducible show tAsg _ _ _ _ _); refine AU.asg_ ?_) | ((with_reducible show gName _ _ _ _ _); refine AU.name_ ?_) | ((with_reducible show tDrop _ _ _ _); refine AU.drop_ ?_) | ((with_reducible show tRet _ _ _ _); refine AU.ret_ ?_) | ((with_reducible show tRetN _ _ _); refine AU.retN_ ?_) | ((with_reducible show tNext _ _ _); refine AU.next_ ?_) | ((with_reducible show tBreak _ _ _); refine AU.brk_ ?_) | ((with_reducible show tCont _ _ _); refine AU.cont_ ?_) | ((with_reducible show tIfS _ _ _ _ _ _); refine AU.ifs_ ?_) | ((with_reducible show tAug _ _ _ _ _ _); refine AU.aug_ rfl ?_) | ((with_reducible show Ends.nx (Ends.mk _ _ _ _) _ _); refine AU.nxm ?_) | ((with_reducible show Ends.rt (Ends.mk _ _ _ _) _ _); refine AU.rtm ?_) | ((with_reducible show Ends.bk (Ends.mk _ _ _ _) _ _); refine AU.bkm ?_) | ((with_reducible show Ends.ct (Ends.mk _ _ _ _) _ _); refine AU.ctm ?_) | ((with_reducible show tVar _ _ _ _); refine AU.var_ rfl ?_) | ((with_reducible show tC _ _ _ _); refine AU.c_ ?_) | ((with_reducible show tOp _ _ _ _ _ _); refine AU.op_ ?_) | ((with_reducible show tUn _ _ _ _ _); refine AU.un_ ?_) | ((with_reducible show rU _ _ _ _); refine AU.u_ ?_) | ((with_reducible show rI0 _ _ _ _ _); refine AU.i0_ ?_) | ((with_reducible show rI _ _ _ _ _ _); refine AU.i_ (by walk_at "ci") ?_) | ((with_reducible show rEq (V.int _) (V.int _) _ _); first | (with_reducible refine AU.eqr_ ?_) | refine AU.eqi_ ?_) | ((with_reducible show rEq (V.str _) (V.str _) _ _); (with_reducible refine AU.eqs_ ?_)) | ((with_reducible show rNe (V.int _) (V.int _) _ _); refine AU.nei_ ?_) | ((with_reducible show rEq _ _ _ _); refine AU.eq_ rfl ?_) | ((with_reducible show rNe _ _ _ _); refine AU.ne_ rfl ?_) | ((with_reducible show tTest _ _ _ _); refine AU.test_ ?_) | ((with_reducible show tB _ _ _ _); refine AU.b_ ?_) | ((with_reducible show tAnd _ _ _ _ _); refine AU.and_ ?_) | ((with_reducible show tOr _ _ _ _ _); refine AU.or_ ?_) | ((with_reducible show tNot _ _ _ _); refine AU.not_ ?_) | ((with_reducible show tAndV _ _ _ _ _); refine AU.andV_ ?_) | ((with_reducible show tOrV _ _ _ _ _); refine AU.orV_ ?_) | ((with_reducible show tNotV _ _ _ _); refine AU.notV_ ?_) | ((with_reducible show tIf _ _ _ _ _ _); refine AU.if_ ?_) | ((with_reducible show tNil _ _ _); refine AU.nil_ ?_) | ((with_reducible show tCons _ _ _ _ _); refine AU.cons_ ?_) | ((with_reducible show tLst _ _ _ _); refine AU.lst_ ?_) | ((with_reducible show tTup _ _ _ _); refine AU.tup_ ?_) | ((with_reducible show tCall _ _ _ _ _ _ _); refine AU.call_ ?_) | ((with_reducible show tCallS _ _ _ _ _ _); refine AU.callS_ ?_) | ((with_reducible show tCB _ _ _ _ _); refine AU.cb_ ?_) | ((with_reducible show tBM _ _ _ _ _ _ _ _); refine AU.bm_ ?_) | ((with_reducible show rIxL _ _ _ _ _); refine AU.ixL_ (by walk_at "sl") (by first | assumption | rfl) ?_) | ((with_reducible show rIxT _ _ _ _ _); refine AU.ixT_ (by walk_at "tl") (by first | assumption | rfl) ?_) | ((with_reducible show Evl.rLenS _ _ _ _); first | refine AU.lenL_ (by walk_at "sl") ?_ | refine AU.lenT_ (by walk_at "tl") ?_) | ((with_reducible show rAppend (V.ref _) [_] _ _); refine AU.app_ (by walk_at "hl") (by walk_at "ll") ?_) | ((with_reducible show tyV _ _ (V.ref _) _ ∧ _); refine AU.tyl_ (by walk_at "sl") ?_) | ((with_reducible show rCat (V.ref _) (V.ref _) _ _); refine AU.cat_ (by walk_at "hl") (by walk_at "hl") (by walk_at "le") ?_) | ((with_reducible show tFor _ _ _ _ _ _); refine AU.for_ ?_) | ((with_reducible show tLc _ _ _ _ _ _ _ _); refine AU.lc_ ?_) | ((with_reducible show iRng1 _ _ _ _); refine AU.rng1_ ?_) | ((with_reducible show iList _ _ _ _ _); refine AU.list_ ?_) | ((with_reducible show iTup _ _ _ _ _); refine AU.itup_ ?_) | ((with_reducible show (∃ i, [V.bl _] = [V.int i] ∧ _) ∨ _); refine AU.intb_ ?_) | ((with_reducible show (∃ i, [V.int _] = [V.int i] ∧ _) ∨ _); refine AU.inti_ ?_) | ((with_reducible show tYes _ _ _); refine AU.yes_ ?_) | ((with_reducible show ∃ p ys, [V.ref _] = [V.ref p] ∧ (SqL _ _ p ys ∨ SqT _ _ p ys) ∧ _); first | refine AU.listof_ (by walk_at "sl") ?_ | refine AU.listofT_ (by walk_at "tl") ?_) | ((with_reducible show ∃ p ys, [V.ref _] = [V.ref p] ∧ ((SqL _ _ p ys ∧ _) ∨ (SqT _ _ p ys ∧ _))); first | refine AU.tupleof_ (by walk_at "sl") ?_ | refine AU.tupleofT_ (by walk_at "tl") ?_) | ((with_reducible show V.non = V.non ∧ _); refine ⟨rfl, ?_⟩) | ((with_reducible show OT.rIsX _ _ _ _ [V.ref _, _] _ _); refine OT.isX_ (by walk_at "hh") (by first | exact .own _ | exact .ty _) (by assumption) ?_) | ((with_reducible show OT.tFA _ _ _ _ _ _ _ _ _); refine OT.fA_ ?_) | ((with_reducible show OT.tCallE _ _ _ _ _ _ _ _); refine OT.callE_ ?_) | ((with_reducible show rIsi _ [_, _] _ _); refine OT.isi_ (by first | exact .own _ | exact .ty _) (by walk_at "tyx") (by first | assumption | exact kit_ty OT.kq_int_int | exact kit_ty OT.kq_int_bool | exact kit_ty OT.kq_bool_bool | exact kit_ty OT.kq_bool_int | exact kit_ty OT.kq_str_str | exact kit_ty OT.kq_tuple_tuple | exact kit_ty OT.kq_list_list | exact kit_ty OT.kq_list_tuple | exact kit_ty OT.kq_tuple_list | exact kit_ty OT.kq_list_int | exact kit_ty OT.kq_tuple_int | exact kit_ty OT.kq_list_bool | exact kit_ty OT.kq_tuple_bool | exact kit_ty OT.kq_str_int | exact kit_ty OT.kq_int_str | exact kit_ty OT.kq_int_list | exact kit_ty OT.kq_int_tuple | exact kit_ty OT.kq_bool_list | exact kit_ty OT.kq_bool_tuple) ?_) | ((with_reducible show ∃ k, V.bl _ = V.bl k ∧ _); refine AU.bool_ ?_) | ((with_reducible show tSl _ _ _ _ _ _ _); refine AU.sl_ ?_) | ((with_reducible show tNoPart _ _ _); refine AU.npart_ ?_) | ((with_reducible show tPart _ _ _ _); refine AU.part_ ?_) | ((with_reducible show ∃ k, V.int _ = V.int k ∧ rSlL _ _ _ (some k) _ _); refine AU.int1_ ?_) | ((with_reducible show rSlL _ (V.ref _) _ _ _ _); refine AU.slL_ (by walk_at "sl") ?_) | ((with_reducible refine AU.trueT ?_)) | ((with_reducible refine AU.refNon ?_)) | ((with_reducible refine AU.nonNon ?_)) | ((with_reducible refine AU.trueN ?_)) | ((with_reducible refine AU.falseN ?_)) | ((with_reducible refine AU.falseF ?_)) | fail)
local macro_rules | `(tactic| walk_at "st") => `(tactic| repeat walk_at "st1")
section
variable {P : Program} {w : World} {K : PySem.W.Frag} {mg : Str → Option Value} {base : Heap}
def spMir : Sp := fun vs H Q _ => ∃ (a : Addr) (xs : List V) (es : List Ent), vs = [.ref a] ∧ Lst H a xs es ∧ (∀ e ∈ es, e.1.length ≤ 1000) ∧ wantRow H (mirL es) Q
theorem c__law_mirror {f : Addr} {fd : FuncData} (D : C8.Def K mg "_law_mirror" s__law_mirror f fd) (b : Binds K fd ["_law_row_here"] []) (T : Bi mg) (c__law_row : C8.Cal P w K mg base 1 "_law_row" (spGather K) []) (c__law_back : C8.Cal P w K mg base 1 "_law_back" (spBack K) []) : C8.Cal P w K mg base 2 "_law_mirror" spMir [] := by
  refine C8.cal0 D b .nil sc__law_mirror (fun vs H Q E h => ?_) (fun cdv A outer s H vs Q E hr h => ?_)
  · obtain ⟨a, xs, es, rfl, _⟩ := h
    rfl
  · obtain ⟨a, xs, es, rfl, hA, hle, q⟩ := h
    refine ⟨_, (pss_one (ps_ret (C8.pe_c c__law_row hr (by decide) (by rfl) (pa_cons (pe_lc (own := [("_law_entry", 1)]) (g := (gName 1)) (tt := tYes) rfl sc__law_mirror.nd (pi_list (pv 0)) (blkOk_by (N := ["_law_row_here", "_law_entry"]) (sc := C8.fnScope s__law_mirror) (by decide +kernel)) (fun _ _ _ _ _ => (pg_name (i := 1) sc__law_mirror.nd rfl (Or.inl rfl))) (fun _ _ _ _ _ => pts_nil) (fun _ _ _ _ _ => (pe_tup (pa_cons (C8.pe_c c__law_back hr (by decide) (by rfl) (pa_cons (pe_ix (show IxR _ (rIxT K) from ix_tup) (pv 1) pe_int (fun _ _ => rfl)) pa_nil)) (pa_cons (pe_ix (show IxR _ (rIxT K) from ix_tup) (pv 1) pe_int (fun _ _ => rfl)) pa_nil))))) pa_nil)))), ?_⟩
    have hS : SqL K H a xs := .inl (.inl hA.l)
    have hx := hA.e.len
    have hz := hA.z
    refine ⟨_, rfl, a, rfl, ⟨_, hS⟩, fun p np => ?_⟩
    refine lc_list (K := K) (xs := xs) (fun i H2 => Same H H2 ∧ ∃ ws, H2 p = some (.lst ws) ∧ Ents H2 ws (mirL (es.take i))) ?_ ?_ ?_ ?_
    · exact ⟨same_upd np, [], upd_same, .nil⟩
    · rintro i H2 _ ⟨sm, _⟩
      exact sm.seq hS
    · rintro i x H2 hxi ⟨sm, ws, hp, hW⟩
      obtain ⟨e, he, t, pe, rfl, ht, hpe⟩ := (hA.e.mono sm).get hxi
      obtain ⟨hi, hee⟩ := List.getElem?_eq_some_iff.mp he
      have hm := List.mem_of_getElem? he
      have hT : SqT K H2 t [.ref pe, .int e.2] := .inl (.inl ht)
      refine ⟨rfl, tYes_of ?_⟩
      refine ⟨_, rfl, t, _, 0, _, rfl, rfl, hT, atI_nat (j := 0) rfl, pe, e.1, rfl, .inl (.inl hpe), hle e hm, fun p3 H3 sm3 hp3 => ?_⟩
      refine ⟨_, rfl, t, _, 1, _, rfl, rfl, same_t sm3 hT, atI_nat (j := 1) rfl, (by show 2 ≤ sizeLine; decide), fun t4 nt4 => ?_⟩
      have sm4 : Same H3 (upd H3 t4 (.tup [.ref p3, .int e.2])) := same_upd nt4
      have smA := sm3.trans sm4
      have hv : EntAt (upd H3 t4 (.tup [.ref p3, .int e.2])) (.ref t4) (negP e.1, e.2) := ⟨t4, p3, rfl, upd_same, sm4 _ _ hp3⟩
      have hD := smA _ _ hp
      have hwl := hW.len
      refine ⟨ws, hD, ?_, same_mut (sm.trans smA) np, ws ++ [.ref t4], upd_same, ?_⟩
      · unfold mirL at hwl
        rw [List.length_map, List.length_take] at hwl
        exact small100k (by omega)
      · unfold mirL
        rw [take_snoc he, List.map_append]
        exact ((hW.mono smA).app (.cons hv .nil)).updL hD
    · rintro H2 ⟨sm, ws, hp, hW⟩
      rw [hx, List.take_length] at hW
      refine ⟨p, ws, mirL es, rfl, ⟨.inl (.inl hp), hW, by unfold mirL; rw [List.length_map]; exact small100k (by omega)⟩, fun e he z => ?_, q.mono sm⟩
      obtain ⟨y, hy, rfl⟩ := List.mem_map.mp he
      have z2 : (negP y.1).length = 0 := by
        have z3 : negP y.1 = [] := z
        rw [z3]
        rfl
      rw [negP_len] at z2
      exact hA.p y hy (List.length_eq_zero_iff.mp z2)
def spCross (K : PySem.W.Frag) : Sp := fun vs H Q _ => ∃ (a b : Addr) (xs ys : List V) (es fs : List Ent) (n : Nat), vs = [.ref a, .ref b] ∧ Lst H a xs es ∧ Lst H b ys fs ∧ Valid fs ∧ DimN n es ∧ DimN n fs ∧ n ≤ 1000 ∧ es.length * fs.length ≤ 10000 ∧ (∀ g ∈ fs, -(2 ^ 64) < g.2 ∧ g.2 < 2 ^ 64) ∧ wantRow H (timesL es (mirL fs)) Q
theorem c__law_cross {f : Addr} {fd : FuncData} (D : C8.Def K mg "_law_cross" s__law_cross f fd) (b : Binds K fd ["_law_first", "_law_second"] []) (T : Bi mg) (c__law_times : C8.Cal P w K mg base 2 "_law_times" (spTimes K) []) (c__law_mirror : C8.Cal P w K mg base 2 "_law_mirror" spMir []) : C8.Cal P w K mg base 3 "_law_cross" (spCross K) [] := by
  refine C8.cal0 D b .nil sc__law_cross (fun vs H Q E h => ?_) (fun cdv A outer s H vs Q E hr h => ?_)
  · obtain ⟨a, b, xs, ys, es, fs, n, rfl, _⟩ := h
    rfl
  · obtain ⟨a, b, xs, ys, es, fs, n, rfl, R, S, vS, dR, dS, hn, hl, hb, q⟩ := h
    refine ⟨_, (pss_one (ps_ret (C8.pe_c c__law_times hr (by decide) (by rfl) (pa_cons (pv 0) (pa_cons (C8.pe_c c__law_mirror hr (by decide) (by rfl) (pa_cons (pv 1) pa_nil)) pa_nil))))), ?_⟩
    walk_at "st"
    refine ⟨b, ys, fs, rfl, S, fun e he => by rw [dS e he]; exact hn, fun m p ws H2 hm s2 np hp hE => ?_⟩
    have hmm : m = mirP fs := hm.one (mirP_is vS dS)
    walk_at "st"
    refine ⟨a, p, xs, ws, es, m, rfl, .inl (.inl (s2 _ _ R.l)), .inl (.inl hp), R.e.mono s2, hE, by rw [hmm, mirP_len]; exact hl, fun e he g hg => ?_, fun e he => ⟨R.p e he, by rw [dR e he]; exact hn⟩, by rw [hmm]; exact mirP_u (P := fun z => -(2 ^ 64) < z ∧ z < 2 ^ 64) hb, ?_⟩
    · rw [hmm] at hg
      rw [dR e he, mirP_dim dS g hg]
    · intro r p3 ws3 H3 hr s3 np3 hp3 hE3
      exact q r p3 ws3 H3 ⟨hr.v, fun k => by rw [hr.s, timesL_eq2 es hm.s]⟩ (s2.trans s3) (AU.back s2 np3) hp3 hE3
end
end OT

set_option Elab.async false
set_option linter.all false
set_option maxRecDepth 100000
set_option maxHeartbeats 4000000
namespace OT
open PySem PySem.Spec PyProof.Rows L2
local macro_rules | `(tactic| walk_at "sm") => `(tactic| first | assumption | ((with_reducible show Same _ (upd _ _ _)); (refine' AU.mutS ?s ?h; (case h => assumption); (case s => walk_at "sm"))) | fail)
local macro_rules | `(tactic| walk_at "le") => `(tactic| first | (refine Nat.le_of_lt (AU.line ?_); (try simp only [List.length_append, List.length_map, List.length_cons, List.length_nil, List.length_take, List.length_replicate]); omega) | fail)
local macro_rules | `(tactic| walk_at "ll") => `(tactic| first | (show 0 < sizeLine; decide) | (show 1 < sizeLine; decide) | (show 2 < sizeLine; decide) | (show 3 < sizeLine; decide) | (refine AU.line ?_; (try simp only [List.length_append, List.length_map, List.length_cons, List.length_nil, List.length_take, List.length_replicate]); omega) | fail)
local macro_rules | `(tactic| walk_at "hl") => `(tactic| first | assumption | exact upd_same | (refine' AU.climb ?s ?h; (case s => walk_at "sm"); (case h => walk_at "hl")) | fail)
local macro_rules | `(tactic| walk_at "sl") => `(tactic| first | assumption | (refine' AU.sqL ?h; (case h => walk_at "hl")) | (refine' AU.sqLS ?s ?h; (case s => walk_at "sm"); (case h => walk_at "sl")) | fail)
local macro_rules | `(tactic| walk_at "tl") => `(tactic| first | assumption | (refine' AU.sqT ?h; (case h => walk_at "hl")) | (refine' AU.sqTS ?s ?h; (case s => walk_at "sm"); (case h => walk_at "tl")) | fail)
local macro_rules | `(tactic| walk_at "sz") => `(tactic| first | (show 0 ≤ sizeLine; decide) | (show 1 ≤ sizeLine; decide) | (show 2 ≤ sizeLine; decide) | (show 3 ≤ sizeLine; decide) | (show 4 ≤ sizeLine; decide) | (show 5 ≤ sizeLine; decide) | (show 6 ≤ sizeLine; decide) | (show 7 ≤ sizeLine; decide) | (show 8 ≤ sizeLine; decide) | (show 9 ≤ sizeLine; decide) | (show 10 ≤ sizeLine; decide) | fail)
local macro_rules | `(tactic| walk_at "ci") => `(tactic| first | exact trivial | omega | (show (0 : Int) < _; omega) | (show CMul _ _; exact .inl ⟨by omega, by omega⟩) | (show CMul _ _; exact .inr ⟨by omega, by omega⟩) | (show CMul _ _; exact .inr (AU.b01 _)) | (show CMul _ _; exact .inl (AU.b01 _)) | (show CDiv _ _; exact ⟨by omega, by omega⟩) | (show _ ≠ (0 : Int); omega) | (show CDiv _ _; exact ⟨by decide, by decide⟩) | fail)
local macro_rules | `(tactic| walk_at "hh") => `(tactic| first | assumption | (refine' OT.HeldF.mono ?s ?h; (case s => walk_at "sm"); (case h => walk_at "hh")) | fail)
local macro_rules | `(tactic| walk_at "tyx") => `(tactic| first | exact .base (.int _) | exact .base (.bl _) | exact .base (.str _) | exact .base (.lst (by walk_at "hl")) | exact .base (.tup (by walk_at "hl")) | fail)
local macro_rules | `(tactic| walk_at "st1") => `(tactic| first | ((with_reducible show tSeq _ _ _ _ _); (try simp only [List.set_cons_zero, List.set_cons_succ]); refine AU.seq_ ?_) | ((with_reducible show tAsg _ _ _ _ _); refine AU.asg_ ?_) | ((with_reducible show gName _ _ _ _ _); refine AU.name_ ?_) | ((with_reducible show tDrop _ _ _ _); refine AU.drop_ ?_) | ((with_reducible show tRet _ _ _ _); refine AU.ret_ ?_) | ((with_reducible show tRetN _ _ _); refine AU.retN_ ?_) | ((with_reducible show tNext _ _ _); refine AU.next_ ?_) | ((with_reducible show tBreak _ _ _); refine AU.brk_ ?_) | ((with_reducible show tCont _ _ _); refine AU.cont_ ?_) | ((with_reducible show tIfS _ _ _ _ _ _); refine AU.ifs_ ?_) | ((with_reducible show tAug _ _ _ _ _ _); refine AU.aug_ rfl ?_) | ((with_reducible show Ends.nx (Ends.mk _ _ _ _) _ _); refine AU.nxm ?_) | ((with_reducible show Ends.rt (Ends.mk _ _ _ _) _ _); refine AU.rtm ?_) | ((with_reducible show Ends.bk (Ends.mk _ _ _ _) _ _); refine AU.bkm ?_) | ((with_reducible show Ends.ct (Ends.mk _ _ _ _) _ _); refine AU.ctm ?_) | ((with_reducible show tVar _ _ _ _); refine AU.var_ rfl ?_) | ((with_reducible show tC _ _ _ _); refine AU.c_ ?_) | ((with_reducible show tOp _ _ _ _ _ _); refine AU.op_ ?_) | ((with_reducible show tUn _ _ _ _ _); refine AU.un_ ?_) | ((with_reducible show rU _ _ _ _); refine AU.u_ ?_) | ((with_reducible show rI0 _ _ _ _ _); refine AU.i0_ ?_) | ((with_reducible show rI _ _ _ _ _ _); refine AU.i_ (by walk_at "ci") ?_) | ((with_reducible show rEq (V.int _) (V.int _) _ _); first | (with_reducible refine AU.eqr_ ?_) | refine AU.eqi_ ?_) | ((with_reducible show rEq (V.str _) (V.str _) _ _); (with_reducible refine AU.eqs_ ?_)) | ((with_reducible show rNe (V.int _) (V.int _) _ _); refine AU.nei_ ?_) | ((with_reducible show rEq _ _ _ _); refine AU.eq_ rfl ?_) | ((with_reducible show rNe _ _ _ _); refine AU.ne_ rfl ?_) | ((with_reducible show tTest _ _ _ _); refine AU.test_ ?_) | ((with_reducible show tB _ _ _ _); refine AU.b_ ?_) | ((with_reducible show tAnd _ _ _ _ _); refine AU.and_ ?_) | ((with_reducible show tOr _ _ _ _ _); refine AU.or_ ?_) | ((with_reducible show tNot _ _ _ _); refine AU.not_ ?_) | ((with_reducible show tAndV _ _ _ _ _); refine AU.andV_ ?_) | ((with_reducible show tOrV _ _ _ _ _); refine AU.orV_ ?_) | ((with_reducible show tNotV _ _ _ _); refine AU.notV_ ?_) | ((with_reducible show tIf _ _ _ _ _ _); refine AU.if_ ?_) | ((with_reducible show tNil _ _ _); refine AU.nil_ ?_) | ((with_reducible show tCons _ _ _ _ _); refine AU.cons_ ?_) | ((with_reducible show tLst _ _ _ _); refine AU.lst_ ?_) | ((with_reducible show tTup _ _ _ _); refine AU.tup_ ?_) | ((with_reducible show tCall _ _ _ _ _ _ _); refine AU.call_ ?_) | ((with_reducible show tCallS _ _ _ _ _ _); refine AU.callS_ ?_) | ((with_reducible show tCB _ _ _ _ _); refine AU.cb_ ?_) | ((with_reducible show tBM _ _ _ _ _ _ _ _); refine AU.bm_ ?_) | ((with_reducible show rIxL _ _ _ _ _); refine AU.ixL_ (by walk_at "sl") (by first | assumption | rfl) ?_) | ((with_reducible show rIxT _ _ _ _ _); refine AU.ixT_ (by walk_at "tl") (by first | assumption | rfl) ?_) | ((with_reducible show Evl.rLenS _ _ _ _); first | refine AU.lenL_ (by walk_at "sl") ?_ | refine AU.lenT_ (by walk_at "tl") ?_) | ((with_reducible show rAppend (V.ref _) [_] _ _); refine AU.app_ (by walk_at "hl") (by walk_at "ll") ?_) | ((with_reducible show tyV _ _ (V.ref _) _ ∧ _); refine AU.tyl_ (by walk_at "sl") ?_) | ((with_reducible show rCat (V.ref _) (V.ref _) _ _); refine AU.cat_ (by walk_at "hl") (by walk_at "hl") (by walk_at "le") ?_) | ((with_reducible show tFor _ _ _ _ _ _); refine AU.for_ ?_) | ((with_reducible show tLc _ _ _ _ _ _ _ _); refine AU.lc_ ?_) | ((with_reducible show iRng1 _ _ _ _); refine AU.rng1_ ?_) | ((with_reducible show iList _ _ _ _ _); refine AU.list_ ?_) | ((with_reducible show iTup _ _ _ _ _); refine AU.itup_ ?_) | ((with_reducible show (∃ i, [V.bl _] = [V.int i] ∧ _) ∨ _); refine AU.intb_ ?_) | ((with_reducible show (∃ i, [V.int _] = [V.int i] ∧ _) ∨ _); refine AU.inti_ ?_) | ((with_reducible show tYes _ _ _); refine AU.yes_ ?_) | ((with_reducible show ∃ p ys, [V.ref _] = [V.ref p] ∧ (SqL _ _ p ys ∨ SqT _ _ p ys) ∧ _); first | refine AU.listof_ (by walk_at "sl") ?_ | refine AU.listofT_ (by walk_at "tl") ?_) | ((with_reducible show ∃ p ys, [V.ref _] = [V.ref p] ∧ ((SqL _ _ p ys ∧ _) ∨ (SqT _ _ p ys ∧ _))); first | refine AU.tupleof_ (by walk_at "sl") ?_ | refine AU.tupleofT_ (by walk_at "tl") ?_) | ((with_reducible show V.non = V.non ∧ _); refine ⟨rfl, ?_⟩) | ((with_reducible show OT.rIsX _ _ _ _ [V.ref _, _] _ _); refine OT.isX_ (by walk_at "hh") (by first | exact .own _ | exact .ty _) (by assumption) ?_) | ((with_reducible show OT.tFA _ _ _ _ _ _ _ _ _); refine OT.fA_ ?_) | ((with_reducible show OT.tCallE _ _ _ _ _ _ _ _); refine OT.callE_ ?_) | ((with_reducible show rIsi _ [_, _] _ _); refine OT.isi_ (by first | exact .own _ | exact .ty _) (by walk_at "tyx") (by first | assumption | exact kit_ty OT.kq_int_int | exact kit_ty OT.kq_int_bool | exact kit_ty OT.kq_bool_bool | exact kit_ty OT.kq_bool_int | exact kit_ty OT.kq_str_str | exact kit_ty OT.kq_tuple_tuple | exact kit_ty OT.kq_list_list | exact kit_ty OT.kq_list_tuple | exact kit_ty OT.kq_tuple_list | exact kit_ty OT.kq_list_int | exact kit_ty OT.kq_tuple_int | exact kit_ty OT.kq_list_bool | exact kit_ty OT.kq_tuple_bool | exact kit_ty OT.kq_str_int | exact kit_ty OT.kq_int_str | exact kit_ty OT.kq_int_list | exact kit_ty OT.kq_int_tuple | exact kit_ty OT.kq_bool_list | exact kit_ty OT.kq_bool_tuple) ?_) | ((with_reducible show ∃ k, V.bl _ = V.bl k ∧ _); refine AU.bool_ ?_) | ((with_reducible show tSl _ _ _ _ _ _ _); refine AU.sl_ ?_) | ((with_reducible show tNoPart _ _ _); refine AU.npart_ ?_) | ((with_reducible show tPart _ _ _ _); refine AU.part_ ?_) | ((with_reducible show ∃ k, V.int _ = V.int k ∧ rSlL _ _ _ (some k) _ _); refine AU.int1_ ?_) | ((with_reducible show rSlL _ (V.ref _) _ _ _ _); refine AU.slL_ (by walk_at "sl") ?_) | ((with_reducible refine AU.trueT ?_)) | ((with_reducible refine AU.refNon ?_)) | ((with_reducible refine AU.nonNon ?_)) | ((with_reducible refine AU.trueN ?_)) | ((with_reducible refine AU.falseN ?_)) | ((with_reducible refine AU.falseF ?_)) | fail)
local macro_rules | `(tactic| walk_at "st") => `(tactic| repeat walk_at "st1")
section
variable {P : Program} {w : World} {K : PySem.W.Frag} {mg : Str → Option Value} {base : Heap}
def spErrE (K : PySem.W.Frag) (B : Addr) : SpE := fun a c d vs H Q _ => ∃ (C dd : Addr) (fs : List (Str × V)) (nm : Str), vs = [.ref a, .str nm] ∧ HeldF K H C dd c d fs ∧ PySem.W.findIn K (.ref C) "word" = some none ∧ fs.lookup ("word" : Str) = some (V.str nm) ∧
  PySem.W.kitOne K (.ref C) (.ref B) = some true ∧ PySem.W.kitOne K (.ref C) (.type "ValueError") = some true ∧ Q (.bl true) H
theorem h__law_is_error {f B : Addr} {fd : FuncData} (D : C8.Def K mg "_law_is_error" s__law_is_error f fd) (T : Bi mg) (gB : mg "TableError" = some (.ref B)) (nV : mg "ValueError" = none) : FnE P w K mg base 1 f fd ["_law_e", "_law_word"] (spErrE K B) := by
  refine fnE_of D.fn sc__law_is_error (fun a c d vs H Q E h => ?_) (fun cdv A outer s H vs Q p c d zc fld hr h => ?_)
  · obtain ⟨C, dd, fs, nm, rfl, _⟩ := h
    rfl
  · obtain ⟨C, dd, fs, nm, rfl, hh, nw, lw, kB, kV, q⟩ := h
    have hp : p ∈ (L2H.cxH L2.CX0 P w K mg base ["_law_e", "_law_word"] "_law_is_error" (C8.fnScope s__law_is_error) f cdv A outer s H E0 p).pn := List.mem_cons_self
    refine ⟨_, (pss_one (ps_ret (pe_and (pe_callB (show CallR _ _ (rIsX K p.1 c d) from call_isX hp zc fld) (by rfl) T.n_isinstance OT.b_isinstance (pa_cons (pv 0) (pa_cons (pe_glob (v := .ref B) (by rfl) gB rfl) pa_nil))) (pe_and (pe_callB (show CallR _ _ (rIsX K p.1 c d) from call_isX hp zc fld) (by rfl) T.n_isinstance OT.b_isinstance (pa_cons (pv 0) (pa_cons (pe_bltn (v := .ty "ValueError") (by rfl) nV OT.b_ValueError rfl) pa_nil))) (pe_and (pe_callB call_isi (by rfl) T.n_isinstance OT.b_isinstance (pa_cons (show PE _ _ (tFA K p.1 c d _ _) from pe_fX hp zc fld (pv 0)) (pa_cons (pe_bltn (v := .ty "str") (by rfl) T.n_str OT.b_str rfl) pa_nil))) (pe_one (pe_cmpR op_eq (show PE _ _ (tFA K p.1 c d _ _) from pe_fX hp zc fld (pv 0)) (pv 1) (nomark _)))))))), ?_⟩
    walk_at "st"
    refine fB_ hh nw lw ?_
    walk_at "st"
    refine fB_ hh nw lw ?_
    walk_at "st"
    exact q
def spIntE : SpE := fun _ _ _ vs H Q _ => ∃ i : Int, vs = [.int i] ∧ Q (.bl true) H
theorem h__law_is_integer {f : Addr} {fd : FuncData} (D : C8.Def K mg "_law_is_integer" s__law_is_integer f fd) (T : Bi mg) : FnE P w K mg base 1 f fd ["_law_actual"] spIntE := by
  refine fnE_of D.fn sc__law_is_integer (fun a c d vs H Q E h => ?_) (fun cdv A outer s H vs Q p c d zc fld hr h => ?_)
  · obtain ⟨i, rfl, _⟩ := h
    rfl
  · obtain ⟨i, rfl, q⟩ := h
    refine ⟨_, (pss_one (ps_ret (pe_and (pe_callB call_isi (by rfl) T.n_isinstance OT.b_isinstance (pa_cons (pv 0) (pa_cons (pe_bltn (v := .ty "int") (by rfl) T.n_int OT.b_int rfl) pa_nil))) (pe_one (pe_not (pe_callB call_isi (by rfl) T.n_isinstance OT.b_isinstance (pa_cons (pv 0) (pa_cons (pe_bltn (v := .ty "bool") (by rfl) T.n_bool OT.b_bool rfl) pa_nil)))))))), ?_⟩
    walk_at "st"
    exact q
end
end OT

set_option Elab.async false
set_option linter.all false
set_option maxRecDepth 100000
set_option maxHeartbeats 4000000
namespace OT
open PySem PySem.Spec PyProof.Rows L2
local macro_rules | `(tactic| walk_at "sm") => `(tactic| first | assumption | ((with_reducible show Same _ (upd _ _ _)); (refine' AU.mutS ?s ?h; (case h => assumption); (case s => walk_at "sm"))) | fail)
local macro_rules | `(tactic| walk_at "le") => `(tactic| first | (refine Nat.le_of_lt (AU.line ?_); (try simp only [List.length_append, List.length_map, List.length_cons, List.length_nil, List.length_take, List.length_replicate]); omega) | fail)
local macro_rules | `(tactic| walk_at "ll") => `(tactic| first | (show 0 < sizeLine; decide) | (show 1 < sizeLine; decide) | (show 2 < sizeLine; decide) | (show 3 < sizeLine; decide) | (refine AU.line ?_; (try simp only [List.length_append, List.length_map, List.length_cons, List.length_nil, List.length_take, List.length_replicate]); omega) | fail)
local macro_rules | `(tactic| walk_at "hl") => `(tactic| first | assumption | exact upd_same | (refine' AU.climb ?s ?h; (case s => walk_at "sm"); (case h => walk_at "hl")) | fail)
local macro_rules | `(tactic| walk_at "sl") => `(tactic| first | assumption | (refine' AU.sqL ?h; (case h => walk_at "hl")) | (refine' AU.sqLS ?s ?h; (case s => walk_at "sm"); (case h => walk_at "sl")) | fail)
local macro_rules | `(tactic| walk_at "tl") => `(tactic| first | assumption | (refine' AU.sqT ?h; (case h => walk_at "hl")) | (refine' AU.sqTS ?s ?h; (case s => walk_at "sm"); (case h => walk_at "tl")) | fail)
local macro_rules | `(tactic| walk_at "sz") => `(tactic| first | (show 0 ≤ sizeLine; decide) | (show 1 ≤ sizeLine; decide) | (show 2 ≤ sizeLine; decide) | (show 3 ≤ sizeLine; decide) | (show 4 ≤ sizeLine; decide) | (show 5 ≤ sizeLine; decide) | (show 6 ≤ sizeLine; decide) | (show 7 ≤ sizeLine; decide) | (show 8 ≤ sizeLine; decide) | (show 9 ≤ sizeLine; decide) | (show 10 ≤ sizeLine; decide) | fail)
local macro_rules | `(tactic| walk_at "ci") => `(tactic| first | exact trivial | omega | (show (0 : Int) < _; omega) | (show CMul _ _; exact .inl ⟨by omega, by omega⟩) | (show CMul _ _; exact .inr ⟨by omega, by omega⟩) | (show CMul _ _; exact .inr (AU.b01 _)) | (show CMul _ _; exact .inl (AU.b01 _)) | (show CDiv _ _; exact ⟨by omega, by omega⟩) | (show _ ≠ (0 : Int); omega) | (show CDiv _ _; exact ⟨by decide, by decide⟩) | fail)
local macro_rules | `(tactic| walk_at "hh") => `(tactic| first | assumption | (refine' OT.HeldF.mono ?s ?h; (case s => walk_at "sm"); (case h => walk_at "hh")) | fail)
local macro_rules | `(tactic| walk_at "tyx") => `(tactic| first | exact .base (.int _) | exact .base (.bl _) | exact .base (.str _) | exact .base (.lst (by walk_at "hl")) | exact .base (.tup (by walk_at "hl")) | fail)
local macro_rules | `(tactic| walk_at "st1") => `(tactic| first | ((with_reducible show tSeq _ _ _ _ _); (try simp only [List.set_cons_zero, List.set_cons_succ]); refine AU.seq_ ?_) | ((with_reducible show tAsg _ _ _ _ _); refine AU.asg_ ?_) | ((with_reducible show gName _ _ _ _ _); refine AU.name_ ?_) | ((with_reducible show tDrop _ _ _ _); refine AU.drop_ ?_) | ((with_reducible show tRet _ _ _ _); refine AU.ret_ ?_) | ((with_reducible show tRetN _ _ _); refine AU.retN_ ?_) | ((with_reducible show tNext _ _ _); refine AU.next_ ?_) | ((with_reducible show tBreak _ _ _); refine AU.brk_ ?_) | ((with_reducible show tCont _ _ _); refine AU.cont_ ?_) | ((with_reducible show tIfS _ _ _ _ _ _); refine AU.ifs_ ?_) | ((with_reducible show tAug _ _ _ _ _ _); refine AU.aug_ rfl ?_) | ((with_reducible show Ends.nx (Ends.mk _ _ _ _) _ _); refine AU.nxm ?_) | ((with_reducible show Ends.rt (Ends.mk _ _ _ _) _ _); refine AU.rtm ?_) | ((with_reducible show Ends.bk (Ends.mk _ _ _ _) _ _); refine AU.bkm ?_) | ((with_reducible show Ends.ct (Ends.mk _ _ _ _) _ _); refine AU.ctm ?_) | ((with_reducible show tVar _ _ _ _); refine AU.var_ rfl ?_) | ((with_reducible show tC _ _ _ _); refine AU.c_ ?_) | ((with_reducible show tOp _ _ _ _ _ _); refine AU.op_ ?_) | ((with_reducible show tUn _ _ _ _ _); refine AU.un_ ?_) | ((with_reducible show rU _ _ _ _); refine AU.u_ ?_) | ((with_reducible show rI0 _ _ _ _ _); refine AU.i0_ ?_) | ((with_reducible show rI _ _ _ _ _ _); refine AU.i_ (by walk_at "ci") ?_) | ((with_reducible show rEq (V.int _) (V.int _) _ _); first | (with_reducible refine AU.eqr_ ?_) | refine AU.eqi_ ?_) | ((with_reducible show rEq (V.str _) (V.str _) _ _); (with_reducible refine AU.eqs_ ?_)) | ((with_reducible show rNe (V.int _) (V.int _) _ _); refine AU.nei_ ?_) | ((with_reducible show rEq _ _ _ _); refine AU.eq_ rfl ?_) | ((with_reducible show rNe _ _ _ _); refine AU.ne_ rfl ?_) | ((with_reducible show tTest _ _ _ _); refine AU.test_ ?_) | ((with_reducible show tB _ _ _ _); refine AU.b_ ?_) | ((with_reducible show tAnd _ _ _ _ _); refine AU.and_ ?_) | ((with_reducible show tOr _ _ _ _ _); refine AU.or_ ?_) | ((with_reducible show tNot _ _ _ _); refine AU.not_ ?_) | ((with_reducible show tAndV _ _ _ _ _); refine AU.andV_ ?_) | ((with_reducible show tOrV _ _ _ _ _); refine AU.orV_ ?_) | ((with_reducible show tNotV _ _ _ _); refine AU.notV_ ?_) | ((with_reducible show tIf _ _ _ _ _ _); refine AU.if_ ?_) | ((with_reducible show tNil _ _ _); refine AU.nil_ ?_) | ((with_reducible show tCons _ _ _ _ _); refine AU.cons_ ?_) | ((with_reducible show tLst _ _ _ _); refine AU.lst_ ?_) | ((with_reducible show tTup _ _ _ _); refine AU.tup_ ?_) | ((with_reducible show tCall _ _ _ _ _ _ _); refine AU.call_ ?_) | ((with_reducible show tCallS _ _ _ _ _ _); refine AU.callS_ ?_) | ((with_reducible show tCB _ _ _ _ _); refine AU.cb_ ?_) | ((with_reducible show tBM _ _ _ _ _ _ _ _); refine AU.bm_ ?_) | ((with_reducible show rIxL _ _ _ _ _); refine AU.ixL_ (by walk_at "sl") (by first | assumption | rfl) ?_) | ((with_reducible show rIxT _ _ _ _ _); refine AU.ixT_ (by walk_at "tl") (by first | assumption | rfl) ?_) | ((with_reducible show Evl.rLenS _ _ _ _); first | refine AU.lenL_ (by walk_at "sl") ?_ | refine AU.lenT_ (by walk_at "tl") ?_) | ((with_reducible show rAppend (V.ref _) [_] _ _); refine AU.app_ (by walk_at "hl") (by walk_at "ll") ?_) | ((with_reducible show tyV _ _ (V.ref _) _ ∧ _); refine AU.tyl_ (by walk_at "sl") ?_) | ((with_reducible show rCat (V.ref _) (V.ref _) _ _); refine AU.cat_ (by walk_at "hl") (by walk_at "hl") (by walk_at "le") ?_) | ((with_reducible show tFor _ _ _ _ _ _); refine AU.for_ ?_) | ((with_reducible show tLc _ _ _ _ _ _ _ _); refine AU.lc_ ?_) | ((with_reducible show iRng1 _ _ _ _); refine AU.rng1_ ?_) | ((with_reducible show iList _ _ _ _ _); refine AU.list_ ?_) | ((with_reducible show iTup _ _ _ _ _); refine AU.itup_ ?_) | ((with_reducible show (∃ i, [V.bl _] = [V.int i] ∧ _) ∨ _); refine AU.intb_ ?_) | ((with_reducible show (∃ i, [V.int _] = [V.int i] ∧ _) ∨ _); refine AU.inti_ ?_) | ((with_reducible show tYes _ _ _); refine AU.yes_ ?_) | ((with_reducible show ∃ p ys, [V.ref _] = [V.ref p] ∧ (SqL _ _ p ys ∨ SqT _ _ p ys) ∧ _); first | refine AU.listof_ (by walk_at "sl") ?_ | refine AU.listofT_ (by walk_at "tl") ?_) | ((with_reducible show ∃ p ys, [V.ref _] = [V.ref p] ∧ ((SqL _ _ p ys ∧ _) ∨ (SqT _ _ p ys ∧ _))); first | refine AU.tupleof_ (by walk_at "sl") ?_ | refine AU.tupleofT_ (by walk_at "tl") ?_) | ((with_reducible show V.non = V.non ∧ _); refine ⟨rfl, ?_⟩) | ((with_reducible show OT.rIsX _ _ _ _ [V.ref _, _] _ _); refine OT.isX_ (by walk_at "hh") (by first | exact .own _ | exact .ty _) (by assumption) ?_) | ((with_reducible show OT.tFA _ _ _ _ _ _ _ _ _); refine OT.fA_ ?_) | ((with_reducible show OT.tCallE _ _ _ _ _ _ _ _); refine OT.callE_ ?_) | ((with_reducible show rIsi _ [_, _] _ _); refine OT.isi_ (by first | exact .own _ | exact .ty _) (by walk_at "tyx") (by first | assumption | exact kit_ty OT.kq_int_int | exact kit_ty OT.kq_int_bool | exact kit_ty OT.kq_bool_bool | exact kit_ty OT.kq_bool_int | exact kit_ty OT.kq_str_str | exact kit_ty OT.kq_tuple_tuple | exact kit_ty OT.kq_list_list | exact kit_ty OT.kq_list_tuple | exact kit_ty OT.kq_tuple_list | exact kit_ty OT.kq_list_int | exact kit_ty OT.kq_tuple_int | exact kit_ty OT.kq_list_bool | exact kit_ty OT.kq_tuple_bool | exact kit_ty OT.kq_str_int | exact kit_ty OT.kq_int_str | exact kit_ty OT.kq_int_list | exact kit_ty OT.kq_int_tuple | exact kit_ty OT.kq_bool_list | exact kit_ty OT.kq_bool_tuple) ?_) | ((with_reducible show ∃ k, V.bl _ = V.bl k ∧ _); refine AU.bool_ ?_) | ((with_reducible show tSl _ _ _ _ _ _ _); refine AU.sl_ ?_) | ((with_reducible show tNoPart _ _ _); refine AU.npart_ ?_) | ((with_reducible show tPart _ _ _ _); refine AU.part_ ?_) | ((with_reducible show ∃ k, V.int _ = V.int k ∧ rSlL _ _ _ (some k) _ _); refine AU.int1_ ?_) | ((with_reducible show rSlL _ (V.ref _) _ _ _ _); refine AU.slL_ (by walk_at "sl") ?_) | ((with_reducible refine AU.trueT ?_)) | ((with_reducible refine AU.refNon ?_)) | ((with_reducible refine AU.nonNon ?_)) | ((with_reducible refine AU.trueN ?_)) | ((with_reducible refine AU.falseN ?_)) | ((with_reducible refine AU.falseF ?_)) | fail)
local macro_rules | `(tactic| walk_at "st") => `(tactic| repeat walk_at "st1")
def errO (n : Nat) : List (Str × V) := [("dimension", .int (n : Nat)), ("word", .str "OneDirectionOnly")]
section
variable {P : Program} {w : World} {K : PySem.W.Frag} {mg : Str → Option Value} {base : Heap}
/-- OneDirectionOnly.__init__ -/
def spOE (K : PySem.W.Frag) : Sp := fun vs H Q _ => ∃ (a C : Addr) (nm : Str) (v : V), vs = [.ref a, v] ∧ H a = some (exo a C none) ∧ OtErr K C nm ∧ PySem.W.findIn K (.ref C) "dimension" = some none ∧
  ∀ d, H d = none → d ≠ a → Q .non (upd (upd (upd H d (exd d [("word", .str nm)])) a (exo a C (some d))) d (exd d [("dimension", v), ("word", .str nm)]))
theorem ok_oe {f B fB : Addr} {fd fdB : FuncData} (F : C8.Fun K "__init__" "OneDirectionOnly.__init__" s_OneDirectionOnly___init__ f fd) (GB : FnOk P w K mg base L2.CX0 1 fB fdB ["self"] (spTE K)) (bB : Binds K fdB ["self"] []) (R : OtRead K B "__init__" fB) (gB : mg "TableError" = some (.ref B)) :
    FnOk P w K mg base L2.CX0 2 f fd ["self", "dimension"] (spOE K) := by
  refine C8.fn0 F sc_OneDirectionOnly___init__ (fun vs H Q E h => ?_) (fun cdv A outer s H vs Q E hr h => ?_)
  · obtain ⟨a, C, nm, x, rfl, _⟩ := h
    rfl
  · obtain ⟨a, C, nm, x, rfl, ha, T, hnd, k⟩ := h
    refine ⟨_, pss_cons (ps_expr (pe_otcall (pe_glob (v := .ref B) (by rfl) gB rfl) R GB hr bB pass0 (pa_cons (pv 0) pa_nil)))
      (pss_one (ps_ost (pv 0) (pv 1))), ?_⟩
    refine ⟨rfl, _, rfl, a, C, nm, rfl, ha, T, fun d nd ne => ?_⟩
    refine ⟨_, rfl, _, rfl, a, C, rfl, T.ox, hnd, Or.inr ⟨d, _, upd_same, ?_, (by show 1 ≤ 900; decide), k d nd ne⟩⟩
    rw [upd_ne ne, upd_same]
theorem c_row_of {f : Addr} {fd : FuncData} (D : C8.Def K mg "row_of" s_row_of f fd) (b : Binds K fd ["numbers"] []) (T : Bi mg) : C8.Cal P w K mg base 1 "row_of" (spRowOf K) [] := by
  refine C8.cal0 D b .nil sc_row_of (fun vs H Q E h => ?_) (fun cdv A outer s H vs Q E hr h => ?_)
  · obtain ⟨d, kvs, ks, es, rfl, _⟩ := h
    rfl
  · obtain ⟨d, kvs, ks, es, rfl, hd, hs, hne, hz, q⟩ := h
    refine ⟨_, (pss_one (ps_ret (pe_lc (own := [("place", 1)]) (g := (gName 1)) rfl sc_row_of.nd (pi_list (pe_callB (cr_sortedDT rfl) (by rfl) T.n_sorted OT.b_sorted (pa_cons (pv 0) pa_nil))) (blkOk_by (N := ["numbers", "place"]) (sc := C8.fnScope s_row_of) (by decide +kernel)) (fun _ _ _ _ _ => (pg_name (i := 1) sc_row_of.nd rfl (Or.inl rfl))) (fun _ _ _ _ _ => (pts_one (pt_cmpR op_ne (pe_dget (hu_of hr) (pv 0) (pv 1) (fun _ _ => rfl)) pe_int (nomark _)))) (fun _ _ _ _ _ => (pe_tup (pa_cons (pv 1) (pa_cons (pe_dget (hu_of hr) (pv 0) (pv 1) (fun _ _ => rfl)) pa_nil))))))), ?_⟩
    refine ⟨_, rfl, d, kvs, ks, rfl, .inl hd, hs.keys, fun _ => hne, fun out p perm pw nod held np => ?_⟩
    refine ⟨p, rfl, ⟨_, .inl (.inl upd_same)⟩, fun D nD => ?_⟩
    have hpD : p ≠ D := ne_of_none upd_same nD
    obtain ⟨hDn, _⟩ := none_of_upd nD
    have hkd : ∀ x ∈ out, x.2 ∈ ks := fun x hx => perm.mem_iff.mp (List.mem_map_of_mem hx)
    refine lc_list (K := K) (a := p) (xs := out.map fun x => V.ref x.1) (fun i H2 => Same H H2 ∧ H2 p = some (.lst (out.map fun x => V.ref x.1)) ∧ ∃ ws, H2 D = some (.lst ws) ∧ Ents H2 ws (mkR (numAt es) ((out.take i).map (·.2)))) ?_ ?_ ?_ ?_
    · refine ⟨(same_upd np).trans (same_upd nD), ?_, [], upd_same, .nil⟩
      rw [upd_ne hpD, upd_same]
    · rintro i H2 _ ⟨_, hp, _⟩
      exact .inl (.inl hp)
    · rintro i x H2 hx ⟨sm, hp, ws, hD, hE⟩
      obtain ⟨hi, rfl⟩ := getm hx
      have hm := List.getElem_mem hi
      have hk := sm _ _ (held _ hm)
      have hv := hs.get (hkd _ hm)
      have hd2 := sm _ _ hd
      refine ⟨rfl, _, rfl, _, rfl, d, _, rfl, dgetT hd2 hk hv, ?_⟩
      refine ⟨rfl, _, rfl, ?_⟩
      have htk : (out.take (i + 1)).map (·.2) = (out.take i).map (·.2) ++ [out[i].2] := take_map_succ (·.2) hi
      rw [htk, mkR_snoc]
      refine iteND (fun hn => ?_) (fun h0 => ?_)
      · have hn0 : numAt es out[i].2 ≠ 0 := fun z => hn (by rw [z])
        rw [if_neg hn0]
        refine ⟨_, rfl, _, rfl, _, rfl, d, _, rfl, dgetT hd2 hk hv, (by show 2 ≤ sizeLine; decide), fun t nt => ?_⟩
        have ntD : D ≠ t := ne_of_none hD nt
        have smt : Same H2 (upd H2 t (.tup [.ref out[i].1, .int (numAt es out[i].2)])) := same_upd nt
        have hD3 := smt _ _ hD
        refine ⟨ws, hD3, ?_, same_mut (sm.trans smt) hDn, ?_, ws ++ [.ref t], upd_same, ?_⟩
        · have h1 := hE.len
          have h2 := mkR_len (numAt es) ((out.take i).map (·.2))
          have h3 := perm.length_eq
          rw [List.length_map] at h2 h3
          rw [List.length_take] at h2
          omega
        · rw [upd_ne hpD]
          exact smt _ _ hp
        · refine ((hE.mono smt).updL hD3).app (.cons (EntAt.updL hD3 ⟨t, _, rfl, upd_same, ?_⟩) .nil)
          exact smt _ _ hk
      · have h0' : numAt es out[i].2 = 0 := V.int.inj h0
        rw [if_pos h0', List.append_nil]
        exact ⟨sm, hp, ws, hD, hE⟩
    · rintro H2 ⟨sm, hp, ws, hD, hE⟩
      rw [List.length_map, List.take_length] at hE
      exact q _ D ws H2 (row_sorted perm pw nod hs.out) sm hDn hD hE
/-- rows in one direction -/
def spODs (K : PySem.W.Frag) (O M : Addr) : Sp := fun vs H Q E => ∃ (a : Addr) (us : List V) (ess : List (List Ent)), vs = [.ref a] ∧ SqL K H a us ∧ RowsAt H us ess ∧ ess.length ≤ 1000 ∧
  (mixL ((dims ess).filter nz) = true → ∀ d H', Same H H' → H' d = some (.xd errM) → E (.ref M) (some d) H') ∧
  (mixL ((dims ess).filter nz) = false → ∀ es ∈ ess, 1 < dimE es → ∀ d H', Same H H' → H' d = some (.xd (errO (dimE es))) → E (.ref O) (some d) H') ∧
  (mixL ((dims ess).filter nz) = false → (∀ es ∈ ess, dimE es ≤ 1) → ∀ H', Same H H' → Q .non H')
theorem ok_one_direction {f M O fI fD A0 : Addr} {fd fdI fdD : FuncData} {ds : List Value} (D : C8.Def K mg "one_direction" s_one_direction f fd) (T : Bi mg) (X : ErrI K mg "OneDirectionOnly" O fI) (hnd : PySem.W.findIn K (.ref O) "dimension" = some none) (GI : FnOk P w K mg base L2.CX0 2 fI fdI ["self", "dimension"] (spOE K)) (bI : Binds K fdI ["self", "dimension"] [])
    (DD : C8.Def K mg "same_dimension" s_same_dimension fD fdD) (bD : Binds K fdD ["rows", "places"] ds) (hdv : Vals [V.ref A0] ds) (hA0 : ∀ H, SqT K H A0 [])
    (GD : FnOk P w K mg base (L2.CX P w) 4 fD fdD ["rows", "places"] (spSDT K M)) (c_places_length : C8.Cal P w K mg base 1 "places_length" (spPLen K) []) : FnOk P w K mg base (L2.CX P w) 5 f fd ["rows"] (spODs K O M) := by
  obtain ⟨oc, od, dV, kV, doc, pm, an, cdv, ct, osl, rfl, lk, hcd⟩ := D.fn.ex
  refine fn_of lk hcd sc_one_direction (fun vs H Q E h => ?_) fun A outer s H vs Q E hr h => ?_
  · obtain ⟨a, us, ess, rfl, _⟩ := h
    rfl
  · obtain ⟨a, us, ess, rfl, ha, hR, hz, qM, qO, qN⟩ := h
    refine ⟨_, (pss_cons (ps_expr (pe_callSD GD hr rfl DD.mgf DD.kp bD hdv (fun σ => passAt (takes_of rfl rfl rfl rfl) σ) (pa_cons (pv 0) pa_nil)))
  (pss_one (ps_for (passes_of rfl) rfl (pi_list (pv 0)) (pg_name (i := 1) sc_one_direction.nd rfl (Or.inl rfl)) (pss_one (ps_if (pt_cmpR op_gt (C8.pe_c c_places_length hr (by decide) (by rfl) (pa_cons (pv 1) pa_nil)) pe_int (nomark _)) (pss_one (ps_raise rfl (takes_of rfl rfl rfl rfl) (pmk_oex X.t.ox X.i X.ty (GI.mono (by decide : 2 ≤ 3)) hr bI .nil pass0 (by rfl) X.g (pa_cons (C8.pe_c c_places_length hr (by decide) (by rfl) (pa_cons (pv 1) pa_nil)) pa_nil)))) pss_nil))))), ?_⟩
    have hul := hR.len
    refine ⟨_, rfl, a, A0, us, ess, rfl, ha, hR, hA0 _, hz, qM, fun hm H3 sm3 => ?_⟩
    have qO := qO hm
    have qN := qN hm
    refine ⟨_, rfl, a, rfl, ⟨_, sm3.seq ha⟩, ?_⟩
    refine for_list (K := K) (xs := us) (fun i σ H2 => ∃ y1 : Option V, σ = [some (.ref a), y1] ∧ Same H H2 ∧ ∀ es ∈ ess.take i, dimE es ≤ 1) ⟨none, rfl, sm3, fun es h => by cases h⟩ ?_ ?_ ?_
    · rintro i σ H2 _ ⟨_, _, sm, _⟩
      exact sm.seq ha
    · rintro i x σ H2 hx2 ⟨y1, rfl, sm, hno⟩
      obtain ⟨r, xs, es, rfl, hes, hx, hE⟩ := (hR.mono sm).get hx2
      have hem : es ∈ ess := List.mem_of_getElem? hes
      refine ⟨_, rfl, r, xs, es, rfl, .inl (.inl hx), hE, _, _, rfl, rfl, _, rfl, iteD (fun h => ?_) (fun h => ?_)⟩
      · have hd : 1 < dimE es := by omega
        refine ⟨_, rfl, r, xs, es, rfl, .inl (.inl hx), hE, (by show 1 ≤ 1000; decide), fun a na => ⟨a, O, _, _, rfl, upd_same, X.t, hnd, fun d nd ne => ?_⟩⟩
        have nd2 : H2 d = none := by
          rw [upd_ne ne] at nd
          exact nd
        refine ⟨rfl, d, _, ?_, upd_same, nd2, qO es hem hd d _ ?_ upd_same⟩
        · rw [upd_ne ne.symm, upd_same]
        · intro b o hb
          have hb2 := sm b o hb
          have nba : b ≠ a := ne_of_none hb2 na
          have nbd : b ≠ d := ne_of_none hb2 nd2
          rw [upd_ne nbd, del_ne nba, upd_ne nbd, upd_ne nba, upd_ne nbd, upd_ne nba]
          exact hb2
      · refine ⟨_, rfl, sm, fun e he => ?_⟩
        rw [List.take_add_one, hes] at he
        rcases List.mem_append.mp he with he | he
        · exact hno e he
        · rw [List.mem_singleton.mp he]
          omega
    · rintro σ H2 ⟨y1, rfl, sm, h1⟩
      rw [hul, List.take_length] at h1
      exact qN h1 _ sm
def spCr (K : PySem.W.Frag) (M : Addr) : Sp := fun vs H Q E => ∃ (a b : Addr) (xs ys : List V) (es fs : List Ent) (n m C : Nat), vs = [.ref a, .ref b] ∧ TwoR K H a b xs ys es fs n m C ∧ es.length * fs.length < 2000 ∧ (∀ g ∈ fs, -(2 ^ 64) < g.2 ∧ g.2 < 2 ^ 64) ∧
  (mixB es fs = true → ∀ d H', Same H H' → H' d = some (.xd errM) → E (.ref M) (some d) H') ∧
  (mixB es fs = false → (es ≠ [] → fs ≠ [] → n = m) ∧ wantRow H (timesL es (mirP fs)) Q)
theorem dimE_mir {n : Nat} {es : List Ent} (h : ∀ e ∈ es, e.1.length = n) : dimE (mirP es) = dimE es := by
  by_cases c : es = []
  · subst c
    rfl
  · rw [dimE_eq (mirP_dim h) (fun z => c (mirP_nil.mp z)), dimE_eq h c]
theorem ok_cross_table {f M fM : Addr} {fd fdM : FuncData} (D : C8.Def K mg "cross_table" s_cross_table f fd) (T : Bi mg) (DM : C8.Def K mg "multiply" s_multiply fM fdM) (bM : Binds K fdM ["first", "second"] []) (GM : FnOk P w K mg base (L2.CX P w) 5 fM fdM ["first", "second"] (spMul K M))
    (c_mirror : C8.Cal P w K mg base 1 "mirror" spMirror []) : FnOk P w K mg base (L2.CX P w) 6 f fd ["first", "second"] (spCr K M) := by
  obtain ⟨oc, od, dV, kV, doc, pm, an, cdv, ct, osl, rfl, lk, hcd⟩ := D.fn.ex
  refine fn_of lk hcd sc_cross_table (fun vs H Q E h => ?_) fun A outer s H vs Q E hr h => ?_
  · obtain ⟨a, b, xs, ys, es, fs, n, m, C, rfl, _⟩ := h
    rfl
  · obtain ⟨a, b, xs, ys, es, fs, n, m, C, rfl, R, hz, hnb, qE, qN⟩ := h
    refine ⟨_, (pss_one (ps_ret (pe_callS GM hr rfl DM.mgf DM.kp bM (fun σ => passAt (takes_of rfl rfl rfl rfl) σ) (pa_cons (pv 0) (pa_cons (C8.pe_c c_mirror hr (by decide) (by rfl) (pa_cons (pv 1) pa_nil)) pa_nil))))), ?_⟩
    have m3 := R.m3
    refine ⟨_, rfl, _, rfl, b, ys, fs, rfl, R.hb, R.f, R.zf, fun e he => by rw [R.df e he]; omega, fun p ws H2 s2 np hp hW => ?_⟩
    have R2 := R.mono s2
    have T2 : TwoR K H2 a p xs ws es (mirP fs) n m C := ⟨R2.ha, hp, R2.e, hW, R2.ze, by rw [mirP_len]; exact R2.zf, R2.de, mirP_dim R2.df, R2.n3, R2.m3, R2.ce, mirP_c R2.cf, R2.c⟩
    have hdm : mixL ((dims [es, mirP fs]).filter nz) = mixB es fs := by
      rw [mixD]
      unfold mixB
      rw [dimE_mir R.df]
    refine ⟨a, p, xs, ws, es, mirP fs, n, m, C, rfl, T2, by rw [mirP_len]; exact hz, mirP_u (P := fun z => -(2 ^ 64) < z ∧ z < 2 ^ 64) hnb, fun hm d H3 s3 hd => ?_, fun hm => ?_⟩
    · rw [hdm] at hm
      exact qE hm d H3 (s2.trans s3) hd
    · rw [hdm] at hm
      obtain ⟨h1, h2⟩ := qN hm
      refine ⟨fun z1 z2 => h1 z1 fun z => z2 (by rw [z]; rfl), wantRow.mono s2 h2⟩
end
end OT

set_option Elab.async false
set_option linter.all false
set_option maxRecDepth 100000
set_option maxHeartbeats 4000000
namespace OT
open PySem PySem.Spec PyProof.Rows L2
local macro_rules | `(tactic| walk_at "sm") => `(tactic| first | assumption | ((with_reducible show Same _ (upd _ _ _)); (refine' AU.mutS ?s ?h; (case h => assumption); (case s => walk_at "sm"))) | fail)
local macro_rules | `(tactic| walk_at "le") => `(tactic| first | (refine Nat.le_of_lt (AU.line ?_); (try simp only [List.length_append, List.length_map, List.length_cons, List.length_nil, List.length_take, List.length_replicate]); omega) | fail)
local macro_rules | `(tactic| walk_at "ll") => `(tactic| first | (show 0 < sizeLine; decide) | (show 1 < sizeLine; decide) | (show 2 < sizeLine; decide) | (show 3 < sizeLine; decide) | (refine AU.line ?_; (try simp only [List.length_append, List.length_map, List.length_cons, List.length_nil, List.length_take, List.length_replicate]); omega) | fail)
local macro_rules | `(tactic| walk_at "hl") => `(tactic| first | assumption | exact upd_same | (refine' AU.climb ?s ?h; (case s => walk_at "sm"); (case h => walk_at "hl")) | fail)
local macro_rules | `(tactic| walk_at "sl") => `(tactic| first | assumption | (refine' AU.sqL ?h; (case h => walk_at "hl")) | (refine' AU.sqLS ?s ?h; (case s => walk_at "sm"); (case h => walk_at "sl")) | fail)
local macro_rules | `(tactic| walk_at "tl") => `(tactic| first | assumption | (refine' AU.sqT ?h; (case h => walk_at "hl")) | (refine' AU.sqTS ?s ?h; (case s => walk_at "sm"); (case h => walk_at "tl")) | fail)
local macro_rules | `(tactic| walk_at "sz") => `(tactic| first | (show 0 ≤ sizeLine; decide) | (show 1 ≤ sizeLine; decide) | (show 2 ≤ sizeLine; decide) | (show 3 ≤ sizeLine; decide) | (show 4 ≤ sizeLine; decide) | (show 5 ≤ sizeLine; decide) | (show 6 ≤ sizeLine; decide) | (show 7 ≤ sizeLine; decide) | (show 8 ≤ sizeLine; decide) | (show 9 ≤ sizeLine; decide) | (show 10 ≤ sizeLine; decide) | fail)
local macro_rules | `(tactic| walk_at "ci") => `(tactic| first | exact trivial | omega | (show (0 : Int) < _; omega) | (show CMul _ _; exact .inl ⟨by omega, by omega⟩) | (show CMul _ _; exact .inr ⟨by omega, by omega⟩) | (show CMul _ _; exact .inr (AU.b01 _)) | (show CMul _ _; exact .inl (AU.b01 _)) | (show CDiv _ _; exact ⟨by omega, by omega⟩) | (show _ ≠ (0 : Int); omega) | (show CDiv _ _; exact ⟨by decide, by decide⟩) | fail)
local macro_rules | `(tactic| walk_at "hh") => `(tactic| first | assumption | (refine' OT.HeldF.mono ?s ?h; (case s => walk_at "sm"); (case h => walk_at "hh")) | fail)
local macro_rules | `(tactic| walk_at "tyx") => `(tactic| first | exact .base (.int _) | exact .base (.bl _) | exact .base (.str _) | exact .base (.lst (by walk_at "hl")) | exact .base (.tup (by walk_at "hl")) | fail)
local macro_rules | `(tactic| walk_at "st1") => `(tactic| first | ((with_reducible show tSeq _ _ _ _ _); (try simp only [List.set_cons_zero, List.set_cons_succ]); refine AU.seq_ ?_) | ((with_reducible show tAsg _ _ _ _ _); refine AU.asg_ ?_) | ((with_reducible show gName _ _ _ _ _); refine AU.name_ ?_) | ((with_reducible show tDrop _ _ _ _); refine AU.drop_ ?_) | ((with_reducible show tRet _ _ _ _); refine AU.ret_ ?_) | ((with_reducible show tRetN _ _ _); refine AU.retN_ ?_) | ((with_reducible show tNext _ _ _); refine AU.next_ ?_) | ((with_reducible show tBreak _ _ _); refine AU.brk_ ?_) | ((with_reducible show tCont _ _ _); refine AU.cont_ ?_) | ((with_reducible show tIfS _ _ _ _ _ _); refine AU.ifs_ ?_) | ((with_reducible show tAug _ _ _ _ _ _); refine AU.aug_ rfl ?_) | ((with_reducible show Ends.nx (Ends.mk _ _ _ _) _ _); refine AU.nxm ?_) | ((with_reducible show Ends.rt (Ends.mk _ _ _ _) _ _); refine AU.rtm ?_) | ((with_reducible show Ends.bk (Ends.mk _ _ _ _) _ _); refine AU.bkm ?_) | ((with_reducible show Ends.ct (Ends.mk _ _ _ _) _ _); refine AU.ctm ?_) | ((with_reducible show tVar _ _ _ _); refine AU.var_ rfl ?_) | ((with_reducible show tC _ _ _ _); refine AU.c_ ?_) | ((with_reducible show tOp _ _ _ _ _ _); refine AU.op_ ?_) | ((with_reducible show tUn _ _ _ _ _); refine AU.un_ ?_) | ((with_reducible show rU _ _ _ _); refine AU.u_ ?_) | ((with_reducible show rI0 _ _ _ _ _); refine AU.i0_ ?_) | ((with_reducible show rI _ _ _ _ _ _); refine AU.i_ (by walk_at "ci") ?_) | ((with_reducible show rEq (V.int _) (V.int _) _ _); first | (with_reducible refine AU.eqr_ ?_) | refine AU.eqi_ ?_) | ((with_reducible show rEq (V.str _) (V.str _) _ _); (with_reducible refine AU.eqs_ ?_)) | ((with_reducible show rNe (V.int _) (V.int _) _ _); refine AU.nei_ ?_) | ((with_reducible show rEq _ _ _ _); refine AU.eq_ rfl ?_) | ((with_reducible show rNe _ _ _ _); refine AU.ne_ rfl ?_) | ((with_reducible show tTest _ _ _ _); refine AU.test_ ?_) | ((with_reducible show tB _ _ _ _); refine AU.b_ ?_) | ((with_reducible show tAnd _ _ _ _ _); refine AU.and_ ?_) | ((with_reducible show tOr _ _ _ _ _); refine AU.or_ ?_) | ((with_reducible show tNot _ _ _ _); refine AU.not_ ?_) | ((with_reducible show tAndV _ _ _ _ _); refine AU.andV_ ?_) | ((with_reducible show tOrV _ _ _ _ _); refine AU.orV_ ?_) | ((with_reducible show tNotV _ _ _ _); refine AU.notV_ ?_) | ((with_reducible show tIf _ _ _ _ _ _); refine AU.if_ ?_) | ((with_reducible show tNil _ _ _); refine AU.nil_ ?_) | ((with_reducible show tCons _ _ _ _ _); refine AU.cons_ ?_) | ((with_reducible show tLst _ _ _ _); refine AU.lst_ ?_) | ((with_reducible show tTup _ _ _ _); refine AU.tup_ ?_) | ((with_reducible show tCall _ _ _ _ _ _ _); refine AU.call_ ?_) | ((with_reducible show tCallS _ _ _ _ _ _); refine AU.callS_ ?_) | ((with_reducible show tCB _ _ _ _ _); refine AU.cb_ ?_) | ((with_reducible show tBM _ _ _ _ _ _ _ _); refine AU.bm_ ?_) | ((with_reducible show rIxL _ _ _ _ _); refine AU.ixL_ (by walk_at "sl") (by first | assumption | rfl) ?_) | ((with_reducible show rIxT _ _ _ _ _); refine AU.ixT_ (by walk_at "tl") (by first | assumption | rfl) ?_) | ((with_reducible show Evl.rLenS _ _ _ _); first | refine AU.lenL_ (by walk_at "sl") ?_ | refine AU.lenT_ (by walk_at "tl") ?_) | ((with_reducible show rAppend (V.ref _) [_] _ _); refine AU.app_ (by walk_at "hl") (by walk_at "ll") ?_) | ((with_reducible show tyV _ _ (V.ref _) _ ∧ _); refine AU.tyl_ (by walk_at "sl") ?_) | ((with_reducible show rCat (V.ref _) (V.ref _) _ _); refine AU.cat_ (by walk_at "hl") (by walk_at "hl") (by walk_at "le") ?_) | ((with_reducible show tFor _ _ _ _ _ _); refine AU.for_ ?_) | ((with_reducible show tLc _ _ _ _ _ _ _ _); refine AU.lc_ ?_) | ((with_reducible show iRng1 _ _ _ _); refine AU.rng1_ ?_) | ((with_reducible show iList _ _ _ _ _); refine AU.list_ ?_) | ((with_reducible show iTup _ _ _ _ _); refine AU.itup_ ?_) | ((with_reducible show (∃ i, [V.bl _] = [V.int i] ∧ _) ∨ _); refine AU.intb_ ?_) | ((with_reducible show (∃ i, [V.int _] = [V.int i] ∧ _) ∨ _); refine AU.inti_ ?_) | ((with_reducible show tYes _ _ _); refine AU.yes_ ?_) | ((with_reducible show ∃ p ys, [V.ref _] = [V.ref p] ∧ (SqL _ _ p ys ∨ SqT _ _ p ys) ∧ _); first | refine AU.listof_ (by walk_at "sl") ?_ | refine AU.listofT_ (by walk_at "tl") ?_) | ((with_reducible show ∃ p ys, [V.ref _] = [V.ref p] ∧ ((SqL _ _ p ys ∧ _) ∨ (SqT _ _ p ys ∧ _))); first | refine AU.tupleof_ (by walk_at "sl") ?_ | refine AU.tupleofT_ (by walk_at "tl") ?_) | ((with_reducible show V.non = V.non ∧ _); refine ⟨rfl, ?_⟩) | ((with_reducible show OT.rIsX _ _ _ _ [V.ref _, _] _ _); refine OT.isX_ (by walk_at "hh") (by first | exact .own _ | exact .ty _) (by assumption) ?_) | ((with_reducible show OT.tFA _ _ _ _ _ _ _ _ _); refine OT.fA_ ?_) | ((with_reducible show OT.tCallE _ _ _ _ _ _ _ _); refine OT.callE_ ?_) | ((with_reducible show rIsi _ [_, _] _ _); refine OT.isi_ (by first | exact .own _ | exact .ty _) (by walk_at "tyx") (by first | assumption | exact kit_ty OT.kq_int_int | exact kit_ty OT.kq_int_bool | exact kit_ty OT.kq_bool_bool | exact kit_ty OT.kq_bool_int | exact kit_ty OT.kq_str_str | exact kit_ty OT.kq_tuple_tuple | exact kit_ty OT.kq_list_list | exact kit_ty OT.kq_list_tuple | exact kit_ty OT.kq_tuple_list | exact kit_ty OT.kq_list_int | exact kit_ty OT.kq_tuple_int | exact kit_ty OT.kq_list_bool | exact kit_ty OT.kq_tuple_bool | exact kit_ty OT.kq_str_int | exact kit_ty OT.kq_int_str | exact kit_ty OT.kq_int_list | exact kit_ty OT.kq_int_tuple | exact kit_ty OT.kq_bool_list | exact kit_ty OT.kq_bool_tuple) ?_) | ((with_reducible show ∃ k, V.bl _ = V.bl k ∧ _); refine AU.bool_ ?_) | ((with_reducible show tSl _ _ _ _ _ _ _); refine AU.sl_ ?_) | ((with_reducible show tNoPart _ _ _); refine AU.npart_ ?_) | ((with_reducible show tPart _ _ _ _); refine AU.part_ ?_) | ((with_reducible show ∃ k, V.int _ = V.int k ∧ rSlL _ _ _ (some k) _ _); refine AU.int1_ ?_) | ((with_reducible show rSlL _ (V.ref _) _ _ _ _); refine AU.slL_ (by walk_at "sl") ?_) | ((with_reducible refine AU.trueT ?_)) | ((with_reducible refine AU.refNon ?_)) | ((with_reducible refine AU.nonNon ?_)) | ((with_reducible refine AU.trueN ?_)) | ((with_reducible refine AU.falseN ?_)) | ((with_reducible refine AU.falseF ?_)) | fail)
local macro_rules | `(tactic| walk_at "st") => `(tactic| repeat walk_at "st1")
/-- a list of rows that are all new since H0, each of its own -/
structure FrL (H0 H : Hp) (p : Addr) (as : List Addr) (ess : List (List Ent)) : Prop where
  s : Same H0 H
  np : H0 p = none
  na : ∀ a ∈ as, H0 a = none
  hp : H p = some (.lst (as.map V.ref))
  nd : as.Nodup
  pn : p ∉ as
  l : as.length = ess.length
  rows : ∀ (i : Nat) (a : Addr) (es : List Ent), as[i]? = some a → ess[i]? = some es → ∃ xs, H a = some (.lst xs) ∧ Ents H xs es
theorem FrL.at_ {H0 H : Hp} {p : Addr} {as : List Addr} {ess : List (List Ent)} (h : FrL H0 H p as ess) {a : Addr} (ha : a ∈ as) : ∃ (i : Nat) (es : List Ent) (xs : List V), as[i]? = some a ∧ ess[i]? = some es ∧ H a = some (.lst xs) ∧ Ents H xs es := by
  obtain ⟨i, hi⟩ := List.getElem?_of_mem ha
  have hl := (List.getElem?_eq_some_iff.mp hi).1
  have he : ess[i]? = some (ess[i]'(by rw [← h.l]; exact hl)) := List.getElem?_eq_getElem _
  obtain ⟨xs, h1, h2⟩ := h.rows i a _ hi he
  exact ⟨i, _, xs, hi, he, h1, h2⟩
theorem FrL.start {H0 : Hp} {D : Addr} (nD : H0 D = none) : FrL H0 (upd H0 D (.lst [])) D [] [] :=
  ⟨same_upd nD, nD, fun a h => (by cases h), upd_same, .nil, fun h => (by cases h), rfl, fun i a es h => (by simp at h)⟩
theorem FrL.push {H0 G : Hp} {D q : Addr} {as : List Addr} {ess : List (List Ent)} (h : FrL H0 G D as ess) (nq : G q = none) : FrL H0 (upd (upd G q (.lst [])) D (.lst (as.map V.ref ++ [.ref q]))) D (as ++ [q]) (ess ++ [[]]) := by
  have sq : Same G (upd G q (.lst [])) := same_upd nq
  have qa : q ∉ as := fun z => by
    obtain ⟨_, _, _, _, _, e, _⟩ := h.at_ z
    rw [nq] at e
    cases e
  have Dq : D ≠ q := ne_of_none h.hp nq
  have hD1 : (upd G q (.lst [])) D = some (.lst (as.map V.ref)) := sq _ _ h.hp
  refine ⟨same_mut (h.s.trans sq) h.np, h.np, fun a ha => ?_, by rw [upd_same, List.map_append]; rfl, ?_, fun z => ?_, by rw [List.length_append, List.length_append, h.l]; rfl, fun i a es hi he => ?_⟩
  · rcases List.mem_append.mp ha with ha | ha
    · exact h.na a ha
    · rw [List.mem_singleton.mp ha]
      exact AU.back h.s nq
  · refine List.nodup_append.mpr ⟨h.nd, List.nodup_cons.mpr ⟨fun z => (by cases z), .nil⟩, fun a ha b hb => ?_⟩
    rw [List.mem_singleton.mp hb]
    rintro rfl
    exact qa ha
  · rcases List.mem_append.mp z with z | z
    · exact h.pn z
    · exact Dq (List.mem_singleton.mp z)
  · by_cases c : i < as.length
    · rw [List.getElem?_append_left c] at hi
      rw [List.getElem?_append_left (by rw [← h.l]; exact c)] at he
      obtain ⟨xs, h1, h2⟩ := h.rows i a es hi he
      have ham := List.mem_of_getElem? hi
      have aD : a ≠ D := fun z => h.pn (by rw [← z]; exact ham)
      exact ⟨xs, by rw [upd_ne aD]; exact sq _ _ h1, (h2.mono sq).updL hD1⟩
    · have hil := (List.getElem?_eq_some_iff.mp hi).1
      rw [List.length_append, List.length_singleton] at hil
      obtain rfl : i = as.length := by omega
      rw [List.getElem?_append_right (Nat.le_refl _), Nat.sub_self] at hi
      rw [h.l, List.getElem?_append_right (Nat.le_refl _), Nat.sub_self] at he
      cases hi
      cases he
      exact ⟨[], by rw [upd_ne Dq.symm, upd_same], .nil⟩
theorem FrL.app {H0 G : Hp} {D a : Addr} {as : List Addr} {ess : List (List Ent)} {k : Nat} {es : List Ent} {xs : List V} {v : V} {e : Ent} (h : FrL H0 G D as ess) (hk : as[k]? = some a) (he : ess[k]? = some es) (hx : G a = some (.lst xs)) (hE : Ents G xs es) (hv : EntAt G v e) :
    FrL H0 (upd G a (.lst (xs ++ [v]))) D as (ess.set k (es ++ [e])) := by
  have ham := List.mem_of_getElem? hk
  have Da : D ≠ a := fun z => h.pn (by rw [z]; exact ham)
  have hkl := (List.getElem?_eq_some_iff.mp hk).1
  refine ⟨same_mut h.s (h.na a ham), h.np, h.na, by rw [upd_ne Da]; exact h.hp, h.nd, h.pn, by rw [List.length_set]; exact h.l, fun i b fs hi hf => ?_⟩
  by_cases c : i = k
  · subst c
    rw [hk] at hi
    cases hi
    rw [List.getElem?_set_self (by rw [← h.l]; exact hkl)] at hf
    cases hf
    exact ⟨_, upd_same, (hE.app (.cons hv .nil)).updL hx⟩
  · rw [List.getElem?_set_ne (Ne.symm c)] at hf
    obtain ⟨ys, h1, h2⟩ := h.rows i b fs hi hf
    have ba : b ≠ a := fun z => by
      subst z
      have hil := (List.getElem?_eq_some_iff.mp hi).1
      have e1 := (List.getElem?_eq_some_iff.mp hi).2
      have e2 := (List.getElem?_eq_some_iff.mp hk).2
      have key := List.pairwise_iff_getElem.mp h.nd
      rcases Nat.lt_or_gt_of_ne c with z | z
      · exact key i k hil hkl z (e1.trans e2.symm)
      · exact key k i hkl hil z (e2.trans e1.symm)
    exact ⟨ys, by rw [upd_ne ba]; exact h1, h2.updL hx⟩
theorem FrL.mono {H0 G G2 : Hp} {D : Addr} {as : List Addr} {ess : List (List Ent)} (s : Same G G2) (h : FrL H0 G D as ess) : FrL H0 G2 D as ess :=
  ⟨h.s.trans s, h.np, h.na, s _ _ h.hp, h.nd, h.pn, h.l, fun i a es hi he => by
    obtain ⟨xs, h1, h2⟩ := h.rows i a es hi he
    exact ⟨xs, s _ _ h1, h2.mono s⟩⟩
/-- one tooth of the comb -/
def tooth (es : List Ent) (n k : Nat) : List Ent := (es.filter fun e => decide (e.1.headD 0 % (n : Int) = (k : Int))).map fun e => ([e.1.headD 0 / (n : Int)], e.2)
def combS (es : List Ent) (n : Nat) : List (List Ent) := (List.range n).map (tooth es n)
theorem tooth_snoc (es : List Ent) (e : Ent) (n k : Nat) : tooth (es ++ [e]) n k = if e.1.headD 0 % (n : Int) = (k : Int) then tooth es n k ++ [([e.1.headD 0 / (n : Int)], e.2)] else tooth es n k := by
  unfold tooth
  rw [List.filter_append, List.map_append]
  by_cases c : e.1.headD 0 % (n : Int) = (k : Int)
  · rw [if_pos c, show List.filter (fun e : Ent => decide (e.1.headD 0 % (n : Int) = (k : Int))) [e] = [e] from List.filter_cons_of_pos (by exact decide_eq_true c)]
    rfl
  · rw [if_neg c, show List.filter (fun e : Ent => decide (e.1.headD 0 % (n : Int) = (k : Int))) [e] = [] from List.filter_cons_of_neg (by exact fun z => c (of_decide_eq_true z))]
    show _ ++ [] = _
    rw [List.append_nil]
theorem combS_len (es : List Ent) (n : Nat) : (combS es n).length = n := by
  unfold combS
  rw [List.length_map, List.length_range]
theorem combS_at (es : List Ent) {n k : Nat} (h : k < n) : (combS es n)[k]? = some (tooth es n k) := by
  unfold combS
  rw [List.getElem?_map, List.getElem?_range h]
  rfl
theorem combS_snoc {es : List Ent} {e : Ent} {n k : Nat} (hk : e.1.headD 0 % (n : Int) = (k : Int)) (hn : k < n) : combS (es ++ [e]) n = (combS es n).set k (tooth es n k ++ [([e.1.headD 0 / (n : Int)], e.2)]) := by
  refine List.ext_getElem? fun i => ?_
  by_cases c : i < n
  · rw [combS_at _ c, tooth_snoc]
    by_cases d : i = k
    · subst d
      rw [if_pos hk, List.getElem?_set_self (by rw [combS_len]; exact hn)]
    · rw [if_neg (fun z => d (by omega)), List.getElem?_set_ne (Ne.symm d), combS_at _ c]
  · rw [List.getElem?_eq_none (by rw [combS_len]; omega), List.getElem?_eq_none (by rw [List.length_set, combS_len]; omega)]
theorem combS_nil (n : Nat) : combS [] n = List.replicate n [] := by
  refine List.ext_getElem? fun i => ?_
  by_cases c : i < n
  · rw [combS_at _ c, List.getElem?_replicate, if_pos c]
    rfl
  · rw [List.getElem?_eq_none (by rw [combS_len]; omega), List.getElem?_eq_none (by rw [List.length_replicate]; omega)]
end OT

set_option Elab.async false
set_option linter.all false
set_option maxRecDepth 100000
set_option maxHeartbeats 4000000
namespace OT
open PySem PySem.Spec PyProof.Rows L2
local macro_rules | `(tactic| walk_at "sm") => `(tactic| first | assumption | ((with_reducible show Same _ (upd _ _ _)); (refine' AU.mutS ?s ?h; (case h => assumption); (case s => walk_at "sm"))) | fail)
local macro_rules | `(tactic| walk_at "le") => `(tactic| first | (refine Nat.le_of_lt (AU.line ?_); (try simp only [List.length_append, List.length_map, List.length_cons, List.length_nil, List.length_take, List.length_replicate]); omega) | fail)
local macro_rules | `(tactic| walk_at "ll") => `(tactic| first | (show 0 < sizeLine; decide) | (show 1 < sizeLine; decide) | (show 2 < sizeLine; decide) | (show 3 < sizeLine; decide) | (refine AU.line ?_; (try simp only [List.length_append, List.length_map, List.length_cons, List.length_nil, List.length_take, List.length_replicate]); omega) | fail)
local macro_rules | `(tactic| walk_at "hl") => `(tactic| first | assumption | exact upd_same | (refine' AU.climb ?s ?h; (case s => walk_at "sm"); (case h => walk_at "hl")) | fail)
local macro_rules | `(tactic| walk_at "sl") => `(tactic| first | assumption | (refine' AU.sqL ?h; (case h => walk_at "hl")) | (refine' AU.sqLS ?s ?h; (case s => walk_at "sm"); (case h => walk_at "sl")) | fail)
local macro_rules | `(tactic| walk_at "tl") => `(tactic| first | assumption | (refine' AU.sqT ?h; (case h => walk_at "hl")) | (refine' AU.sqTS ?s ?h; (case s => walk_at "sm"); (case h => walk_at "tl")) | fail)
local macro_rules | `(tactic| walk_at "sz") => `(tactic| first | (show 0 ≤ sizeLine; decide) | (show 1 ≤ sizeLine; decide) | (show 2 ≤ sizeLine; decide) | (show 3 ≤ sizeLine; decide) | (show 4 ≤ sizeLine; decide) | (show 5 ≤ sizeLine; decide) | (show 6 ≤ sizeLine; decide) | (show 7 ≤ sizeLine; decide) | (show 8 ≤ sizeLine; decide) | (show 9 ≤ sizeLine; decide) | (show 10 ≤ sizeLine; decide) | fail)
local macro_rules | `(tactic| walk_at "ci") => `(tactic| first | exact trivial | omega | (show (0 : Int) < _; omega) | (show CMul _ _; exact .inl ⟨by omega, by omega⟩) | (show CMul _ _; exact .inr ⟨by omega, by omega⟩) | (show CMul _ _; exact .inr (AU.b01 _)) | (show CMul _ _; exact .inl (AU.b01 _)) | (show CDiv _ _; exact ⟨by omega, by omega⟩) | (show _ ≠ (0 : Int); omega) | (show CDiv _ _; exact ⟨by decide, by decide⟩) | fail)
local macro_rules | `(tactic| walk_at "hh") => `(tactic| first | assumption | (refine' OT.HeldF.mono ?s ?h; (case s => walk_at "sm"); (case h => walk_at "hh")) | fail)
local macro_rules | `(tactic| walk_at "tyx") => `(tactic| first | exact .base (.int _) | exact .base (.bl _) | exact .base (.str _) | exact .base (.lst (by walk_at "hl")) | exact .base (.tup (by walk_at "hl")) | fail)
local macro_rules | `(tactic| walk_at "st1") => `(tactic| first | ((with_reducible show tSeq _ _ _ _ _); (try simp only [List.set_cons_zero, List.set_cons_succ]); refine AU.seq_ ?_) | ((with_reducible show tAsg _ _ _ _ _); refine AU.asg_ ?_) | ((with_reducible show gName _ _ _ _ _); refine AU.name_ ?_) | ((with_reducible show tDrop _ _ _ _); refine AU.drop_ ?_) | ((with_reducible show tRet _ _ _ _); refine AU.ret_ ?_) | ((with_reducible show tRetN _ _ _); refine AU.retN_ ?_) | ((with_reducible show tNext _ _ _); refine AU.next_ ?_) | ((with_reducible show tBreak _ _ _); refine AU.brk_ ?_) | ((with_reducible show tCont _ _ _); refine AU.cont_ ?_) | ((with_reducible show tIfS _ _ _ _ _ _); refine AU.ifs_ ?_) | ((with_reducible show tAug _ _ _ _ _ _); refine AU.aug_ rfl ?_) | ((with_reducible show Ends.nx (Ends.mk _ _ _ _) _ _); refine AU.nxm ?_) | ((with_reducible show Ends.rt (Ends.mk _ _ _ _) _ _); refine AU.rtm ?_) | ((with_reducible show Ends.bk (Ends.mk _ _ _ _) _ _); refine AU.bkm ?_) | ((with_reducible show Ends.ct (Ends.mk _ _ _ _) _ _); refine AU.ctm ?_) | ((with_reducible show tVar _ _ _ _); refine AU.var_ rfl ?_) | ((with_reducible show tC _ _ _ _); refine AU.c_ ?_) | ((with_reducible show tOp _ _ _ _ _ _); refine AU.op_ ?_) | ((with_reducible show tUn _ _ _ _ _); refine AU.un_ ?_) | ((with_reducible show rU _ _ _ _); refine AU.u_ ?_) | ((with_reducible show rI0 _ _ _ _ _); refine AU.i0_ ?_) | ((with_reducible show rI _ _ _ _ _ _); refine AU.i_ (by walk_at "ci") ?_) | ((with_reducible show rEq (V.int _) (V.int _) _ _); first | (with_reducible refine AU.eqr_ ?_) | refine AU.eqi_ ?_) | ((with_reducible show rEq (V.str _) (V.str _) _ _); (with_reducible refine AU.eqs_ ?_)) | ((with_reducible show rNe (V.int _) (V.int _) _ _); refine AU.nei_ ?_) | ((with_reducible show rEq _ _ _ _); refine AU.eq_ rfl ?_) | ((with_reducible show rNe _ _ _ _); refine AU.ne_ rfl ?_) | ((with_reducible show tTest _ _ _ _); refine AU.test_ ?_) | ((with_reducible show tB _ _ _ _); refine AU.b_ ?_) | ((with_reducible show tAnd _ _ _ _ _); refine AU.and_ ?_) | ((with_reducible show tOr _ _ _ _ _); refine AU.or_ ?_) | ((with_reducible show tNot _ _ _ _); refine AU.not_ ?_) | ((with_reducible show tAndV _ _ _ _ _); refine AU.andV_ ?_) | ((with_reducible show tOrV _ _ _ _ _); refine AU.orV_ ?_) | ((with_reducible show tNotV _ _ _ _); refine AU.notV_ ?_) | ((with_reducible show tIf _ _ _ _ _ _); refine AU.if_ ?_) | ((with_reducible show tNil _ _ _); refine AU.nil_ ?_) | ((with_reducible show tCons _ _ _ _ _); refine AU.cons_ ?_) | ((with_reducible show tLst _ _ _ _); refine AU.lst_ ?_) | ((with_reducible show tTup _ _ _ _); refine AU.tup_ ?_) | ((with_reducible show tCall _ _ _ _ _ _ _); refine AU.call_ ?_) | ((with_reducible show tCallS _ _ _ _ _ _); refine AU.callS_ ?_) | ((with_reducible show tCB _ _ _ _ _); refine AU.cb_ ?_) | ((with_reducible show tBM _ _ _ _ _ _ _ _); refine AU.bm_ ?_) | ((with_reducible show rIxL _ _ _ _ _); refine AU.ixL_ (by walk_at "sl") (by first | assumption | rfl) ?_) | ((with_reducible show rIxT _ _ _ _ _); refine AU.ixT_ (by walk_at "tl") (by first | assumption | rfl) ?_) | ((with_reducible show Evl.rLenS _ _ _ _); first | refine AU.lenL_ (by walk_at "sl") ?_ | refine AU.lenT_ (by walk_at "tl") ?_) | ((with_reducible show rAppend (V.ref _) [_] _ _); refine AU.app_ (by walk_at "hl") (by walk_at "ll") ?_) | ((with_reducible show tyV _ _ (V.ref _) _ ∧ _); refine AU.tyl_ (by walk_at "sl") ?_) | ((with_reducible show rCat (V.ref _) (V.ref _) _ _); refine AU.cat_ (by walk_at "hl") (by walk_at "hl") (by walk_at "le") ?_) | ((with_reducible show tFor _ _ _ _ _ _); refine AU.for_ ?_) | ((with_reducible show tLc _ _ _ _ _ _ _ _); refine AU.lc_ ?_) | ((with_reducible show iRng1 _ _ _ _); refine AU.rng1_ ?_) | ((with_reducible show iList _ _ _ _ _); refine AU.list_ ?_) | ((with_reducible show iTup _ _ _ _ _); refine AU.itup_ ?_) | ((with_reducible show (∃ i, [V.bl _] = [V.int i] ∧ _) ∨ _); refine AU.intb_ ?_) | ((with_reducible show (∃ i, [V.int _] = [V.int i] ∧ _) ∨ _); refine AU.inti_ ?_) | ((with_reducible show tYes _ _ _); refine AU.yes_ ?_) | ((with_reducible show ∃ p ys, [V.ref _] = [V.ref p] ∧ (SqL _ _ p ys ∨ SqT _ _ p ys) ∧ _); first | refine AU.listof_ (by walk_at "sl") ?_ | refine AU.listofT_ (by walk_at "tl") ?_) | ((with_reducible show ∃ p ys, [V.ref _] = [V.ref p] ∧ ((SqL _ _ p ys ∧ _) ∨ (SqT _ _ p ys ∧ _))); first | refine AU.tupleof_ (by walk_at "sl") ?_ | refine AU.tupleofT_ (by walk_at "tl") ?_) | ((with_reducible show V.non = V.non ∧ _); refine ⟨rfl, ?_⟩) | ((with_reducible show OT.rIsX _ _ _ _ [V.ref _, _] _ _); refine OT.isX_ (by walk_at "hh") (by first | exact .own _ | exact .ty _) (by assumption) ?_) | ((with_reducible show OT.tFA _ _ _ _ _ _ _ _ _); refine OT.fA_ ?_) | ((with_reducible show OT.tCallE _ _ _ _ _ _ _ _); refine OT.callE_ ?_) | ((with_reducible show rIsi _ [_, _] _ _); refine OT.isi_ (by first | exact .own _ | exact .ty _) (by walk_at "tyx") (by first | assumption | exact kit_ty OT.kq_int_int | exact kit_ty OT.kq_int_bool | exact kit_ty OT.kq_bool_bool | exact kit_ty OT.kq_bool_int | exact kit_ty OT.kq_str_str | exact kit_ty OT.kq_tuple_tuple | exact kit_ty OT.kq_list_list | exact kit_ty OT.kq_list_tuple | exact kit_ty OT.kq_tuple_list | exact kit_ty OT.kq_list_int | exact kit_ty OT.kq_tuple_int | exact kit_ty OT.kq_list_bool | exact kit_ty OT.kq_tuple_bool | exact kit_ty OT.kq_str_int | exact kit_ty OT.kq_int_str | exact kit_ty OT.kq_int_list | exact kit_ty OT.kq_int_tuple | exact kit_ty OT.kq_bool_list | exact kit_ty OT.kq_bool_tuple) ?_) | ((with_reducible show ∃ k, V.bl _ = V.bl k ∧ _); refine AU.bool_ ?_) | ((with_reducible show tSl _ _ _ _ _ _ _); refine AU.sl_ ?_) | ((with_reducible show tNoPart _ _ _); refine AU.npart_ ?_) | ((with_reducible show tPart _ _ _ _); refine AU.part_ ?_) | ((with_reducible show ∃ k, V.int _ = V.int k ∧ rSlL _ _ _ (some k) _ _); refine AU.int1_ ?_) | ((with_reducible show rSlL _ (V.ref _) _ _ _ _); refine AU.slL_ (by walk_at "sl") ?_) | ((with_reducible refine AU.trueT ?_)) | ((with_reducible refine AU.refNon ?_)) | ((with_reducible refine AU.nonNon ?_)) | ((with_reducible refine AU.trueN ?_)) | ((with_reducible refine AU.falseN ?_)) | ((with_reducible refine AU.falseF ?_)) | fail)
local macro_rules | `(tactic| walk_at "st") => `(tactic| repeat walk_at "st1")
theorem pl_one {p : Pl} (h : p.length = 1) : ∃ q, p = [q] := by
  match p, h with
  | [q], _ => exact ⟨q, rfl⟩
theorem mix1 (es : List Ent) : mixL ((dims [es]).filter nz) = false := by
  show mixL ([((dimE es : Nat) : Int)].filter nz) = false
  cases h : nz ((dimE es : Nat) : Int) with
  | true =>
    rw [List.filter_cons, if_pos h]
    simp [mixL]
  | false =>
    rw [List.filter_cons, if_neg (by rw [h]; decide)]
    rfl
section
variable {P : Program} {w : World} {K : PySem.W.Frag} {mg : Str → Option Value} {base : Heap}
def spComb (K : PySem.W.Frag) (O : Addr) : Sp := fun vs H Q E => ∃ (a : Addr) (xs : List V) (es : List Ent) (n : Nat), vs = [.ref a, .int (n : Int)] ∧ H a = some (.lst xs) ∧ Ents H xs es ∧ 1 ≤ n ∧ n ≤ 1000 ∧ es.length ≤ 1000 ∧
  (1 < dimE es → ∀ d H', Same H H' → H' d = some (.xd (errO (dimE es))) → E (.ref O) (some d) H') ∧
  ((∀ e ∈ es, e.1.length = 1) ∨ 1 < dimE es) ∧
  (dimE es ≤ 1 → ∀ p as H', FrL H H' p as (combS es n) → Q (.ref p) H')
theorem ok_comb {f fO O M : Addr} {fd fdO : FuncData} (D : C8.Def K mg "comb" s_comb f fd) (T : Bi mg) (DO : C8.Def K mg "one_direction" s_one_direction fO fdO) (bO : Binds K fdO ["rows"] []) (GO : FnOk P w K mg base (L2.CX P w) 5 fO fdO ["rows"] (spODs K O M)) : FnOk P w K mg base (L2.CX P w) 6 f fd ["row", "count"] (spComb K O) := by
  obtain ⟨oc, od, dV, kV, doc, pm, an, cdv, ct, osl, rfl, lk, hcd⟩ := D.fn.ex
  refine fn_of lk hcd sc_comb (fun vs H Q E h => ?_) fun A outer s H vs Q E hr h => ?_
  · obtain ⟨a, xs, es, n, rfl, _⟩ := h
    rfl
  · obtain ⟨a, xs, es, n, rfl, ha, hE, hn1, hn, hz, qE, hd, q⟩ := h
    refine ⟨_, (pss_cons (ps_expr (pe_callS GO hr rfl DO.mgf DO.kp bO (fun σ => passAt (takes_of rfl rfl rfl rfl) σ) (pa_cons (pe_lst (pa_cons (pv 0) pa_nil)) pa_nil)))
  (pss_cons (ps_setLc (i := 2) (own := [("index", 5)]) (g := (gName 5)) (tt := tYes) rfl sc_comb.nd rfl rfl (sw_true rfl rfl rfl rfl) (pi_range1 rfl T.n_range (pa_cons (pv 1) pa_nil)) (blkOk_by (N := ["row", "count", "rows", "place", "number", "index"]) (sc := C8.fnScope s_comb) (by decide +kernel)) (fun _ _ _ _ _ => (pg_name (i := 5) sc_comb.nd rfl (Or.inl rfl))) (fun _ _ _ _ _ => pts_nil) (fun _ _ _ _ _ => (pe_lst pa_nil)))
  (pss_cons (ps_for (passes_of rfl) rfl (pi_list (pv 0)) (pg_tup rfl (pgs_cons (pg_name (i := 3) sc_comb.nd rfl (Or.inl rfl)) (pgs_cons (pg_name (i := 4) sc_comb.nd rfl (Or.inl rfl)) pgs_nil))) (pss_one (ps_expr (pe_bm PySem.F.plainAttrs_list PySem.F.slot_list_append PySem.F.type_list_append mt_append (pe_ix ix_list (pv 2) (pe_op op_mod (pe_ix ix_tup (pv 3) pe_int (fun _ _ => rfl)) (pv 1)) (fun _ _ => rfl)) (pa_cons (pe_tup (pa_cons (pe_tup (pa_cons (pe_op op_fdiv (pe_ix ix_tup (pv 3) pe_int (fun _ _ => rfl)) (pv 1)) pa_nil)) (pa_cons (pv 4) pa_nil))) pa_nil)))))
  (pss_one (ps_ret (pv 2)))))), ?_⟩
    walk_at "st"
    refine ⟨by walk_at "sz", fun l1 nl1 => ?_⟩; generalize eH1 : upd _ l1 _ = H1; have s1 := AU.newS nl1 eH1; have hl1 := AU.newH eH1; clear eH1
    walk_at "st"
    refine ⟨l1, [.ref a], [es], rfl, AU.sqL hl1, .cons (s1 _ _ ha) (hE.mono s1) .nil, (by show 1 ≤ 1000; decide), fun hm => ?_, fun _ e he h1 d H2 s2 hdd => ?_, fun _ hle H2 s2 => ?_⟩
    · rw [mix1] at hm
      cases hm
    · cases List.mem_singleton.mp he
      exact qE h1 d H2 (s1.trans s2) hdd
    have hle : dimE es ≤ 1 := hle es List.mem_cons_self
    have q := q hle
    have hd1 : ∀ e ∈ es, e.1.length = 1 := hd.resolve_right (by omega)
    have s02 := s1.trans s2
    have ha2 := s02 _ _ ha
    have hE2 := hE.mono s02
    clear s1 s2 hl1 nl1 qE
    walk_at "st"
    refine ⟨_, rfl, by omega, by omega, fun D1 nD1 => ?_⟩
    rw [Int.toNat_natCast]
    refine lc_range (lo := 0) (n := n) (fun i G => ∃ as : List Addr, FrL H2 G D1 as (List.replicate i [])) ⟨[], FrL.start nD1⟩ ?_ ?_
    · rintro i G hi ⟨as, hF⟩
      walk_at "st"
      refine ⟨rfl, ?_⟩
      walk_at "st"
      refine ⟨Nat.zero_le _, fun q1 nq1 => ?_⟩
      have sq1 : Same G (upd G q1 (.lst [])) := same_upd nq1
      have hl := hF.l
      rw [List.length_replicate] at hl
      refine ⟨_, sq1 _ _ hF.hp, by rw [List.length_map]; exact small1000 (by omega), as ++ [q1], ?_⟩
      rw [List.replicate_succ']
      exact hF.push nq1
    rintro G ⟨as, hF⟩
    walk_at "st"
    have hxl := hE2.len
    refine ⟨a, rfl, ⟨_, AU.sqL (hF.s _ _ ha2)⟩, ?_⟩
    refine for_list (K := K) (xs := xs) (fun i σ G => ∃ y3 y4 : Option V, σ = [some (.ref a), some (.int (n : Int)), some (.ref D1), y3, y4, none] ∧ FrL H2 G D1 as (combS (es.take i) n)) ⟨none, none, rfl, by rw [List.take_zero, combS_nil]; exact hF⟩ ?_ ?_ ?_
    · rintro i σ G _ ⟨_, _, _, h⟩
      exact AU.sqL (h.s _ _ ha2)
    · rintro i x σ G hx ⟨y3, y4, rfl, hF⟩
      obtain ⟨e, he, t, pe, rfl, ht, hpe⟩ := (hE2.mono hF.s).get hx
      obtain ⟨k, hk⟩ := pl_one (hd1 e (List.mem_of_getElem? he))
      rw [hk] at hpe
      have at0 : atI (([k] : List Int).map V.int) 0 = some (.int k) := AU.atN (j := 0) rfl rfl
      refine ⟨t, _, rfl, .inl (.inl ht), rfl, _, _, rfl, _, _, rfl, rfl, ?_⟩
      have n0 : (0 : Int) < (n : Int) := by omega
      have e0 : k % (n : Int) = ((k % (n : Int)).toNat : Int) := by have := Int.emod_nonneg k (show (n : Int) ≠ 0 by omega); omega
      have e1 : (k % (n : Int)).toNat < n := by have := Int.emod_lt_of_pos k n0; omega
      generalize hk0 : (k % (n : Int)).toNat = k0 at e0 e1
      have hl := hF.l
      rw [combS_len] at hl
      obtain ⟨b, hb⟩ : ∃ b, as[k0]? = some b := ⟨_, List.getElem?_eq_getElem (by omega)⟩
      have hcs := combS_at (es.take i) e1
      obtain ⟨bs, hbs, hbE⟩ := hF.rows k0 b _ hb hcs
      have hD := hF.hp
      have atb : atI (as.map V.ref) (k % (n : Int)) = some (.ref b) := AU.atN (j := k0) e0 (by rw [List.getElem?_map, hb]; rfl)
      have hbl := hbE.len
      have htl : (tooth (es.take i) n k0).length ≤ 1000 := by
        unfold tooth
        rw [List.length_map]
        refine Nat.le_trans (List.length_filter_le _ _) ?_
        rw [List.length_take]
        omega
      walk_at "st"
      refine ⟨by walk_at "sz", fun t3 nt3 => ?_⟩; generalize eH3 : upd _ t3 _ = H3; have s3 := AU.newS nt3 eH3; have ht3 := AU.newH eH3; clear eH3
      walk_at "st"
      refine ⟨by walk_at "sz", fun t4 nt4 => ?_⟩; generalize eH4 : upd _ t4 _ = H4; have s4 := AU.newS nt4 eH4; have ht4 := AU.newH eH4; clear eH4
      walk_at "st"
      have hv : EntAt H4 (.ref t4) ([k / (n : Int)], e.2) := ⟨t4, t3, rfl, ht4, s4 _ _ ht3⟩
      have s34 := s3.trans s4
      refine ⟨_, _, rfl, ?_⟩
      have hN := (hF.mono s34).app hb hcs (s34 _ _ hbs) (hbE.mono s34) hv
      rw [List.take_add_one, he]
      have hh : e.1.headD 0 = k := by rw [hk]; rfl
      have hcn := combS_snoc (es := es.take i) (e := e) (n := n) (k := k0) (by rw [hh]; exact e0) e1
      rw [hh] at hcn
      show FrL H2 _ D1 as (combS (es.take i ++ [e]) n)
      rw [hcn]
      exact hN
    · rintro σ G ⟨y3, y4, rfl, hF⟩
      rw [hxl, List.take_length] at hF
      walk_at "st"
      exact q D1 as G { hF with s := s02.trans hF.s, np := AU.back s02 hF.np, na := fun a ha => AU.back s02 (hF.na a ha) }
end
end OT

set_option Elab.async false
set_option linter.all false
set_option maxRecDepth 100000
set_option maxHeartbeats 4000000
namespace OT
open PySem PySem.Spec PyProof.Rows L2
local macro_rules | `(tactic| walk_at "sm") => `(tactic| first | assumption | ((with_reducible show Same _ (upd _ _ _)); (refine' AU.mutS ?s ?h; (case h => assumption); (case s => walk_at "sm"))) | fail)
local macro_rules | `(tactic| walk_at "le") => `(tactic| first | (refine Nat.le_of_lt (AU.line ?_); (try simp only [List.length_append, List.length_map, List.length_cons, List.length_nil, List.length_take, List.length_replicate]); omega) | fail)
local macro_rules | `(tactic| walk_at "ll") => `(tactic| first | (show 0 < sizeLine; decide) | (show 1 < sizeLine; decide) | (show 2 < sizeLine; decide) | (show 3 < sizeLine; decide) | (refine AU.line ?_; (try simp only [List.length_append, List.length_map, List.length_cons, List.length_nil, List.length_take, List.length_replicate]); omega) | fail)
local macro_rules | `(tactic| walk_at "hl") => `(tactic| first | assumption | exact upd_same | (refine' AU.climb ?s ?h; (case s => walk_at "sm"); (case h => walk_at "hl")) | fail)
local macro_rules | `(tactic| walk_at "sl") => `(tactic| first | assumption | (refine' AU.sqL ?h; (case h => walk_at "hl")) | (refine' AU.sqLS ?s ?h; (case s => walk_at "sm"); (case h => walk_at "sl")) | fail)
local macro_rules | `(tactic| walk_at "tl") => `(tactic| first | assumption | (refine' AU.sqT ?h; (case h => walk_at "hl")) | (refine' AU.sqTS ?s ?h; (case s => walk_at "sm"); (case h => walk_at "tl")) | fail)
local macro_rules | `(tactic| walk_at "sz") => `(tactic| first | (show 0 ≤ sizeLine; decide) | (show 1 ≤ sizeLine; decide) | (show 2 ≤ sizeLine; decide) | (show 3 ≤ sizeLine; decide) | (show 4 ≤ sizeLine; decide) | (show 5 ≤ sizeLine; decide) | (show 6 ≤ sizeLine; decide) | (show 7 ≤ sizeLine; decide) | (show 8 ≤ sizeLine; decide) | (show 9 ≤ sizeLine; decide) | (show 10 ≤ sizeLine; decide) | fail)
local macro_rules | `(tactic| walk_at "ci") => `(tactic| first | exact trivial | omega | (show (0 : Int) < _; omega) | (show CMul _ _; exact .inl ⟨by omega, by omega⟩) | (show CMul _ _; exact .inr ⟨by omega, by omega⟩) | (show CMul _ _; exact .inr (AU.b01 _)) | (show CMul _ _; exact .inl (AU.b01 _)) | (show CDiv _ _; exact ⟨by omega, by omega⟩) | (show _ ≠ (0 : Int); omega) | (show CDiv _ _; exact ⟨by decide, by decide⟩) | fail)
local macro_rules | `(tactic| walk_at "hh") => `(tactic| first | assumption | (refine' OT.HeldF.mono ?s ?h; (case s => walk_at "sm"); (case h => walk_at "hh")) | fail)
local macro_rules | `(tactic| walk_at "tyx") => `(tactic| first | exact .base (.int _) | exact .base (.bl _) | exact .base (.str _) | exact .base (.lst (by walk_at "hl")) | exact .base (.tup (by walk_at "hl")) | fail)
local macro_rules | `(tactic| walk_at "st1") => `(tactic| first | ((with_reducible show tSeq _ _ _ _ _); (try simp only [List.set_cons_zero, List.set_cons_succ]); refine AU.seq_ ?_) | ((with_reducible show tAsg _ _ _ _ _); refine AU.asg_ ?_) | ((with_reducible show gName _ _ _ _ _); refine AU.name_ ?_) | ((with_reducible show tDrop _ _ _ _); refine AU.drop_ ?_) | ((with_reducible show tRet _ _ _ _); refine AU.ret_ ?_) | ((with_reducible show tRetN _ _ _); refine AU.retN_ ?_) | ((with_reducible show tNext _ _ _); refine AU.next_ ?_) | ((with_reducible show tBreak _ _ _); refine AU.brk_ ?_) | ((with_reducible show tCont _ _ _); refine AU.cont_ ?_) | ((with_reducible show tIfS _ _ _ _ _ _); refine AU.ifs_ ?_) | ((with_reducible show tAug _ _ _ _ _ _); refine AU.aug_ rfl ?_) | ((with_reducible show Ends.nx (Ends.mk _ _ _ _) _ _); refine AU.nxm ?_) | ((with_reducible show Ends.rt (Ends.mk _ _ _ _) _ _); refine AU.rtm ?_) | ((with_reducible show Ends.bk (Ends.mk _ _ _ _) _ _); refine AU.bkm ?_) | ((with_reducible show Ends.ct (Ends.mk _ _ _ _) _ _); refine AU.ctm ?_) | ((with_reducible show tVar _ _ _ _); refine AU.var_ rfl ?_) | ((with_reducible show tC _ _ _ _); refine AU.c_ ?_) | ((with_reducible show tOp _ _ _ _ _ _); refine AU.op_ ?_) | ((with_reducible show tUn _ _ _ _ _); refine AU.un_ ?_) | ((with_reducible show rU _ _ _ _); refine AU.u_ ?_) | ((with_reducible show rI0 _ _ _ _ _); refine AU.i0_ ?_) | ((with_reducible show rI _ _ _ _ _ _); refine AU.i_ (by walk_at "ci") ?_) | ((with_reducible show rEq (V.int _) (V.int _) _ _); first | (with_reducible refine AU.eqr_ ?_) | refine AU.eqi_ ?_) | ((with_reducible show rEq (V.str _) (V.str _) _ _); (with_reducible refine AU.eqs_ ?_)) | ((with_reducible show rNe (V.int _) (V.int _) _ _); refine AU.nei_ ?_) | ((with_reducible show rEq _ _ _ _); refine AU.eq_ rfl ?_) | ((with_reducible show rNe _ _ _ _); refine AU.ne_ rfl ?_) | ((with_reducible show tTest _ _ _ _); refine AU.test_ ?_) | ((with_reducible show tB _ _ _ _); refine AU.b_ ?_) | ((with_reducible show tAnd _ _ _ _ _); refine AU.and_ ?_) | ((with_reducible show tOr _ _ _ _ _); refine AU.or_ ?_) | ((with_reducible show tNot _ _ _ _); refine AU.not_ ?_) | ((with_reducible show tAndV _ _ _ _ _); refine AU.andV_ ?_) | ((with_reducible show tOrV _ _ _ _ _); refine AU.orV_ ?_) | ((with_reducible show tNotV _ _ _ _); refine AU.notV_ ?_) | ((with_reducible show tIf _ _ _ _ _ _); refine AU.if_ ?_) | ((with_reducible show tNil _ _ _); refine AU.nil_ ?_) | ((with_reducible show tCons _ _ _ _ _); refine AU.cons_ ?_) | ((with_reducible show tLst _ _ _ _); refine AU.lst_ ?_) | ((with_reducible show tTup _ _ _ _); refine AU.tup_ ?_) | ((with_reducible show tCall _ _ _ _ _ _ _); refine AU.call_ ?_) | ((with_reducible show tCallS _ _ _ _ _ _); refine AU.callS_ ?_) | ((with_reducible show tCB _ _ _ _ _); refine AU.cb_ ?_) | ((with_reducible show tBM _ _ _ _ _ _ _ _); refine AU.bm_ ?_) | ((with_reducible show rIxL _ _ _ _ _); refine AU.ixL_ (by walk_at "sl") (by first | assumption | rfl) ?_) | ((with_reducible show rIxT _ _ _ _ _); refine AU.ixT_ (by walk_at "tl") (by first | assumption | rfl) ?_) | ((with_reducible show Evl.rLenS _ _ _ _); first | refine AU.lenL_ (by walk_at "sl") ?_ | refine AU.lenT_ (by walk_at "tl") ?_) | ((with_reducible show rAppend (V.ref _) [_] _ _); refine AU.app_ (by walk_at "hl") (by walk_at "ll") ?_) | ((with_reducible show tyV _ _ (V.ref _) _ ∧ _); refine AU.tyl_ (by walk_at "sl") ?_) | ((with_reducible show rCat (V.ref _) (V.ref _) _ _); refine AU.cat_ (by walk_at "hl") (by walk_at "hl") (by walk_at "le") ?_) | ((with_reducible show tFor _ _ _ _ _ _); refine AU.for_ ?_) | ((with_reducible show tLc _ _ _ _ _ _ _ _); refine AU.lc_ ?_) | ((with_reducible show iRng1 _ _ _ _); refine AU.rng1_ ?_) | ((with_reducible show iList _ _ _ _ _); refine AU.list_ ?_) | ((with_reducible show iTup _ _ _ _ _); refine AU.itup_ ?_) | ((with_reducible show (∃ i, [V.bl _] = [V.int i] ∧ _) ∨ _); refine AU.intb_ ?_) | ((with_reducible show (∃ i, [V.int _] = [V.int i] ∧ _) ∨ _); refine AU.inti_ ?_) | ((with_reducible show tYes _ _ _); refine AU.yes_ ?_) | ((with_reducible show ∃ p ys, [V.ref _] = [V.ref p] ∧ (SqL _ _ p ys ∨ SqT _ _ p ys) ∧ _); first | refine AU.listof_ (by walk_at "sl") ?_ | refine AU.listofT_ (by walk_at "tl") ?_) | ((with_reducible show ∃ p ys, [V.ref _] = [V.ref p] ∧ ((SqL _ _ p ys ∧ _) ∨ (SqT _ _ p ys ∧ _))); first | refine AU.tupleof_ (by walk_at "sl") ?_ | refine AU.tupleofT_ (by walk_at "tl") ?_) | ((with_reducible show V.non = V.non ∧ _); refine ⟨rfl, ?_⟩) | ((with_reducible show OT.rIsX _ _ _ _ [V.ref _, _] _ _); refine OT.isX_ (by walk_at "hh") (by first | exact .own _ | exact .ty _) (by assumption) ?_) | ((with_reducible show OT.tFA _ _ _ _ _ _ _ _ _); refine OT.fA_ ?_) | ((with_reducible show OT.tCallE _ _ _ _ _ _ _ _); refine OT.callE_ ?_) | ((with_reducible show rIsi _ [_, _] _ _); refine OT.isi_ (by first | exact .own _ | exact .ty _) (by walk_at "tyx") (by first | assumption | exact kit_ty OT.kq_int_int | exact kit_ty OT.kq_int_bool | exact kit_ty OT.kq_bool_bool | exact kit_ty OT.kq_bool_int | exact kit_ty OT.kq_str_str | exact kit_ty OT.kq_tuple_tuple | exact kit_ty OT.kq_list_list | exact kit_ty OT.kq_list_tuple | exact kit_ty OT.kq_tuple_list | exact kit_ty OT.kq_list_int | exact kit_ty OT.kq_tuple_int | exact kit_ty OT.kq_list_bool | exact kit_ty OT.kq_tuple_bool | exact kit_ty OT.kq_str_int | exact kit_ty OT.kq_int_str | exact kit_ty OT.kq_int_list | exact kit_ty OT.kq_int_tuple | exact kit_ty OT.kq_bool_list | exact kit_ty OT.kq_bool_tuple) ?_) | ((with_reducible show ∃ k, V.bl _ = V.bl k ∧ _); refine AU.bool_ ?_) | ((with_reducible show tSl _ _ _ _ _ _ _); refine AU.sl_ ?_) | ((with_reducible show tNoPart _ _ _); refine AU.npart_ ?_) | ((with_reducible show tPart _ _ _ _); refine AU.part_ ?_) | ((with_reducible show ∃ k, V.int _ = V.int k ∧ rSlL _ _ _ (some k) _ _); refine AU.int1_ ?_) | ((with_reducible show rSlL _ (V.ref _) _ _ _ _); refine AU.slL_ (by walk_at "sl") ?_) | ((with_reducible refine AU.trueT ?_)) | ((with_reducible refine AU.refNon ?_)) | ((with_reducible refine AU.nonNon ?_)) | ((with_reducible refine AU.trueN ?_)) | ((with_reducible refine AU.falseN ?_)) | ((with_reducible refine AU.falseF ?_)) | fail)
local macro_rules | `(tactic| walk_at "st") => `(tactic| repeat walk_at "st1")
def weave (n i : Nat) (es : List Ent) : List Ent := es.map fun e => ([(n : Int) * e.1.headD 0 + (i : Int)], e.2)
def wL (n : Nat) : Nat → List (List Ent) → List Ent
  | _, [] => []
  | i, es :: r => weave n i es ++ wL n (i + 1) r
theorem wL_snoc (n : Nat) (es : List Ent) : ∀ (ess : List (List Ent)) (i : Nat), wL n i (ess ++ [es]) = wL n i ess ++ weave n (i + ess.length) es
  | [], i => by
    show weave n i es ++ [] = [] ++ weave n (i + 0) es
    rw [List.append_nil, List.nil_append, Nat.add_zero]
  | f :: r, i => by
    show weave n i f ++ wL n (i + 1) (r ++ [es]) = weave n i f ++ wL n (i + 1) r ++ weave n (i + (r.length + 1)) es
    rw [wL_snoc n es r (i + 1), List.append_assoc, show i + 1 + r.length = i + (r.length + 1) by omega]
theorem wL_mem {n : Nat} {e : Ent} : ∀ {ess : List (List Ent)} {i : Nat}, e ∈ wL n i ess → ∃ (k : Nat) (y : Int), i ≤ k ∧ k < i + ess.length ∧ e.1 = [(n : Int) * y + (k : Int)]
  | [], i, h => by cases h
  | f :: r, i, h => by
    rcases List.mem_append.mp h with h | h
    · obtain ⟨g, _, rfl⟩ := List.mem_map.mp h
      exact ⟨i, g.1.headD 0, Nat.le_refl _, by rw [List.length_cons]; omega, rfl⟩
    · obtain ⟨k, y, h1, h2, h3⟩ := wL_mem h
      exact ⟨k, y, by omega, by rw [List.length_cons]; omega, h3⟩
theorem wL_le (n : Nat) : ∀ (ess : List (List Ent)) (i j : Nat), (wL n i (ess.take j)).length ≤ (wL n i ess).length
  | [], i, j => by rw [List.take_nil]; exact Nat.le_refl _
  | f :: r, i, 0 => Nat.zero_le _
  | f :: r, i, j + 1 => by
    have := wL_le n r (i + 1) j
    show (weave n i f ++ wL n (i + 1) (r.take j)).length ≤ (weave n i f ++ wL n (i + 1) r).length
    rw [List.length_append, List.length_append]
    omega
theorem res_eq {n i k : Nat} {x y : Int} (hi : i < n) (hk : k < n) (h : (n : Int) * y + (k : Int) = (n : Int) * x + (i : Int)) : k = i ∧ y = x := by
  have h1 : ((n : Int) * y + (k : Int)) % (n : Int) = (k : Int) := by rw [Int.add_comm, Int.add_mul_emod_self_left]; exact Int.emod_eq_of_lt (by omega) (by omega)
  have h2 : ((n : Int) * x + (i : Int)) % (n : Int) = (i : Int) := by rw [Int.add_comm, Int.add_mul_emod_self_left]; exact Int.emod_eq_of_lt (by omega) (by omega)
  rw [h, h2] at h1
  have h3 : k = i := by omega
  subst h3
  have h4 : (n : Int) * y = (n : Int) * x := by omega
  exact ⟨rfl, Int.eq_of_mul_eq_mul_left (show (n : Int) ≠ 0 by omega) h4⟩
theorem Sums.new {kvs : List (List Key × V)} {A : List Ent} {e : Ent} (h : Sums kvs (A.map (·.1)) (numAt A)) (hn : e.1 ∉ A.map (·.1)) : Sums (putK kvs (e.1.map Sum.inl) (.int e.2)) ((A ++ [e]).map (·.1)) (numAt (A ++ [e])) := by
  have hi : (A ++ [e])[A.length]? = some e := by
    rw [List.getElem?_append_right (Nat.le_refl _), Nat.sub_self]
    rfl
  have ht : (A ++ [e]).take A.length = A := by rw [List.take_append_of_le_length (Nat.le_refl _), List.take_length]
  have ht2 : (A ++ [e]).take (A.length + 1) = A ++ [e] := List.take_of_length_le (by rw [List.length_append]; exact Nat.le_refl _)
  have h2 : Sums kvs (A.map (·.1)) (numAt ((A ++ [e]).take A.length)) := by rw [ht]; exact h
  have h3 := h2.next hi
  rw [if_neg hn, ht, h.out _ hn, Int.zero_add, ht2] at h3
  rw [List.map_append]
  exact h3
section
variable {P : Program} {w : World} {K : PySem.W.Frag} {mg : Str → Option Value} {base : Heap}
def spUncomb (K : PySem.W.Frag) (O M : Addr) : Sp := fun vs H Q E => ∃ (a : Addr) (us : List V) (ess : List (List Ent)), vs = [.ref a] ∧ SqL K H a us ∧ RowsAt H us ess ∧ ess.length ≤ 1000 ∧ (wL ess.length 0 ess).length ≤ 100000 ∧ (∀ es ∈ ess, Valid es) ∧
  (mixL ((dims ess).filter nz) = true → ∀ d H', Same H H' → H' d = some (.xd errM) → E (.ref M) (some d) H') ∧
  (mixL ((dims ess).filter nz) = false → ∀ es ∈ ess, 1 < dimE es → ∀ d H', Same H H' → H' d = some (.xd (errO (dimE es))) → E (.ref O) (some d) H') ∧
  (mixL ((dims ess).filter nz) = false → (∀ es ∈ ess, dimE es ≤ 1) → (∀ es ∈ ess, ∀ e ∈ es, e.1.length = 1) ∧ wantRow H (wL ess.length 0 ess) Q)
theorem ok_uncomb {f fO O M : Addr} {fd fdO : FuncData} (D : C8.Def K mg "uncomb" s_uncomb f fd) (T : Bi mg) (DO : C8.Def K mg "one_direction" s_one_direction fO fdO) (bO : Binds K fdO ["rows"] []) (GO : FnOk P w K mg base (L2.CX P w) 5 fO fdO ["rows"] (spODs K O M))
    (c_row_of : C8.Cal P w K mg base 1 "row_of" (spRowOf K) []) : FnOk P w K mg base (L2.CX P w) 6 f fd ["rows"] (spUncomb K O M) := by
  obtain ⟨oc, od, dV, kV, doc, pm, an, cdv, ct, osl, rfl, lk, hcd⟩ := D.fn.ex
  refine fn_of lk hcd sc_uncomb (fun vs H Q E h => ?_) fun A outer s H vs Q E hr h => ?_
  · obtain ⟨a, us, ess, rfl, _⟩ := h
    rfl
  · obtain ⟨a, us, ess, rfl, ha, hR, hz, hw, hv, qM, qO, q⟩ := h
    refine ⟨_, (pss_cons (ps_expr (pe_callS GO hr rfl DO.mgf DO.kp bO (fun σ => passAt (takes_of rfl rfl rfl rfl) σ) (pa_cons (pv 0) pa_nil)))
  (pss_cons (ps_set (i := 1) sc_uncomb.nd rfl (Or.inl rfl) (pe_callB call_len_seq (by rfl) T.n_len OT.b_len (pa_cons (pv 0) pa_nil)))
  (pss_cons (ps_set (i := 2) sc_uncomb.nd rfl (Or.inl rfl) pe_dnewT)
  (pss_cons (ps_for (passes_of rfl) rfl (pi_enum (by rfl) T.n_enumerate (pa_cons (pv 0) pa_nil)) (pg_tup rfl (pgs_cons (pg_name (i := 3) sc_uncomb.nd rfl (Or.inl rfl)) (pgs_cons (pg_name (i := 4) sc_uncomb.nd rfl (Or.inl rfl)) pgs_nil))) (pss_one (ps_for (passes_of rfl) rfl (pi_list (pv 4)) (pg_tup rfl (pgs_cons (pg_name (i := 5) sc_uncomb.nd rfl (Or.inl rfl)) (pgs_cons (pg_name (i := 6) sc_uncomb.nd rfl (Or.inl rfl)) pgs_nil))) (pss_one (ps_dput (hu_of hr) (pv 2) (pe_tup (pa_cons (pe_op op_add (pe_op op_mul (pv 1) (pe_ix ix_tup (pv 5) pe_int (fun _ _ => rfl))) (pv 3)) pa_nil)) (pv 6) rfl)))))
  (pss_one (ps_ret (C8.pe_c c_row_of hr (by decide) (by rfl) (pa_cons (pv 2) pa_nil)))))))), ?_⟩
    have hul := hR.len
    walk_at "st"
    refine ⟨a, us, ess, rfl, ha, hR, hz, qM, qO, fun hm hle H2 s2 => ?_⟩
    obtain ⟨hd1, q⟩ := q hm hle
    clear qM qO
    have ha2 := s2.seq ha
    have hR2 := hR.mono s2
    have q := wantRow.mono s2 q
    clear s2 ha hR
    walk_at "st"
    rw [hul]
    refine fun D nD => ?_
    have sD : Same H2 (upd H2 D (.dT [])) := same_upd nD
    have hD0 : (upd H2 D (.dT [])) D = some (.dT []) := upd_same
    generalize upd H2 D (.dT []) = G0 at sD hD0 ⊢
    refine ⟨_, rfl, a, us, rfl, sD.seq ha2, ?_⟩
    refine for_it (walk_enum (xs := us)) (fun i σ F => ∃ y3 y4 y5 y6 : Option V, σ = [some (.ref a), some (.int (ess.length : Int)), some (.ref D), y3, y4, y5, y6] ∧ Same H2 F ∧ ∃ kvs, F D = some (.dT kvs) ∧ Sums kvs ((wL ess.length 0 (ess.take i)).map (·.1)) (numAt (wL ess.length 0 (ess.take i)))) ⟨none, none, none, none, rfl, sD, [], hD0, Sums.nil⟩ ?_ ?_ ?_
    · rintro i σ F _ ⟨_, _, _, _, _, sm, _⟩
      exact sm.seq ha2
    · rintro i x σ F F2 hi ⟨y3, y4, y5, y6, rfl, sm, kvs, hDF, hs⟩ ⟨t, x1, x2, rfl, nt, rfl, e1, e2⟩
      cases e1
      have smt : Same F (upd F t (.tup [.int (i : Nat), x2])) := same_upd nt
      have ht : (upd F t (.tup [.int (i : Nat), x2])) t = some (.tup [.int (i : Nat), x2]) := upd_same
      generalize upd F t (.tup [.int (i : Nat), x2]) = F2 at smt ht ⊢
      have sm2 := sm.trans smt
      obtain ⟨r, xs, es, rfl, hes, hr0, hE⟩ := hR2.get e2
      have hem : es ∈ ess := List.mem_of_getElem? hes
      have hil : i < ess.length := (List.getElem?_eq_some_iff.mp hes).1
      have htl : (ess.take i).length = i := by rw [List.length_take]; omega
      have htk : ess.take (i + 1) = ess.take i ++ [es] := by rw [List.take_add_one, hes]; rfl
      have hwz := wL_le ess.length ess 0 (i + 1)
      rw [htk, wL_snoc, htl, Nat.zero_add, List.length_append] at hwz
      have hwe : (weave ess.length i es).length = es.length := List.length_map _
      have hDF2 := smt _ _ hDF
      refine ⟨t, _, rfl, .inl (.inl ht), rfl, _, _, rfl, _, _, rfl, rfl, ?_⟩
      refine ⟨_, rfl, r, rfl, ⟨_, AU.sqL (sm2 _ _ hr0)⟩, ?_⟩
      refine for_list (K := K) (xs := xs) (fun j σ G => ∃ y5 y6 : Option V, σ = [some (.ref a), some (.int (ess.length : Int)), some (.ref D), some (.int (i : Nat)), some (.ref r), y5, y6] ∧ Same H2 G ∧ ∃ kvs, G D = some (.dT kvs) ∧ Sums kvs ((wL ess.length 0 (ess.take i) ++ weave ess.length i (es.take j)).map (·.1)) (numAt (wL ess.length 0 (ess.take i) ++ weave ess.length i (es.take j)))) ⟨y5, y6, rfl, sm2, kvs, hDF2, by rw [List.take_zero]; show Sums kvs ((_ ++ []).map _) (numAt (_ ++ [])); rw [List.append_nil]; exact hs⟩ ?_ ?_ ?_
      · rintro j σ G _ ⟨_, _, _, sg, _⟩
        exact AU.sqL (sg _ _ hr0)
      · rintro j x σ G hx ⟨y5, y6, rfl, sg, kvs, hG, hsg⟩
        obtain ⟨e, he, t2, pe, rfl, ht2, hpe⟩ := (hE.mono sg).get hx
        obtain ⟨k, hk⟩ := pl_one (hd1 es hem e (List.mem_of_getElem? he))
        rw [hk] at hpe
        have hjl := (List.getElem?_eq_some_iff.mp he).1
        have at0 : atI (([k] : List Int).map V.int) 0 = some (.int k) := AU.atN (j := 0) rfl rfl
        have hhd : e.1.headD 0 = k := by rw [hk]; rfl
        have hnew : ([(ess.length : Int) * k + (i : Int)] : Pl) ∉ (wL ess.length 0 (ess.take i) ++ weave ess.length i (es.take j)).map (·.1) := fun z => by
          obtain ⟨g, hg, hgk⟩ := List.mem_map.mp z
          rcases List.mem_append.mp hg with hg | hg
          · obtain ⟨k2, y, _, h2, h3⟩ := wL_mem hg
            rw [htl] at h2
            have hgk' : g.1 = [(ess.length : Int) * k + (i : Int)] := hgk
            rw [h3] at hgk'
            have := (res_eq hil (by omega) (List.cons.inj hgk').1).1
            omega
          · obtain ⟨e3, he3, rfl⟩ := List.mem_map.mp hg
            have hgk' : ([(ess.length : Int) * e3.1.headD 0 + (i : Int)] : Pl) = [(ess.length : Int) * k + (i : Int)] := hgk
            have h4 := (res_eq hil hil (List.cons.inj hgk').1).2
            obtain ⟨k3, hk3⟩ := pl_one (hd1 es hem e3 (List.mem_of_mem_take he3))
            obtain ⟨m, hm, rfl⟩ := List.getElem_of_mem he3
            rw [List.length_take] at hm
            rw [List.getElem_take] at hk3 h4
            obtain ⟨_, rfl⟩ := List.getElem?_eq_some_iff.mp he
            have h5 := lt_ne (asc_get (hv es hem) (show m < es.length by omega) hjl (show m < j by omega))
            rw [hk3, hk] at h5
            rw [hk3] at h4
            have h6 : k3 = k := h4
            exact h5 (by rw [h6])
        have hnx := Sums.new (e := ([(ess.length : Int) * k + (i : Int)], e.2)) hsg hnew
        have hcm : CMul (ess.length : Int) k := .inl ⟨by have : (2 : Int) ^ 64 = 18446744073709551616 := by decide
                                                         omega, by have : (2 : Int) ^ 64 = 18446744073709551616 := by decide
                                                                   omega⟩
        have hkz := hsg.len
        rw [List.length_map, List.length_append] at hkz
        have hwj : (weave ess.length i (es.take j)).length ≤ es.length := by
          unfold weave
          rw [List.length_map, List.length_take]
          omega
        refine ⟨t2, _, rfl, .inl (.inl ht2), rfl, _, _, rfl, _, _, rfl, rfl, ?_⟩
        refine ⟨_, rfl, _, rfl, ?_⟩
        walk_at "st"
        refine ⟨by walk_at "sz", fun t3 nt3 => ?_⟩; generalize eG3 : upd _ t3 _ = G3; have s3 := AU.newS nt3 eG3; have ht3 := AU.newH eG3; clear eG3
        have hG3 := s3 _ _ hG
        refine ⟨D, _, rfl, DPut.t hG3 (k := ([(ess.length : Int) * k + (i : Int)] : Pl).map Sum.inl) (by rw [kV_ints]; exact ht3) ?_, ?_⟩
        · rw [hkz]
          exact small100k (by omega)
        refine ⟨_, _, rfl, same_mut (sg.trans s3) nD, _, upd_same, ?_⟩
        rw [take_snoc he]
        have hwv : weave ess.length i (es.take j ++ [e]) = weave ess.length i (es.take j) ++ [([(ess.length : Int) * k + (i : Int)], e.2)] := by
          unfold weave
          rw [List.map_append, ← hhd]
          rfl
        rw [hwv, ← List.append_assoc]
        exact hnx
      · rintro σ G ⟨y5, y6, rfl, sg, kvs, hG, hsg⟩
        rw [hE.len, List.take_length] at hsg
        refine ⟨_, _, _, _, rfl, sg, kvs, hG, ?_⟩
        rw [htk, wL_snoc, htl, Nat.zero_add]
        exact hsg
    · rintro σ F ⟨y3, y4, y5, y6, rfl, sm, kvs, hDF, hs⟩
      rw [hul, List.take_length] at hs
      walk_at "st"
      refine ⟨D, kvs, _, wL ess.length 0 ess, rfl, hDF, hs, fun k hk z => ?_, ?_, wantRow.mono sm q⟩
      · obtain ⟨g, hg, rfl⟩ := List.mem_map.mp hk
        obtain ⟨_, _, _, _, h3⟩ := wL_mem hg
        rw [z] at h3
        cases h3
      · rw [List.length_map]
        exact small100k hw
end
end OT

set_option Elab.async false
set_option linter.all false
set_option maxRecDepth 100000
set_option maxHeartbeats 4000000
namespace OT
open PySem PySem.Spec PyProof.Rows L2
local macro_rules | `(tactic| walk_at "sm") => `(tactic| first | assumption | ((with_reducible show Same _ (upd _ _ _)); (refine' AU.mutS ?s ?h; (case h => assumption); (case s => walk_at "sm"))) | fail)
local macro_rules | `(tactic| walk_at "le") => `(tactic| first | (refine Nat.le_of_lt (AU.line ?_); (try simp only [List.length_append, List.length_map, List.length_cons, List.length_nil, List.length_take, List.length_replicate]); omega) | fail)
local macro_rules | `(tactic| walk_at "ll") => `(tactic| first | (show 0 < sizeLine; decide) | (show 1 < sizeLine; decide) | (show 2 < sizeLine; decide) | (show 3 < sizeLine; decide) | (refine AU.line ?_; (try simp only [List.length_append, List.length_map, List.length_cons, List.length_nil, List.length_take, List.length_replicate]); omega) | fail)
local macro_rules | `(tactic| walk_at "hl") => `(tactic| first | assumption | exact upd_same | (refine' AU.climb ?s ?h; (case s => walk_at "sm"); (case h => walk_at "hl")) | fail)
local macro_rules | `(tactic| walk_at "sl") => `(tactic| first | assumption | (refine' AU.sqL ?h; (case h => walk_at "hl")) | (refine' AU.sqLS ?s ?h; (case s => walk_at "sm"); (case h => walk_at "sl")) | fail)
local macro_rules | `(tactic| walk_at "tl") => `(tactic| first | assumption | (refine' AU.sqT ?h; (case h => walk_at "hl")) | (refine' AU.sqTS ?s ?h; (case s => walk_at "sm"); (case h => walk_at "tl")) | fail)
local macro_rules | `(tactic| walk_at "sz") => `(tactic| first | (show 0 ≤ sizeLine; decide) | (show 1 ≤ sizeLine; decide) | (show 2 ≤ sizeLine; decide) | (show 3 ≤ sizeLine; decide) | (show 4 ≤ sizeLine; decide) | (show 5 ≤ sizeLine; decide) | (show 6 ≤ sizeLine; decide) | (show 7 ≤ sizeLine; decide) | (show 8 ≤ sizeLine; decide) | (show 9 ≤ sizeLine; decide) | (show 10 ≤ sizeLine; decide) | fail)
local macro_rules | `(tactic| walk_at "ci") => `(tactic| first | exact trivial | omega | (show (0 : Int) < _; omega) | (show CMul _ _; exact .inl ⟨by omega, by omega⟩) | (show CMul _ _; exact .inr ⟨by omega, by omega⟩) | (show CMul _ _; exact .inr (AU.b01 _)) | (show CMul _ _; exact .inl (AU.b01 _)) | (show CDiv _ _; exact ⟨by omega, by omega⟩) | (show _ ≠ (0 : Int); omega) | (show CDiv _ _; exact ⟨by decide, by decide⟩) | fail)
local macro_rules | `(tactic| walk_at "hh") => `(tactic| first | assumption | (refine' OT.HeldF.mono ?s ?h; (case s => walk_at "sm"); (case h => walk_at "hh")) | fail)
local macro_rules | `(tactic| walk_at "tyx") => `(tactic| first | exact .base (.int _) | exact .base (.bl _) | exact .base (.str _) | exact .base (.lst (by walk_at "hl")) | exact .base (.tup (by walk_at "hl")) | fail)
local macro_rules | `(tactic| walk_at "st1") => `(tactic| first | ((with_reducible show tSeq _ _ _ _ _); (try simp only [List.set_cons_zero, List.set_cons_succ]); refine AU.seq_ ?_) | ((with_reducible show tAsg _ _ _ _ _); refine AU.asg_ ?_) | ((with_reducible show gName _ _ _ _ _); refine AU.name_ ?_) | ((with_reducible show tDrop _ _ _ _); refine AU.drop_ ?_) | ((with_reducible show tRet _ _ _ _); refine AU.ret_ ?_) | ((with_reducible show tRetN _ _ _); refine AU.retN_ ?_) | ((with_reducible show tNext _ _ _); refine AU.next_ ?_) | ((with_reducible show tBreak _ _ _); refine AU.brk_ ?_) | ((with_reducible show tCont _ _ _); refine AU.cont_ ?_) | ((with_reducible show tIfS _ _ _ _ _ _); refine AU.ifs_ ?_) | ((with_reducible show tAug _ _ _ _ _ _); refine AU.aug_ rfl ?_) | ((with_reducible show Ends.nx (Ends.mk _ _ _ _) _ _); refine AU.nxm ?_) | ((with_reducible show Ends.rt (Ends.mk _ _ _ _) _ _); refine AU.rtm ?_) | ((with_reducible show Ends.bk (Ends.mk _ _ _ _) _ _); refine AU.bkm ?_) | ((with_reducible show Ends.ct (Ends.mk _ _ _ _) _ _); refine AU.ctm ?_) | ((with_reducible show tVar _ _ _ _); refine AU.var_ rfl ?_) | ((with_reducible show tC _ _ _ _); refine AU.c_ ?_) | ((with_reducible show tOp _ _ _ _ _ _); refine AU.op_ ?_) | ((with_reducible show tUn _ _ _ _ _); refine AU.un_ ?_) | ((with_reducible show rU _ _ _ _); refine AU.u_ ?_) | ((with_reducible show rI0 _ _ _ _ _); refine AU.i0_ ?_) | ((with_reducible show rI _ _ _ _ _ _); refine AU.i_ (by walk_at "ci") ?_) | ((with_reducible show rEq (V.int _) (V.int _) _ _); first | (with_reducible refine AU.eqr_ ?_) | refine AU.eqi_ ?_) | ((with_reducible show rEq (V.str _) (V.str _) _ _); (with_reducible refine AU.eqs_ ?_)) | ((with_reducible show rNe (V.int _) (V.int _) _ _); refine AU.nei_ ?_) | ((with_reducible show rEq _ _ _ _); refine AU.eq_ rfl ?_) | ((with_reducible show rNe _ _ _ _); refine AU.ne_ rfl ?_) | ((with_reducible show tTest _ _ _ _); refine AU.test_ ?_) | ((with_reducible show tB _ _ _ _); refine AU.b_ ?_) | ((with_reducible show tAnd _ _ _ _ _); refine AU.and_ ?_) | ((with_reducible show tOr _ _ _ _ _); refine AU.or_ ?_) | ((with_reducible show tNot _ _ _ _); refine AU.not_ ?_) | ((with_reducible show tAndV _ _ _ _ _); refine AU.andV_ ?_) | ((with_reducible show tOrV _ _ _ _ _); refine AU.orV_ ?_) | ((with_reducible show tNotV _ _ _ _); refine AU.notV_ ?_) | ((with_reducible show tIf _ _ _ _ _ _); refine AU.if_ ?_) | ((with_reducible show tNil _ _ _); refine AU.nil_ ?_) | ((with_reducible show tCons _ _ _ _ _); refine AU.cons_ ?_) | ((with_reducible show tLst _ _ _ _); refine AU.lst_ ?_) | ((with_reducible show tTup _ _ _ _); refine AU.tup_ ?_) | ((with_reducible show tCall _ _ _ _ _ _ _); refine AU.call_ ?_) | ((with_reducible show tCallS _ _ _ _ _ _); refine AU.callS_ ?_) | ((with_reducible show tCB _ _ _ _ _); refine AU.cb_ ?_) | ((with_reducible show tBM _ _ _ _ _ _ _ _); refine AU.bm_ ?_) | ((with_reducible show rIxL _ _ _ _ _); refine AU.ixL_ (by walk_at "sl") (by first | assumption | rfl) ?_) | ((with_reducible show rIxT _ _ _ _ _); refine AU.ixT_ (by walk_at "tl") (by first | assumption | rfl) ?_) | ((with_reducible show Evl.rLenS _ _ _ _); first | refine AU.lenL_ (by walk_at "sl") ?_ | refine AU.lenT_ (by walk_at "tl") ?_) | ((with_reducible show rAppend (V.ref _) [_] _ _); refine AU.app_ (by walk_at "hl") (by walk_at "ll") ?_) | ((with_reducible show tyV _ _ (V.ref _) _ ∧ _); refine AU.tyl_ (by walk_at "sl") ?_) | ((with_reducible show rCat (V.ref _) (V.ref _) _ _); refine AU.cat_ (by walk_at "hl") (by walk_at "hl") (by walk_at "le") ?_) | ((with_reducible show tFor _ _ _ _ _ _); refine AU.for_ ?_) | ((with_reducible show tLc _ _ _ _ _ _ _ _); refine AU.lc_ ?_) | ((with_reducible show iRng1 _ _ _ _); refine AU.rng1_ ?_) | ((with_reducible show iList _ _ _ _ _); refine AU.list_ ?_) | ((with_reducible show iTup _ _ _ _ _); refine AU.itup_ ?_) | ((with_reducible show (∃ i, [V.bl _] = [V.int i] ∧ _) ∨ _); refine AU.intb_ ?_) | ((with_reducible show (∃ i, [V.int _] = [V.int i] ∧ _) ∨ _); refine AU.inti_ ?_) | ((with_reducible show tYes _ _ _); refine AU.yes_ ?_) | ((with_reducible show ∃ p ys, [V.ref _] = [V.ref p] ∧ (SqL _ _ p ys ∨ SqT _ _ p ys) ∧ _); first | refine AU.listof_ (by walk_at "sl") ?_ | refine AU.listofT_ (by walk_at "tl") ?_) | ((with_reducible show ∃ p ys, [V.ref _] = [V.ref p] ∧ ((SqL _ _ p ys ∧ _) ∨ (SqT _ _ p ys ∧ _))); first | refine AU.tupleof_ (by walk_at "sl") ?_ | refine AU.tupleofT_ (by walk_at "tl") ?_) | ((with_reducible show V.non = V.non ∧ _); refine ⟨rfl, ?_⟩) | ((with_reducible show OT.rIsX _ _ _ _ [V.ref _, _] _ _); refine OT.isX_ (by walk_at "hh") (by first | exact .own _ | exact .ty _) (by assumption) ?_) | ((with_reducible show OT.tFA _ _ _ _ _ _ _ _ _); refine OT.fA_ ?_) | ((with_reducible show OT.tCallE _ _ _ _ _ _ _ _); refine OT.callE_ ?_) | ((with_reducible show rIsi _ [_, _] _ _); refine OT.isi_ (by first | exact .own _ | exact .ty _) (by walk_at "tyx") (by first | assumption | exact kit_ty OT.kq_int_int | exact kit_ty OT.kq_int_bool | exact kit_ty OT.kq_bool_bool | exact kit_ty OT.kq_bool_int | exact kit_ty OT.kq_str_str | exact kit_ty OT.kq_tuple_tuple | exact kit_ty OT.kq_list_list | exact kit_ty OT.kq_list_tuple | exact kit_ty OT.kq_tuple_list | exact kit_ty OT.kq_list_int | exact kit_ty OT.kq_tuple_int | exact kit_ty OT.kq_list_bool | exact kit_ty OT.kq_tuple_bool | exact kit_ty OT.kq_str_int | exact kit_ty OT.kq_int_str | exact kit_ty OT.kq_int_list | exact kit_ty OT.kq_int_tuple | exact kit_ty OT.kq_bool_list | exact kit_ty OT.kq_bool_tuple) ?_) | ((with_reducible show ∃ k, V.bl _ = V.bl k ∧ _); refine AU.bool_ ?_) | ((with_reducible show tSl _ _ _ _ _ _ _); refine AU.sl_ ?_) | ((with_reducible show tNoPart _ _ _); refine AU.npart_ ?_) | ((with_reducible show tPart _ _ _ _); refine AU.part_ ?_) | ((with_reducible show ∃ k, V.int _ = V.int k ∧ rSlL _ _ _ (some k) _ _); refine AU.int1_ ?_) | ((with_reducible show rSlL _ (V.ref _) _ _ _ _); refine AU.slL_ (by walk_at "sl") ?_) | ((with_reducible refine AU.trueT ?_)) | ((with_reducible refine AU.refNon ?_)) | ((with_reducible refine AU.nonNon ?_)) | ((with_reducible refine AU.trueN ?_)) | ((with_reducible refine AU.falseN ?_)) | ((with_reducible refine AU.falseF ?_)) | fail)
local macro_rules | `(tactic| walk_at "st") => `(tactic| repeat walk_at "st1")
theorem RowsAt.at_ {H : Hp} {us : List V} {ess : List (List Ent)} (h : RowsAt H us ess) {i : Nat} (hi : i < ess.length) : ∃ (a : Addr) (xs : List V), us[i]? = some (.ref a) ∧ H a = some (.lst xs) ∧ Ents H xs ess[i] := by
  have hl := h.len
  obtain ⟨a, xs, es, e1, e2, e3, e4⟩ := h.get (List.getElem?_eq_getElem (show i < us.length by omega))
  obtain ⟨_, rfl⟩ := List.getElem?_eq_some_iff.mp e2
  exact ⟨a, xs, by rw [List.getElem?_eq_getElem (by omega), e1], e3, e4⟩
section
variable {P : Program} {w : World} {K : PySem.W.Frag} {mg : Str → Option Value} {base : Heap}
def spSameL : Sp := fun vs H Q _ => ∃ (a b : Addr) (us ws : List V) (ess : List (List Ent)), vs = [.ref a, .ref b] ∧ H a = some (.lst us) ∧ RowsAt H us ess ∧ H b = some (.lst ws) ∧ RowsAt H ws ess ∧ ess.length ≤ 1000 ∧ (∀ es ∈ ess, (∃ n, RowN n es) ∧ es.length ≤ 100000) ∧ Q (.bl true) H
theorem c__law_same_list {f : Addr} {fd : FuncData} (D : C8.Def K mg "_law_same_list" s__law_same_list f fd) (b : Binds K fd ["_law_actual", "_law_expected"] []) (T : Bi mg) (c__law_same : C8.Cal P w K mg base 4 "_law_same" (spSame K) []) : C8.Cal P w K mg base 5 "_law_same_list" spSameL [] := by
  refine C8.cal0 D b .nil sc__law_same_list (fun vs H Q E h => ?_) (fun cdv A outer s H vs Q E hr h => ?_)
  · obtain ⟨a, b, us, ws, ess, rfl, _⟩ := h
    rfl
  · obtain ⟨a, b, us, ws, ess, rfl, ha, hR, hb, hW, hz, hv, q⟩ := h
    refine ⟨_, (pss_cons (ps_if (PW.pt (pw_or (pt_not (pt_val (pe_callB call_isi (by rfl) T.n_isinstance OT.b_isinstance (pa_cons (pv 0) (pa_cons (pe_bltn (v := .ty "list") (by rfl) T.n_list OT.b_list rfl) pa_nil))))) (pw_or1 (pt_cmpR op_ne (pe_callB call_len_seq (by rfl) T.n_len OT.b_len (pa_cons (pv 0) pa_nil)) (pe_callB call_len_seq (by rfl) T.n_len OT.b_len (pa_cons (pv 1) pa_nil)) (nomark _))))) (pss_one (ps_ret pe_bl)) pss_nil)
  (pss_cons (ps_for PassesOwn.never rfl (pi_range1 rfl T.n_range (pa_cons (pe_callB call_len_seq (by rfl) T.n_len OT.b_len (pa_cons (pv 1) pa_nil)) pa_nil)) (pg_name (i := 2) sc__law_same_list.nd rfl (Or.inl rfl)) (pss_one (ps_if (pt_not (pt_val (C8.pe_c c__law_same hr (by decide) (by rfl) (pa_cons (pe_ix ix_list (pv 0) (pv 2) (fun _ _ => rfl)) (pa_cons (pe_ix ix_list (pv 1) (pv 2) (fun _ _ => rfl)) pa_nil))))) (pss_one (ps_ret pe_bl)) pss_nil)))
  (pss_one (ps_ret pe_bl)))), ?_⟩
    have hul := hR.len
    have hwl := hW.len
    walk_at "st"
    rw [hul, hwl]
    refine iteND (fun z => absurd rfl z) (fun _ => ?_)
    walk_at "st"
    rw [hwl]
    refine ⟨_, rfl, by omega, by omega, ?_⟩
    rw [Int.toNat_natCast]
    refine for_range (lo := 0) (n := ess.length) (fun i σ H2 => ∃ y, σ = [some (.ref a), some (.ref b), y] ∧ H2 = H) ⟨none, rfl, rfl⟩ ?_ ?_
    · rintro i σ H2 hi ⟨y, rfl, rfl⟩
      obtain ⟨p, xs, h1, h2, h3⟩ := hR.at_ hi
      obtain ⟨r, ys, k1, k2, k3⟩ := hW.at_ hi
      obtain ⟨⟨n, hn⟩, hnz⟩ := hv _ (List.getElem_mem hi)
      have at1 : atI us ((0 : Int) + (i : Int)) = some (.ref p) := AU.atN (j := i) (by omega) h1
      have at2 : atI ws ((0 : Int) + (i : Int)) = some (.ref r) := AU.atN (j := i) (by omega) k1
      walk_at "st"
      refine ⟨p, r, xs, ys, _, n, rfl, h2, h3, k2, k3, hn, hnz, ?_⟩
      walk_at "st"
      exact ⟨_, rfl, rfl⟩
    · rintro σ H2 ⟨y, rfl, rfl⟩
      walk_at "st"
      exact q
/-- the whole of the rows -/
def spWhole : Sp := fun vs H Q _ => ∃ (a : Addr) (us : List V) (ess : List (List Ent)), vs = [.ref a] ∧ H a = some (.lst us) ∧ RowsAt H us ess ∧ ess.length ≤ 1000 ∧ (wL ess.length 0 ess).length ≤ 100000 ∧ (∀ es ∈ ess, ∀ e ∈ es, e.1.length = 1) ∧ wantRow H (wL ess.length 0 ess) Q
theorem c__law_whole {f : Addr} {fd : FuncData} (D : C8.Def K mg "_law_whole" s__law_whole f fd) (b : Binds K fd ["_law_rows_here"] []) (T : Bi mg) (c__law_row : C8.Cal P w K mg base 1 "_law_row" (spGather K) []) : C8.Cal P w K mg base 2 "_law_whole" spWhole [] := by
  refine C8.cal0 D b .nil sc__law_whole (fun vs H Q E h => ?_) (fun cdv A outer s H vs Q E hr h => ?_)
  · obtain ⟨a, us, ess, rfl, _⟩ := h
    rfl
  · obtain ⟨a, us, ess, rfl, ha, hR, hz, hw, hd, q⟩ := h
    refine ⟨_, (pss_cons (ps_set (i := 1) sc__law_whole.nd rfl (Or.inl rfl) (pe_callB call_len_seq (by rfl) T.n_len OT.b_len (pa_cons (pv 0) pa_nil)))
  (pss_cons (ps_set (i := 2) sc__law_whole.nd rfl (Or.inl rfl) (pe_lst pa_nil))
  (pss_cons (ps_for PassesOwn.never rfl (pi_range1 rfl T.n_range (pa_cons (pv 1) pa_nil)) (pg_name (i := 3) sc__law_whole.nd rfl (Or.inl rfl)) (pss_one (ps_for PassesOwn.never rfl (pi_list (pe_ix ix_list (pv 0) (pv 3) (fun _ _ => rfl))) (pg_tup rfl (pgs_cons (pg_name (i := 4) sc__law_whole.nd rfl (Or.inl rfl)) (pgs_cons (pg_name (i := 5) sc__law_whole.nd rfl (Or.inl rfl)) pgs_nil))) (pss_one (ps_expr (pe_bm PySem.F.plainAttrs_list PySem.F.slot_list_append PySem.F.type_list_append mt_append (pv 2) (pa_cons (pe_tup (pa_cons (pe_tup (pa_cons (pe_op op_add (pe_op op_mul (pv 1) (pe_ix ix_tup (pv 4) pe_int (fun _ _ => rfl))) (pv 3)) pa_nil)) (pa_cons (pv 5) pa_nil))) pa_nil)))))))
  (pss_one (ps_ret (C8.pe_c c__law_row hr (by decide) (by rfl) (pa_cons (pv 2) pa_nil))))))), ?_⟩
    have hul := hR.len
    walk_at "st"
    rw [hul]
    refine ⟨by walk_at "sz", fun D0 nD => ?_⟩; generalize eH1 : upd _ D0 _ = H1; have s1 := AU.newS nD eH1; have hD0 := AU.newH eH1; clear eH1
    walk_at "st"
    refine ⟨_, rfl, by omega, by omega, ?_⟩
    rw [Int.toNat_natCast]
    refine for_range (lo := 0) (n := ess.length) (fun i σ H2 => ∃ (ws : List V) (y3 y4 y5 : Option V), σ = [some (.ref a), some (.int (ess.length : Int)), some (.ref D0), y3, y4, y5] ∧ Same H H2 ∧ H2 D0 = some (.lst ws) ∧ Ents H2 ws (wL ess.length 0 (ess.take i))) ⟨[], none, none, none, rfl, s1, hD0, .nil⟩ ?_ ?_
    · rintro i σ H2 hi ⟨ws, y3, y4, y5, rfl, s2, hD2, hE2⟩
      obtain ⟨r, xs, h1, h2, h3⟩ := hR.at_ hi
      have at1 : atI us ((0 : Int) + (i : Int)) = some (.ref r) := AU.atN (j := i) (by omega) h1
      have htl : (ess.take i).length = i := by rw [List.length_take]; omega
      have htk : ess.take (i + 1) = ess.take i ++ [ess[i]] := by rw [List.take_add_one, List.getElem?_eq_getElem hi]; rfl
      have hwz := wL_le ess.length ess 0 (i + 1)
      rw [htk, wL_snoc, htl, Nat.zero_add, List.length_append] at hwz
      have hwe : (weave ess.length i ess[i]).length = ess[i].length := List.length_map _
      walk_at "st"
      refine ⟨r, rfl, ⟨_, AU.sqL (s2 _ _ h2)⟩, ?_⟩
      refine for_list (K := K) (xs := xs) (fun j σ H3 => ∃ (ws : List V) (y4 y5 : Option V), σ = [some (.ref a), some (.int (ess.length : Int)), some (.ref D0), some (.int ((0 : Int) + (i : Int))), y4, y5] ∧ Same H H3 ∧ H3 D0 = some (.lst ws) ∧ Ents H3 ws (wL ess.length 0 (ess.take i) ++ weave ess.length i (ess[i].take j))) ⟨ws, y4, y5, rfl, s2, hD2, by rw [List.take_zero]; show Ents H2 ws (_ ++ []); rw [List.append_nil]; exact hE2⟩ ?_ ?_ ?_
      · rintro j σ H3 _ ⟨_, _, _, _, s3, _⟩
        exact AU.sqL (s3 _ _ h2)
      · rintro j x σ H3 hx ⟨ws, y4, y5, rfl, s3, hD3, hE3⟩
        obtain ⟨e, he, t2, pe, rfl, ht2, hpe⟩ := (h3.mono s3).get hx
        obtain ⟨k, hk⟩ := pl_one (hd _ (List.getElem_mem hi) e (List.mem_of_getElem? he))
        rw [hk] at hpe
        have hjl := (List.getElem?_eq_some_iff.mp he).1
        have at0 : atI (([k] : List Int).map V.int) 0 = some (.int k) := AU.atN (j := 0) rfl rfl
        have hhd : e.1.headD 0 = k := by rw [hk]; rfl
        have p64 : (2 : Int) ^ 64 = 18446744073709551616 := by decide
        have hwj : (weave ess.length i (ess[i].take j)).length ≤ ess[i].length := by
          unfold weave
          rw [List.length_map, List.length_take]
          omega
        have hwl := hE3.len
        rw [List.length_append] at hwl
        refine ⟨t2, _, rfl, .inl (.inl ht2), rfl, _, _, rfl, _, _, rfl, rfl, ?_⟩
        walk_at "st"
        refine ⟨by walk_at "sz", fun t3 nt3 => ?_⟩; generalize eH4 : upd _ t3 _ = H4; have s4 := AU.newS nt3 eH4; have ht3 := AU.newH eH4; clear eH4
        walk_at "st"
        refine ⟨by walk_at "sz", fun t4 nt4 => ?_⟩; generalize eH5 : upd _ t4 _ = H5; have s5 := AU.newS nt4 eH5; have ht4 := AU.newH eH5; clear eH5
        walk_at "st"
        have s45 := s4.trans s5
        have hD5 := s45 _ _ hD3
        have hv : EntAt H5 (.ref t4) ([(ess.length : Int) * k + (i : Int)], e.2) := ⟨t4, t3, rfl, ht4, by rw [s5 _ _ ht3, Int.zero_add]; rfl⟩
        refine AU.app_ hD5 (small100k (by omega)) ?_
        walk_at "st"
        refine ⟨_, _, _, rfl, same_mut (s3.trans s45) nD, upd_same, ?_⟩
        rw [take_snoc he]
        have hwv : weave ess.length i (ess[i].take j ++ [e]) = weave ess.length i (ess[i].take j) ++ [([(ess.length : Int) * k + (i : Int)], e.2)] := by
          unfold weave
          rw [List.map_append, ← hhd]
          rfl
        rw [hwv, ← List.append_assoc]
        exact ((hE3.mono s45).app (.cons hv .nil)).updL hD5
      · rintro σ H3 ⟨ws, y4, y5, rfl, s3, hD3, hE3⟩
        rw [h3.len, List.take_length] at hE3
        refine ⟨ws, _, _, _, rfl, s3, hD3, ?_⟩
        rw [htk, wL_snoc, htl, Nat.zero_add]
        exact hE3
    · rintro σ H2 ⟨ws, y3, y4, y5, rfl, s2, hD2, hE2⟩
      rw [List.take_length] at hE2
      walk_at "st"
      refine ⟨D0, ws, _, rfl, ⟨AU.sqL hD2, hE2, small100k hw⟩, fun e he z => ?_, wantRow.mono s2 q⟩
      obtain ⟨_, _, _, _, h3⟩ := wL_mem he
      rw [z] at h3
      cases h3
end
end OT

set_option Elab.async false
set_option linter.all false
set_option maxRecDepth 100000
set_option maxHeartbeats 4000000
namespace OT
open PySem PySem.Spec PyProof.Rows L2
local macro_rules | `(tactic| walk_at "sm") => `(tactic| first | assumption | ((with_reducible show Same _ (upd _ _ _)); (refine' AU.mutS ?s ?h; (case h => assumption); (case s => walk_at "sm"))) | fail)
local macro_rules | `(tactic| walk_at "le") => `(tactic| first | (refine Nat.le_of_lt (AU.line ?_); (try simp only [List.length_append, List.length_map, List.length_cons, List.length_nil, List.length_take, List.length_replicate]); omega) | fail)
local macro_rules | `(tactic| walk_at "ll") => `(tactic| first | (show 0 < sizeLine; decide) | (show 1 < sizeLine; decide) | (show 2 < sizeLine; decide) | (show 3 < sizeLine; decide) | (refine AU.line ?_; (try simp only [List.length_append, List.length_map, List.length_cons, List.length_nil, List.length_take, List.length_replicate]); omega) | fail)
local macro_rules | `(tactic| walk_at "hl") => `(tactic| first | assumption | exact upd_same | (refine' AU.climb ?s ?h; (case s => walk_at "sm"); (case h => walk_at "hl")) | fail)
local macro_rules | `(tactic| walk_at "sl") => `(tactic| first | assumption | (refine' AU.sqL ?h; (case h => walk_at "hl")) | (refine' AU.sqLS ?s ?h; (case s => walk_at "sm"); (case h => walk_at "sl")) | fail)
local macro_rules | `(tactic| walk_at "tl") => `(tactic| first | assumption | (refine' AU.sqT ?h; (case h => walk_at "hl")) | (refine' AU.sqTS ?s ?h; (case s => walk_at "sm"); (case h => walk_at "tl")) | fail)
local macro_rules | `(tactic| walk_at "sz") => `(tactic| first | (show 0 ≤ sizeLine; decide) | (show 1 ≤ sizeLine; decide) | (show 2 ≤ sizeLine; decide) | (show 3 ≤ sizeLine; decide) | (show 4 ≤ sizeLine; decide) | (show 5 ≤ sizeLine; decide) | (show 6 ≤ sizeLine; decide) | (show 7 ≤ sizeLine; decide) | (show 8 ≤ sizeLine; decide) | (show 9 ≤ sizeLine; decide) | (show 10 ≤ sizeLine; decide) | fail)
local macro_rules | `(tactic| walk_at "ci") => `(tactic| first | exact trivial | omega | (show (0 : Int) < _; omega) | (show CMul _ _; exact .inl ⟨by omega, by omega⟩) | (show CMul _ _; exact .inr ⟨by omega, by omega⟩) | (show CMul _ _; exact .inr (AU.b01 _)) | (show CMul _ _; exact .inl (AU.b01 _)) | (show CDiv _ _; exact ⟨by omega, by omega⟩) | (show _ ≠ (0 : Int); omega) | (show CDiv _ _; exact ⟨by decide, by decide⟩) | fail)
local macro_rules | `(tactic| walk_at "hh") => `(tactic| first | assumption | (refine' OT.HeldF.mono ?s ?h; (case s => walk_at "sm"); (case h => walk_at "hh")) | fail)
local macro_rules | `(tactic| walk_at "tyx") => `(tactic| first | exact .base (.int _) | exact .base (.bl _) | exact .base (.str _) | exact .base (.lst (by walk_at "hl")) | exact .base (.tup (by walk_at "hl")) | fail)
local macro_rules | `(tactic| walk_at "st1") => `(tactic| first | ((with_reducible show tSeq _ _ _ _ _); (try simp only [List.set_cons_zero, List.set_cons_succ]); refine AU.seq_ ?_) | ((with_reducible show tAsg _ _ _ _ _); refine AU.asg_ ?_) | ((with_reducible show gName _ _ _ _ _); refine AU.name_ ?_) | ((with_reducible show tDrop _ _ _ _); refine AU.drop_ ?_) | ((with_reducible show tRet _ _ _ _); refine AU.ret_ ?_) | ((with_reducible show tRetN _ _ _); refine AU.retN_ ?_) | ((with_reducible show tNext _ _ _); refine AU.next_ ?_) | ((with_reducible show tBreak _ _ _); refine AU.brk_ ?_) | ((with_reducible show tCont _ _ _); refine AU.cont_ ?_) | ((with_reducible show tIfS _ _ _ _ _ _); refine AU.ifs_ ?_) | ((with_reducible show tAug _ _ _ _ _ _); refine AU.aug_ rfl ?_) | ((with_reducible show Ends.nx (Ends.mk _ _ _ _) _ _); refine AU.nxm ?_) | ((with_reducible show Ends.rt (Ends.mk _ _ _ _) _ _); refine AU.rtm ?_) | ((with_reducible show Ends.bk (Ends.mk _ _ _ _) _ _); refine AU.bkm ?_) | ((with_reducible show Ends.ct (Ends.mk _ _ _ _) _ _); refine AU.ctm ?_) | ((with_reducible show tVar _ _ _ _); refine AU.var_ rfl ?_) | ((with_reducible show tC _ _ _ _); refine AU.c_ ?_) | ((with_reducible show tOp _ _ _ _ _ _); refine AU.op_ ?_) | ((with_reducible show tUn _ _ _ _ _); refine AU.un_ ?_) | ((with_reducible show rU _ _ _ _); refine AU.u_ ?_) | ((with_reducible show rI0 _ _ _ _ _); refine AU.i0_ ?_) | ((with_reducible show rI _ _ _ _ _ _); refine AU.i_ (by walk_at "ci") ?_) | ((with_reducible show rEq (V.int _) (V.int _) _ _); first | (with_reducible refine AU.eqr_ ?_) | refine AU.eqi_ ?_) | ((with_reducible show rEq (V.str _) (V.str _) _ _); (with_reducible refine AU.eqs_ ?_)) | ((with_reducible show rNe (V.int _) (V.int _) _ _); refine AU.nei_ ?_) | ((with_reducible show rEq _ _ _ _); refine AU.eq_ rfl ?_) | ((with_reducible show rNe _ _ _ _); refine AU.ne_ rfl ?_) | ((with_reducible show tTest _ _ _ _); refine AU.test_ ?_) | ((with_reducible show tB _ _ _ _); refine AU.b_ ?_) | ((with_reducible show tAnd _ _ _ _ _); refine AU.and_ ?_) | ((with_reducible show tOr _ _ _ _ _); refine AU.or_ ?_) | ((with_reducible show tNot _ _ _ _); refine AU.not_ ?_) | ((with_reducible show tAndV _ _ _ _ _); refine AU.andV_ ?_) | ((with_reducible show tOrV _ _ _ _ _); refine AU.orV_ ?_) | ((with_reducible show tNotV _ _ _ _); refine AU.notV_ ?_) | ((with_reducible show tIf _ _ _ _ _ _); refine AU.if_ ?_) | ((with_reducible show tNil _ _ _); refine AU.nil_ ?_) | ((with_reducible show tCons _ _ _ _ _); refine AU.cons_ ?_) | ((with_reducible show tLst _ _ _ _); refine AU.lst_ ?_) | ((with_reducible show tTup _ _ _ _); refine AU.tup_ ?_) | ((with_reducible show tCall _ _ _ _ _ _ _); refine AU.call_ ?_) | ((with_reducible show tCallS _ _ _ _ _ _); refine AU.callS_ ?_) | ((with_reducible show tCB _ _ _ _ _); refine AU.cb_ ?_) | ((with_reducible show tBM _ _ _ _ _ _ _ _); refine AU.bm_ ?_) | ((with_reducible show rIxL _ _ _ _ _); refine AU.ixL_ (by walk_at "sl") (by first | assumption | rfl) ?_) | ((with_reducible show rIxT _ _ _ _ _); refine AU.ixT_ (by walk_at "tl") (by first | assumption | rfl) ?_) | ((with_reducible show Evl.rLenS _ _ _ _); first | refine AU.lenL_ (by walk_at "sl") ?_ | refine AU.lenT_ (by walk_at "tl") ?_) | ((with_reducible show rAppend (V.ref _) [_] _ _); refine AU.app_ (by walk_at "hl") (by walk_at "ll") ?_) | ((with_reducible show tyV _ _ (V.ref _) _ ∧ _); refine AU.tyl_ (by walk_at "sl") ?_) | ((with_reducible show rCat (V.ref _) (V.ref _) _ _); refine AU.cat_ (by walk_at "hl") (by walk_at "hl") (by walk_at "le") ?_) | ((with_reducible show tFor _ _ _ _ _ _); refine AU.for_ ?_) | ((with_reducible show tLc _ _ _ _ _ _ _ _); refine AU.lc_ ?_) | ((with_reducible show iRng1 _ _ _ _); refine AU.rng1_ ?_) | ((with_reducible show iList _ _ _ _ _); refine AU.list_ ?_) | ((with_reducible show iTup _ _ _ _ _); refine AU.itup_ ?_) | ((with_reducible show (∃ i, [V.bl _] = [V.int i] ∧ _) ∨ _); refine AU.intb_ ?_) | ((with_reducible show (∃ i, [V.int _] = [V.int i] ∧ _) ∨ _); refine AU.inti_ ?_) | ((with_reducible show tYes _ _ _); refine AU.yes_ ?_) | ((with_reducible show ∃ p ys, [V.ref _] = [V.ref p] ∧ (SqL _ _ p ys ∨ SqT _ _ p ys) ∧ _); first | refine AU.listof_ (by walk_at "sl") ?_ | refine AU.listofT_ (by walk_at "tl") ?_) | ((with_reducible show ∃ p ys, [V.ref _] = [V.ref p] ∧ ((SqL _ _ p ys ∧ _) ∨ (SqT _ _ p ys ∧ _))); first | refine AU.tupleof_ (by walk_at "sl") ?_ | refine AU.tupleofT_ (by walk_at "tl") ?_) | ((with_reducible show V.non = V.non ∧ _); refine ⟨rfl, ?_⟩) | ((with_reducible show OT.rIsX _ _ _ _ [V.ref _, _] _ _); refine OT.isX_ (by walk_at "hh") (by first | exact .own _ | exact .ty _) (by assumption) ?_) | ((with_reducible show OT.tFA _ _ _ _ _ _ _ _ _); refine OT.fA_ ?_) | ((with_reducible show OT.tCallE _ _ _ _ _ _ _ _); refine OT.callE_ ?_) | ((with_reducible show rIsi _ [_, _] _ _); refine OT.isi_ (by first | exact .own _ | exact .ty _) (by walk_at "tyx") (by first | assumption | exact kit_ty OT.kq_int_int | exact kit_ty OT.kq_int_bool | exact kit_ty OT.kq_bool_bool | exact kit_ty OT.kq_bool_int | exact kit_ty OT.kq_str_str | exact kit_ty OT.kq_tuple_tuple | exact kit_ty OT.kq_list_list | exact kit_ty OT.kq_list_tuple | exact kit_ty OT.kq_tuple_list | exact kit_ty OT.kq_list_int | exact kit_ty OT.kq_tuple_int | exact kit_ty OT.kq_list_bool | exact kit_ty OT.kq_tuple_bool | exact kit_ty OT.kq_str_int | exact kit_ty OT.kq_int_str | exact kit_ty OT.kq_int_list | exact kit_ty OT.kq_int_tuple | exact kit_ty OT.kq_bool_list | exact kit_ty OT.kq_bool_tuple) ?_) | ((with_reducible show ∃ k, V.bl _ = V.bl k ∧ _); refine AU.bool_ ?_) | ((with_reducible show tSl _ _ _ _ _ _ _); refine AU.sl_ ?_) | ((with_reducible show tNoPart _ _ _); refine AU.npart_ ?_) | ((with_reducible show tPart _ _ _ _); refine AU.part_ ?_) | ((with_reducible show ∃ k, V.int _ = V.int k ∧ rSlL _ _ _ (some k) _ _); refine AU.int1_ ?_) | ((with_reducible show rSlL _ (V.ref _) _ _ _ _); refine AU.slL_ (by walk_at "sl") ?_) | ((with_reducible refine AU.trueT ?_)) | ((with_reducible refine AU.refNon ?_)) | ((with_reducible refine AU.nonNon ?_)) | ((with_reducible refine AU.trueN ?_)) | ((with_reducible refine AU.falseN ?_)) | ((with_reducible refine AU.falseF ?_)) | fail)
local macro_rules | `(tactic| walk_at "st") => `(tactic| repeat walk_at "st1")
theorem FrL.keep {H0 G : Hp} {D q : Addr} {as : List Addr} {ess : List (List Ent)} {xs ys : List V} (h : FrL H0 G D as ess) (nq : H0 q = none) (hq : G q = some (.lst xs)) (qa : q ∉ as) (qD : q ≠ D) : FrL H0 (upd G q (.lst ys)) D as ess :=
  ⟨same_mut h.s nq, h.np, h.na, by rw [upd_ne qD.symm]; exact h.hp, h.nd, h.pn, h.l, fun i a es hi he => by
    obtain ⟨zs, h1, h2⟩ := h.rows i a es hi he
    have aq : a ≠ q := fun z => qa (by rw [← z]; exact List.mem_of_getElem? hi)
    exact ⟨zs, by rw [upd_ne aq]; exact h1, h2.updL hq⟩⟩
theorem FrL.pushR {H0 G : Hp} {D q : Addr} {as : List Addr} {ess : List (List Ent)} {xs : List V} {es : List Ent} (h : FrL H0 G D as ess) (nq : H0 q = none) (hq : G q = some (.lst xs)) (hE : Ents G xs es) (qa : q ∉ as) (qD : q ≠ D) : FrL H0 (upd G D (.lst (as.map V.ref ++ [.ref q]))) D (as ++ [q]) (ess ++ [es]) := by
  refine ⟨same_mut h.s h.np, h.np, fun a ha => ?_, by rw [upd_same, List.map_append]; rfl, ?_, fun z => ?_, by rw [List.length_append, List.length_append, h.l]; rfl, fun i a fs hi he => ?_⟩
  · rcases List.mem_append.mp ha with ha | ha
    · exact h.na a ha
    · rw [List.mem_singleton.mp ha]
      exact nq
  · refine List.nodup_append.mpr ⟨h.nd, List.nodup_cons.mpr ⟨fun z => (by cases z), .nil⟩, fun a ha b hb => ?_⟩
    rw [List.mem_singleton.mp hb]
    rintro rfl
    exact qa ha
  · rcases List.mem_append.mp z with z | z
    · exact h.pn z
    · exact qD (List.mem_singleton.mp z).symm
  · by_cases c : i < as.length
    · rw [List.getElem?_append_left c] at hi
      rw [List.getElem?_append_left (by rw [← h.l]; exact c)] at he
      obtain ⟨ys, h1, h2⟩ := h.rows i a fs hi he
      have aD : a ≠ D := fun z => h.pn (by rw [← z]; exact List.mem_of_getElem? hi)
      exact ⟨ys, by rw [upd_ne aD]; exact h1, h2.updL h.hp⟩
    · have hil := (List.getElem?_eq_some_iff.mp hi).1
      rw [List.length_append, List.length_singleton] at hil
      obtain rfl : i = as.length := by omega
      rw [List.getElem?_append_right (Nat.le_refl _), Nat.sub_self] at hi
      rw [h.l, List.getElem?_append_right (Nat.le_refl _), Nat.sub_self] at he
      cases hi
      cases he
      exact ⟨xs, by rw [upd_ne qD]; exact hq, hE.updL h.hp⟩
theorem tooth_res {x : Int} {n i : Nat} (hi : i < n) : ((x - (i : Int)) % (n : Int) = 0 ↔ x % (n : Int) = (i : Int)) := by
  have e : x % (n : Int) = (i : Int) % (n : Int) ↔ (x - (i : Int)) % (n : Int) = 0 := Int.emod_eq_emod_iff_emod_sub_eq_zero
  rw [Int.emod_eq_of_lt (show (0 : Int) ≤ (i : Int) by omega) (show (i : Int) < (n : Int) by omega)] at e
  exact e.symm
theorem tooth_quo {x : Int} {n i : Nat} (hi : i < n) (h : x % (n : Int) = (i : Int)) : (x - (i : Int)) / (n : Int) = x / (n : Int) := by
  have h1 := Int.mul_ediv_add_emod x (n : Int)
  rw [h] at h1
  have h2 : x - (i : Int) = (n : Int) * (x / (n : Int)) := by omega
  rw [h2]
  exact Int.mul_ediv_cancel_left _ (by omega)
theorem combS_take (es : List Ent) {n i : Nat} (hi : i < n) : (combS es n).take (i + 1) = (combS es n).take i ++ [tooth es n i] := by
  rw [List.take_add_one, combS_at es hi]
  rfl
section
variable {P : Program} {w : World} {K : PySem.W.Frag} {mg : Str → Option Value} {base : Heap}
def spCombed : Sp := fun vs H Q _ => ∃ (a : Addr) (xs : List V) (es : List Ent) (n : Nat), vs = [.ref a, .int (n : Int)] ∧ H a = some (.lst xs) ∧ Ents H xs es ∧ 1 ≤ n ∧ n ≤ 1000 ∧ es.length ≤ 1000 ∧ (∀ e ∈ es, e.1.length = 1) ∧ ∀ p as H', FrL H H' p as (combS es n) → Q (.ref p) H'
theorem c__law_combed {f : Addr} {fd : FuncData} (D : C8.Def K mg "_law_combed" s__law_combed f fd) (b : Binds K fd ["_law_row_here", "_law_count"] []) (T : Bi mg) : C8.Cal P w K mg base 1 "_law_combed" spCombed [] := by
  refine C8.cal0 D b .nil sc__law_combed (fun vs H Q E h => ?_) (fun cdv A outer s H vs Q E hr h => ?_)
  · obtain ⟨a, xs, es, n, rfl, _⟩ := h
    rfl
  · obtain ⟨a, xs, es, n, rfl, ha, hE, hn1, hn, hz, hd, q⟩ := h
    refine ⟨_, (pss_cons (ps_set (i := 2) sc__law_combed.nd rfl (Or.inl rfl) (pe_lst pa_nil))
  (pss_cons (ps_for PassesOwn.never rfl (pi_range1 rfl T.n_range (pa_cons (pv 1) pa_nil)) (pg_name (i := 3) sc__law_combed.nd rfl (Or.inl rfl)) (pss_cons (ps_set (i := 4) sc__law_combed.nd rfl (Or.inl rfl) (pe_lst pa_nil))
  (pss_cons (ps_for PassesOwn.never rfl (pi_list (pv 0)) (pg_tup rfl (pgs_cons (pg_name (i := 5) sc__law_combed.nd rfl (Or.inl rfl)) (pgs_cons (pg_name (i := 6) sc__law_combed.nd rfl (Or.inl rfl)) pgs_nil))) (pss_one (ps_if (pt_cmpR op_eq (pe_op op_mod (pe_callTy call_int1 (by rfl) T.n_int OT.b_int (pa_cons (pe_op op_sub (pe_ix ix_tup (pv 5) pe_int (fun _ _ => rfl)) (pv 3)) pa_nil)) (pv 1)) pe_int (nomark _)) (pss_one (ps_expr (pe_bm PySem.F.plainAttrs_list PySem.F.slot_list_append PySem.F.type_list_append mt_append (pv 4) (pa_cons (pe_tup (pa_cons (pe_tup (pa_cons (pe_op op_fdiv (pe_op op_sub (pe_ix ix_tup (pv 5) pe_int (fun _ _ => rfl)) (pv 3)) (pv 1)) pa_nil)) (pa_cons (pv 6) pa_nil))) pa_nil)))) pss_nil)))
  (pss_one (ps_expr (pe_bm PySem.F.plainAttrs_list PySem.F.slot_list_append PySem.F.type_list_append mt_append (pv 2) (pa_cons (pv 4) pa_nil)))))))
  (pss_one (ps_ret (pv 2))))), ?_⟩
    have hxl := hE.len
    walk_at "st"
    refine ⟨Nat.zero_le _, fun D0 nD => ?_⟩
    have hF0 := FrL.start nD
    generalize upd H D0 (.lst []) = H1 at hF0 ⊢
    walk_at "st"
    refine ⟨_, rfl, by omega, by omega, ?_⟩
    rw [Int.toNat_natCast]
    refine for_range (lo := 0) (n := n) (fun i σ G => ∃ (as : List Addr) (y3 y4 y5 y6 : Option V), σ = [some (.ref a), some (.int (n : Int)), some (.ref D0), y3, y4, y5, y6] ∧ FrL H G D0 as ((combS es n).take i)) ⟨[], none, none, none, none, rfl, hF0⟩ ?_ ?_
    · rintro i σ G hi ⟨as, y3, y4, y5, y6, rfl, hF⟩
      have hFl := hF.l
      rw [List.length_take, combS_len] at hFl
      walk_at "st"
      refine ⟨Nat.zero_le _, fun L nL => ?_⟩
      have sL : Same G (upd G L (.lst [])) := same_upd nL
      have nL0 : H L = none := AU.back hF.s nL
      have hL0 : (upd G L (.lst [])) L = some (.lst []) := upd_same
      have LD : L ≠ D0 := (ne_of_none hF.hp nL).symm
      have La : L ∉ as := fun z => by
        obtain ⟨_, _, _, _, _, e, _⟩ := hF.at_ z
        rw [nL] at e
        cases e
      have hF1 := hF.mono sL
      generalize upd G L (.lst []) = G1 at sL hL0 hF1 ⊢
      walk_at "st"
      refine ⟨a, rfl, ⟨_, AU.sqL (hF1.s _ _ ha)⟩, ?_⟩
      refine for_list (K := K) (xs := xs) (fun j σ F => ∃ (ws : List V) (y5 y6 : Option V), σ = [some (.ref a), some (.int (n : Int)), some (.ref D0), some (.int ((0 : Int) + (i : Int))), some (.ref L), y5, y6] ∧ FrL H F D0 as ((combS es n).take i) ∧ F L = some (.lst ws) ∧ Ents F ws (tooth (es.take j) n i)) ⟨[], y5, y6, rfl, hF1, hL0, .nil⟩ ?_ ?_ ?_
      · rintro j σ F _ ⟨_, _, _, _, hf, _⟩
        exact AU.sqL (hf.s _ _ ha)
      · rintro j x σ F hx ⟨ws, y5, y6, rfl, hf, hL, hW⟩
        obtain ⟨e, he, t, pe, rfl, ht, hpe⟩ := (hE.mono hf.s).get hx
        obtain ⟨k, hk⟩ := pl_one (hd e (List.mem_of_getElem? he))
        rw [hk] at hpe
        have at0 : atI (([k] : List Int).map V.int) 0 = some (.int k) := AU.atN (j := 0) rfl rfl
        have hhd : e.1.headD 0 = k := by rw [hk]; rfl
        have hwl := hW.len
        have htl : (tooth (es.take j) n i).length ≤ 1000 := by
          unfold tooth
          rw [List.length_map]
          refine Nat.le_trans (List.length_filter_le _ _) ?_
          rw [List.length_take]
          omega
        have htk : tooth (es.take (j + 1)) n i = if k % (n : Int) = (i : Int) then tooth (es.take j) n i ++ [([k / (n : Int)], e.2)] else tooth (es.take j) n i := by
          rw [take_snoc he, tooth_snoc, hhd]
        refine ⟨t, _, rfl, .inl (.inl ht), rfl, _, _, rfl, _, _, rfl, rfl, ?_⟩
        walk_at "st"
        refine iteD (fun z => ?_) (fun z => ?_)
        · have z2 : (k - (i : Int)) % (n : Int) = 0 := by rw [show k - (i : Int) = k - ((0 : Int) + (i : Int)) by omega]; exact z
          have z3 := (tooth_res hi).mp z2
          rw [if_pos z3] at htk
          walk_at "st"
          refine ⟨by walk_at "sz", fun t3 nt3 => ?_⟩; generalize eF3 : upd _ t3 _ = F3; have s3 := AU.newS nt3 eF3; have ht3 := AU.newH eF3; clear eF3
          walk_at "st"
          refine ⟨by walk_at "sz", fun t4 nt4 => ?_⟩; generalize eF4 : upd _ t4 _ = F4; have s4 := AU.newS nt4 eF4; have ht4 := AU.newH eF4; clear eF4
          walk_at "st"
          have s34 := s3.trans s4
          have hv : EntAt F4 (.ref t4) ([k / (n : Int)], e.2) := ⟨t4, t3, rfl, ht4, by rw [s4 _ _ ht3, show k - ((0 : Int) + (i : Int)) = k - (i : Int) by omega, tooth_quo hi z3]; rfl⟩
          have hL4 := s34 _ _ hL
          refine ⟨_, _, _, rfl, (hf.mono s34).keep nL0 hL4 La LD, upd_same, ?_⟩
          rw [htk]
          exact ((hW.mono s34).app (.cons hv .nil)).updL hL4
        · have z3 : ¬ k % (n : Int) = (i : Int) := fun h => z (by
            have := (tooth_res hi).mpr h
            rw [show k - ((0 : Int) + (i : Int)) = k - (i : Int) by omega]
            exact this)
          rw [if_neg z3] at htk
          walk_at "st"
          refine ⟨ws, _, _, rfl, hf, hL, ?_⟩
          rw [htk]
          exact hW
      · rintro σ F ⟨ws, y5, y6, rfl, hf, hL, hW⟩
        rw [hxl, List.take_length] at hW
        have hDF := hf.hp
        have hal : (as.map V.ref).length ≤ 1000 := by rw [List.length_map]; omega
        walk_at "st"
        refine ⟨as ++ [L], _, _, _, _, rfl, ?_⟩
        rw [combS_take es hi]
        exact hf.pushR nL0 hL hW La LD
    · rintro σ G ⟨as, y3, y4, y5, y6, rfl, hF⟩
      rw [List.take_of_length_le (by rw [combS_len]; exact Nat.le_refl _)] at hF
      walk_at "st"
      exact q D0 as G hF
end
end OT

set_option Elab.async false
set_option linter.all false
set_option maxRecDepth 100000
set_option maxHeartbeats 4000000
namespace OT
open PySem PySem.Spec PyProof.Rows L2
local macro_rules | `(tactic| walk_at "sm") => `(tactic| first | assumption | ((with_reducible show Same _ (upd _ _ _)); (refine' AU.mutS ?s ?h; (case h => assumption); (case s => walk_at "sm"))) | fail)
local macro_rules | `(tactic| walk_at "le") => `(tactic| first | (refine Nat.le_of_lt (AU.line ?_); (try simp only [List.length_append, List.length_map, List.length_cons, List.length_nil, List.length_take, List.length_replicate]); omega) | fail)
local macro_rules | `(tactic| walk_at "ll") => `(tactic| first | (show 0 < sizeLine; decide) | (show 1 < sizeLine; decide) | (show 2 < sizeLine; decide) | (show 3 < sizeLine; decide) | (refine AU.line ?_; (try simp only [List.length_append, List.length_map, List.length_cons, List.length_nil, List.length_take, List.length_replicate]); omega) | fail)
local macro_rules | `(tactic| walk_at "hl") => `(tactic| first | assumption | exact upd_same | (refine' AU.climb ?s ?h; (case s => walk_at "sm"); (case h => walk_at "hl")) | fail)
local macro_rules | `(tactic| walk_at "sl") => `(tactic| first | assumption | (refine' AU.sqL ?h; (case h => walk_at "hl")) | (refine' AU.sqLS ?s ?h; (case s => walk_at "sm"); (case h => walk_at "sl")) | fail)
local macro_rules | `(tactic| walk_at "tl") => `(tactic| first | assumption | (refine' AU.sqT ?h; (case h => walk_at "hl")) | (refine' AU.sqTS ?s ?h; (case s => walk_at "sm"); (case h => walk_at "tl")) | fail)
local macro_rules | `(tactic| walk_at "sz") => `(tactic| first | (show 0 ≤ sizeLine; decide) | (show 1 ≤ sizeLine; decide) | (show 2 ≤ sizeLine; decide) | (show 3 ≤ sizeLine; decide) | (show 4 ≤ sizeLine; decide) | (show 5 ≤ sizeLine; decide) | (show 6 ≤ sizeLine; decide) | (show 7 ≤ sizeLine; decide) | (show 8 ≤ sizeLine; decide) | (show 9 ≤ sizeLine; decide) | (show 10 ≤ sizeLine; decide) | fail)
local macro_rules | `(tactic| walk_at "ci") => `(tactic| first | exact trivial | omega | (show (0 : Int) < _; omega) | (show CMul _ _; exact .inl ⟨by omega, by omega⟩) | (show CMul _ _; exact .inr ⟨by omega, by omega⟩) | (show CMul _ _; exact .inr (AU.b01 _)) | (show CMul _ _; exact .inl (AU.b01 _)) | (show CDiv _ _; exact ⟨by omega, by omega⟩) | (show _ ≠ (0 : Int); omega) | (show CDiv _ _; exact ⟨by decide, by decide⟩) | fail)
local macro_rules | `(tactic| walk_at "hh") => `(tactic| first | assumption | (refine' OT.HeldF.mono ?s ?h; (case s => walk_at "sm"); (case h => walk_at "hh")) | fail)
local macro_rules | `(tactic| walk_at "tyx") => `(tactic| first | exact .base (.int _) | exact .base (.bl _) | exact .base (.str _) | exact .base (.lst (by walk_at "hl")) | exact .base (.tup (by walk_at "hl")) | fail)
local macro_rules | `(tactic| walk_at "st1") => `(tactic| first | ((with_reducible show tSeq _ _ _ _ _); (try simp only [List.set_cons_zero, List.set_cons_succ]); refine AU.seq_ ?_) | ((with_reducible show tAsg _ _ _ _ _); refine AU.asg_ ?_) | ((with_reducible show gName _ _ _ _ _); refine AU.name_ ?_) | ((with_reducible show tDrop _ _ _ _); refine AU.drop_ ?_) | ((with_reducible show tRet _ _ _ _); refine AU.ret_ ?_) | ((with_reducible show tRetN _ _ _); refine AU.retN_ ?_) | ((with_reducible show tNext _ _ _); refine AU.next_ ?_) | ((with_reducible show tBreak _ _ _); refine AU.brk_ ?_) | ((with_reducible show tCont _ _ _); refine AU.cont_ ?_) | ((with_reducible show tIfS _ _ _ _ _ _); refine AU.ifs_ ?_) | ((with_reducible show tAug _ _ _ _ _ _); refine AU.aug_ rfl ?_) | ((with_reducible show Ends.nx (Ends.mk _ _ _ _) _ _); refine AU.nxm ?_) | ((with_reducible show Ends.rt (Ends.mk _ _ _ _) _ _); refine AU.rtm ?_) | ((with_reducible show Ends.bk (Ends.mk _ _ _ _) _ _); refine AU.bkm ?_) | ((with_reducible show Ends.ct (Ends.mk _ _ _ _) _ _); refine AU.ctm ?_) | ((with_reducible show tVar _ _ _ _); refine AU.var_ rfl ?_) | ((with_reducible show tC _ _ _ _); refine AU.c_ ?_) | ((with_reducible show tOp _ _ _ _ _ _); refine AU.op_ ?_) | ((with_reducible show tUn _ _ _ _ _); refine AU.un_ ?_) | ((with_reducible show rU _ _ _ _); refine AU.u_ ?_) | ((with_reducible show rI0 _ _ _ _ _); refine AU.i0_ ?_) | ((with_reducible show rI _ _ _ _ _ _); refine AU.i_ (by walk_at "ci") ?_) | ((with_reducible show rEq (V.int _) (V.int _) _ _); first | (with_reducible refine AU.eqr_ ?_) | refine AU.eqi_ ?_) | ((with_reducible show rEq (V.str _) (V.str _) _ _); (with_reducible refine AU.eqs_ ?_)) | ((with_reducible show rNe (V.int _) (V.int _) _ _); refine AU.nei_ ?_) | ((with_reducible show rEq _ _ _ _); refine AU.eq_ rfl ?_) | ((with_reducible show rNe _ _ _ _); refine AU.ne_ rfl ?_) | ((with_reducible show tTest _ _ _ _); refine AU.test_ ?_) | ((with_reducible show tB _ _ _ _); refine AU.b_ ?_) | ((with_reducible show tAnd _ _ _ _ _); refine AU.and_ ?_) | ((with_reducible show tOr _ _ _ _ _); refine AU.or_ ?_) | ((with_reducible show tNot _ _ _ _); refine AU.not_ ?_) | ((with_reducible show tAndV _ _ _ _ _); refine AU.andV_ ?_) | ((with_reducible show tOrV _ _ _ _ _); refine AU.orV_ ?_) | ((with_reducible show tNotV _ _ _ _); refine AU.notV_ ?_) | ((with_reducible show tIf _ _ _ _ _ _); refine AU.if_ ?_) | ((with_reducible show tNil _ _ _); refine AU.nil_ ?_) | ((with_reducible show tCons _ _ _ _ _); refine AU.cons_ ?_) | ((with_reducible show tLst _ _ _ _); refine AU.lst_ ?_) | ((with_reducible show tTup _ _ _ _); refine AU.tup_ ?_) | ((with_reducible show tCall _ _ _ _ _ _ _); refine AU.call_ ?_) | ((with_reducible show tCallS _ _ _ _ _ _); refine AU.callS_ ?_) | ((with_reducible show tCB _ _ _ _ _); refine AU.cb_ ?_) | ((with_reducible show tBM _ _ _ _ _ _ _ _); refine AU.bm_ ?_) | ((with_reducible show rIxL _ _ _ _ _); refine AU.ixL_ (by walk_at "sl") (by first | assumption | rfl) ?_) | ((with_reducible show rIxT _ _ _ _ _); refine AU.ixT_ (by walk_at "tl") (by first | assumption | rfl) ?_) | ((with_reducible show Evl.rLenS _ _ _ _); first | refine AU.lenL_ (by walk_at "sl") ?_ | refine AU.lenT_ (by walk_at "tl") ?_) | ((with_reducible show rAppend (V.ref _) [_] _ _); refine AU.app_ (by walk_at "hl") (by walk_at "ll") ?_) | ((with_reducible show tyV _ _ (V.ref _) _ ∧ _); refine AU.tyl_ (by walk_at "sl") ?_) | ((with_reducible show rCat (V.ref _) (V.ref _) _ _); refine AU.cat_ (by walk_at "hl") (by walk_at "hl") (by walk_at "le") ?_) | ((with_reducible show tFor _ _ _ _ _ _); refine AU.for_ ?_) | ((with_reducible show tLc _ _ _ _ _ _ _ _); refine AU.lc_ ?_) | ((with_reducible show iRng1 _ _ _ _); refine AU.rng1_ ?_) | ((with_reducible show iList _ _ _ _ _); refine AU.list_ ?_) | ((with_reducible show iTup _ _ _ _ _); refine AU.itup_ ?_) | ((with_reducible show (∃ i, [V.bl _] = [V.int i] ∧ _) ∨ _); refine AU.intb_ ?_) | ((with_reducible show (∃ i, [V.int _] = [V.int i] ∧ _) ∨ _); refine AU.inti_ ?_) | ((with_reducible show tYes _ _ _); refine AU.yes_ ?_) | ((with_reducible show ∃ p ys, [V.ref _] = [V.ref p] ∧ (SqL _ _ p ys ∨ SqT _ _ p ys) ∧ _); first | refine AU.listof_ (by walk_at "sl") ?_ | refine AU.listofT_ (by walk_at "tl") ?_) | ((with_reducible show ∃ p ys, [V.ref _] = [V.ref p] ∧ ((SqL _ _ p ys ∧ _) ∨ (SqT _ _ p ys ∧ _))); first | refine AU.tupleof_ (by walk_at "sl") ?_ | refine AU.tupleofT_ (by walk_at "tl") ?_) | ((with_reducible show V.non = V.non ∧ _); refine ⟨rfl, ?_⟩) | ((with_reducible show OT.rIsX _ _ _ _ [V.ref _, _] _ _); refine OT.isX_ (by walk_at "hh") (by first | exact .own _ | exact .ty _) (by assumption) ?_) | ((with_reducible show OT.tFA _ _ _ _ _ _ _ _ _); refine OT.fA_ ?_) | ((with_reducible show OT.tCallE _ _ _ _ _ _ _ _); refine OT.callE_ ?_) | ((with_reducible show rIsi _ [_, _] _ _); refine OT.isi_ (by first | exact .own _ | exact .ty _) (by walk_at "tyx") (by first | assumption | exact kit_ty OT.kq_int_int | exact kit_ty OT.kq_int_bool | exact kit_ty OT.kq_bool_bool | exact kit_ty OT.kq_bool_int | exact kit_ty OT.kq_str_str | exact kit_ty OT.kq_tuple_tuple | exact kit_ty OT.kq_list_list | exact kit_ty OT.kq_list_tuple | exact kit_ty OT.kq_tuple_list | exact kit_ty OT.kq_list_int | exact kit_ty OT.kq_tuple_int | exact kit_ty OT.kq_list_bool | exact kit_ty OT.kq_tuple_bool | exact kit_ty OT.kq_str_int | exact kit_ty OT.kq_int_str | exact kit_ty OT.kq_int_list | exact kit_ty OT.kq_int_tuple | exact kit_ty OT.kq_bool_list | exact kit_ty OT.kq_bool_tuple) ?_) | ((with_reducible show ∃ k, V.bl _ = V.bl k ∧ _); refine AU.bool_ ?_) | ((with_reducible show tSl _ _ _ _ _ _ _); refine AU.sl_ ?_) | ((with_reducible show tNoPart _ _ _); refine AU.npart_ ?_) | ((with_reducible show tPart _ _ _ _); refine AU.part_ ?_) | ((with_reducible show ∃ k, V.int _ = V.int k ∧ rSlL _ _ _ (some k) _ _); refine AU.int1_ ?_) | ((with_reducible show rSlL _ (V.ref _) _ _ _ _); refine AU.slL_ (by walk_at "sl") ?_) | ((with_reducible refine AU.trueT ?_)) | ((with_reducible refine AU.refNon ?_)) | ((with_reducible refine AU.nonNon ?_)) | ((with_reducible refine AU.trueN ?_)) | ((with_reducible refine AU.falseN ?_)) | ((with_reducible refine AU.falseF ?_)) | fail)
local macro_rules | `(tactic| walk_at "st") => `(tactic| repeat walk_at "st1")
/-- rows of their own, of which some have one item more -/
structure FrN (H0 H : Hp) (p : Addr) (as : List Addr) (ls : List Nat) (j : Nat) : Prop where
  s : Same H0 H
  hp : H p = some (.lst (as.map V.ref))
  rows : ∀ (i : Nat) (a : Addr) (n : Nat), as[i]? = some a → ls[i]? = some n → ∃ xs, H a = some (.lst xs) ∧ xs.length = n + if i < j then 1 else 0
theorem FrL.nums {H0 H : Hp} {p : Addr} {as : List Addr} {ess : List (List Ent)} (h : FrL H0 H p as ess) : FrN H0 H p as (ess.map List.length) 0 :=
  ⟨h.s, h.hp, fun i a n hi hn => by
    rw [List.getElem?_map] at hn
    obtain ⟨es, he, rfl⟩ := Option.map_eq_some_iff.mp hn
    obtain ⟨xs, h1, h2⟩ := h.rows i a es hi he
    exact ⟨xs, h1, by rw [if_neg (Nat.not_lt_zero _)]; exact h2.len⟩⟩
theorem FrN.mono {H0 H H2 : Hp} {p : Addr} {as : List Addr} {ls : List Nat} {j : Nat} (s : Same H H2) (h : FrN H0 H p as ls j) : FrN H0 H2 p as ls j :=
  ⟨h.s.trans s, s _ _ h.hp, fun i a n hi hn => by
    obtain ⟨xs, h1, h2⟩ := h.rows i a n hi hn
    exact ⟨xs, s _ _ h1, h2⟩⟩
theorem FrN.more {H0 H : Hp} {p a : Addr} {as : List Addr} {ls : List Nat} {j : Nat} {xs : List V} {v : V} (h : FrN H0 H p as ls j) (nd : as.Nodup) (pn : p ∉ as) (na : H0 a = none) (hj : as[j]? = some a) (hx : H a = some (.lst xs)) : FrN H0 (upd H a (.lst (xs ++ [v]))) p as ls (j + 1) := by
  have hjl := (List.getElem?_eq_some_iff.mp hj).1
  have pa : p ≠ a := fun z => pn (by rw [z]; exact List.mem_of_getElem? hj)
  refine ⟨same_mut h.s na, by rw [upd_ne pa]; exact h.hp, fun i b n hi hn => ?_⟩
  obtain ⟨ys, h1, h2⟩ := h.rows i b n hi hn
  by_cases c : i = j
  · subst c
    rw [hj] at hi
    cases hi
    rw [hx] at h1
    cases h1
    refine ⟨_, upd_same, ?_⟩
    rw [if_neg (by omega)] at h2
    rw [List.length_append, List.length_singleton, if_pos (by omega)]
    omega
  · have hil := (List.getElem?_eq_some_iff.mp hi).1
    have ba : b ≠ a := fun z => by
      subst z
      have e1 := (List.getElem?_eq_some_iff.mp hi).2
      have e2 := (List.getElem?_eq_some_iff.mp hj).2
      have key := List.pairwise_iff_getElem.mp nd
      rcases Nat.lt_or_gt_of_ne c with z | z
      · exact key i j hil hjl z (e1.trans e2.symm)
      · exact key j i hjl hil z (e2.trans e1.symm)
    refine ⟨ys, by rw [upd_ne ba]; exact h1, ?_⟩
    rw [h2]
    by_cases d : i < j
    · rw [if_pos d, if_pos (by omega)]
    · rw [if_neg d, if_neg (by omega)]
section
variable {P : Program} {w : World} {K : PySem.W.Frag} {mg : Str → Option Value} {base : Heap}
def spApart : Sp := fun vs H Q _ => ∃ (H0 : Hp) (p : Addr) (as : List Addr) (ess : List (List Ent)), vs = [.ref p] ∧ FrL H0 H p as ess ∧ ess.length ≤ 1000 ∧ (∀ es ∈ ess, es.length ≤ 10000) ∧ ∀ H', Same H0 H' → H' p = some (.lst (as.map V.ref)) → Q (.bl true) H'
theorem c__law_apart {f : Addr} {fd : FuncData} (D : C8.Def K mg "_law_apart" s__law_apart f fd) (b : Binds K fd ["_law_rows_here"] []) (T : Bi mg) : C8.Cal P w K mg base 1 "_law_apart" spApart [] := by
  refine C8.cal0 D b .nil sc__law_apart (fun vs H Q E h => ?_) (fun cdv A outer s H vs Q E hr h => ?_)
  · obtain ⟨H0, p, as, ess, rfl, _⟩ := h
    rfl
  · obtain ⟨H0, p, as, ess, rfl, hF, hz, hez, q⟩ := h
    refine ⟨_, (pss_cons (ps_setLc (i := 1) (own := [("_law_row_here", 2)]) (g := (gName 2)) (tt := tYes) rfl sc__law_apart.nd rfl rfl (sw_true rfl rfl rfl rfl) (pi_list (pv 0)) (blkOk_by (N := ["_law_rows_here", "_law_sizes", "_law_row_here", "_law_k"]) (sc := C8.fnScope s__law_apart) (by decide +kernel)) (fun _ _ _ _ _ => (pg_name (i := 2) sc__law_apart.nd rfl (Or.inl rfl))) (fun _ _ _ _ _ => pts_nil) (fun _ _ _ _ _ => (pe_callB (show CallR _ _ (Evl.rLenS K) from call_len_seq) (by rfl) T.n_len OT.b_len (pa_cons (pv 2) pa_nil))))
  (pss_cons (ps_for PassesOwn.never rfl (pi_list (pv 0)) (pg_name (i := 2) sc__law_apart.nd rfl (Or.inl rfl)) (pss_one (ps_expr (pe_bm PySem.F.plainAttrs_list PySem.F.slot_list_append PySem.F.type_list_append mt_append (pv 2) (pa_cons pe_int pa_nil)))))
  (pss_cons (ps_for PassesOwn.never rfl (pi_range1 rfl T.n_range (pa_cons (pe_callB call_len_seq (by rfl) T.n_len OT.b_len (pa_cons (pv 0) pa_nil)) pa_nil)) (pg_name (i := 3) sc__law_apart.nd rfl (Or.inl rfl)) (pss_one (ps_if (pt_cmpR op_ne (pe_callB call_len_seq (by rfl) T.n_len OT.b_len (pa_cons (pe_ix ix_list (pv 0) (pv 3) (fun _ _ => rfl)) pa_nil)) (pe_op op_add (pe_ix ix_list (pv 1) (pv 3) (fun _ _ => rfl)) pe_int) (nomark _)) (pss_one (ps_ret pe_bl)) pss_nil)))
  (pss_one (ps_ret pe_bl))))), ?_⟩
    have hl := hF.l
    have hN := hF.nums
    have hml : (ess.map List.length).length = ess.length := List.length_map _
    have ham : (as.map V.ref).length = as.length := List.length_map _
    have hb : ∀ (i : Nat) (n : Nat), (ess.map List.length)[i]? = some n → n ≤ 10000 := fun i n h => by
      rw [List.getElem?_map] at h
      obtain ⟨es, he, rfl⟩ := Option.map_eq_some_iff.mp h
      exact hez es (List.mem_of_getElem? he)
    have hmp : ∀ a ∈ as, ∃ i, as[i]? = some a := fun a ha => List.getElem?_of_mem ha
    have nd := hF.nd
    have pn := hF.pn
    have na := hF.na
    have np := hF.np
    clear hF
    generalize ess.map List.length = ls at hN hml hb
    refine ⟨_, rfl, p, rfl, ⟨_, AU.sqL hN.hp⟩, fun D1 nD1 => ?_⟩
    refine lc_list (K := K) (xs := as.map V.ref) (AU.IntsAt H D1 fun k z => ∀ n, ls[k]? = some n → z = (n : Int)) (AU.IntsAt.start nD1) ?_ ?_ ?_
    · rintro i G _ hP
      exact AU.sqL (hP.1 _ _ hN.hp)
    · rintro i x G hx hP
      obtain ⟨hi, rfl⟩ := getm hx
      have hn : ls[i]? = some (ls[i]'(by omega)) := List.getElem?_eq_getElem _
      obtain ⟨ys, h1, h2⟩ := hN.rows i as[i] _ (List.getElem?_eq_getElem hi) hn
      rw [if_neg (Nat.not_lt_zero _)] at h2
      have hy := hP.1 _ _ h1
      walk_at "st"
      refine ⟨rfl, ?_⟩
      walk_at "st"
      refine hP.step nD1 (Same.refl _) (by omega) fun n h => ?_
      rw [hn] at h
      cases h
      omega
    rintro G ⟨sG, zs, hzs, hzl, hzp⟩
    rw [ham] at hzl
    have hN1 := hN.mono sG
    have Da : D1 ∉ as := fun z => by
      obtain ⟨i, hi⟩ := hmp _ z
      have hil := (List.getElem?_eq_some_iff.mp hi).1
      obtain ⟨ys, h1, _⟩ := hN.rows i D1 (ls[i]'(by omega)) hi (List.getElem?_eq_getElem _)
      rw [nD1] at h1
      cases h1
    clear hN
    walk_at "st"
    refine ⟨p, rfl, ⟨_, AU.sqL hN1.hp⟩, ?_⟩
    refine for_list (K := K) (xs := as.map V.ref) (fun j σ F => ∃ y2 y3 : Option V, σ = [some (.ref p), some (.ref D1), y2, y3] ∧ FrN H0 F p as ls j ∧ F D1 = some (.lst (zs.map V.int))) ⟨none, none, rfl, hN1, hzs⟩ ?_ ?_ ?_
    · rintro j σ F _ ⟨_, _, _, hf, _⟩
      exact AU.sqL hf.hp
    · rintro j x σ F hx ⟨y2, y3, rfl, hf, hD⟩
      obtain ⟨hj, rfl⟩ := getm hx
      have hn : ls[j]? = some (ls[j]'(by omega)) := List.getElem?_eq_getElem _
      have hja : as[j]? = some as[j] := List.getElem?_eq_getElem hj
      obtain ⟨ys, h1, h2⟩ := hf.rows j as[j] _ hja hn
      rw [if_neg (by omega)] at h2
      have := hb j _ hn
      have aD : D1 ≠ as[j] := fun z => Da (by rw [z]; exact List.getElem_mem hj)
      walk_at "st"
      exact ⟨_, _, rfl, hf.more nd pn (na _ (List.getElem_mem hj)) hja h1, by rw [upd_ne aD]; exact hD⟩
    rintro σ F ⟨y2, y3, rfl, hf, hD⟩
    rw [ham] at hf
    have hpF := hf.hp
    walk_at "st"
    refine ⟨_, rfl, by omega, by omega, ?_⟩
    rw [ham, Int.toNat_natCast]
    refine for_range (lo := 0) (n := as.length) (fun i σ F2 => ∃ y2 y3 : Option V, σ = [some (.ref p), some (.ref D1), y2, y3] ∧ F2 = F) ⟨_, _, rfl, rfl⟩ ?_ ?_
    · rintro i σ F2 hi ⟨y2, y3, rfl, rfl⟩
      have hn : ls[i]? = some (ls[i]'(by omega)) := List.getElem?_eq_getElem _
      have hia : as[i]? = some as[i] := List.getElem?_eq_getElem hi
      obtain ⟨ys, h1, h2⟩ := hf.rows i as[i] _ hia hn
      rw [if_pos hi] at h2
      have hzi : zs[i]? = some (zs[i]'(by omega)) := List.getElem?_eq_getElem _
      have hze := hzp i _ hzi _ hn
      have at1 : atI (as.map V.ref) ((0 : Int) + (i : Int)) = some (.ref as[i]) := AU.atN (j := i) (by omega) (by rw [List.getElem?_map, hia]; rfl)
      have at2 : atI (zs.map V.int) ((0 : Int) + (i : Int)) = some (.int (zs[i]'(by omega))) := AU.atN (j := i) (by omega) (by rw [List.getElem?_map, hzi]; rfl)
      walk_at "st"
      refine iteND (fun z => absurd (by omega) z) (fun _ => ?_)
      walk_at "st"
      exact ⟨_, _, rfl, rfl⟩
    · rintro σ F2 ⟨y2, y3, rfl, rfl⟩
      walk_at "st"
      exact q _ hf.s hf.hp
end
end OT

set_option Elab.async false
set_option linter.all false
set_option maxRecDepth 100000
set_option maxHeartbeats 4000000
namespace OT
open PySem PySem.Spec PyProof.Rows L2
local macro_rules | `(tactic| walk_at "sm") => `(tactic| first | assumption | ((with_reducible show Same _ (upd _ _ _)); (refine' AU.mutS ?s ?h; (case h => assumption); (case s => walk_at "sm"))) | fail)
local macro_rules | `(tactic| walk_at "le") => `(tactic| first | (refine Nat.le_of_lt (AU.line ?_); (try simp only [List.length_append, List.length_map, List.length_cons, List.length_nil, List.length_take, List.length_replicate]); omega) | fail)
local macro_rules | `(tactic| walk_at "ll") => `(tactic| first | (show 0 < sizeLine; decide) | (show 1 < sizeLine; decide) | (show 2 < sizeLine; decide) | (show 3 < sizeLine; decide) | (refine AU.line ?_; (try simp only [List.length_append, List.length_map, List.length_cons, List.length_nil, List.length_take, List.length_replicate]); omega) | fail)
local macro_rules | `(tactic| walk_at "hl") => `(tactic| first | assumption | exact upd_same | (refine' AU.climb ?s ?h; (case s => walk_at "sm"); (case h => walk_at "hl")) | fail)
local macro_rules | `(tactic| walk_at "sl") => `(tactic| first | assumption | (refine' AU.sqL ?h; (case h => walk_at "hl")) | (refine' AU.sqLS ?s ?h; (case s => walk_at "sm"); (case h => walk_at "sl")) | fail)
local macro_rules | `(tactic| walk_at "tl") => `(tactic| first | assumption | (refine' AU.sqT ?h; (case h => walk_at "hl")) | (refine' AU.sqTS ?s ?h; (case s => walk_at "sm"); (case h => walk_at "tl")) | fail)
local macro_rules | `(tactic| walk_at "sz") => `(tactic| first | (show 0 ≤ sizeLine; decide) | (show 1 ≤ sizeLine; decide) | (show 2 ≤ sizeLine; decide) | (show 3 ≤ sizeLine; decide) | (show 4 ≤ sizeLine; decide) | (show 5 ≤ sizeLine; decide) | (show 6 ≤ sizeLine; decide) | (show 7 ≤ sizeLine; decide) | (show 8 ≤ sizeLine; decide) | (show 9 ≤ sizeLine; decide) | (show 10 ≤ sizeLine; decide) | fail)
local macro_rules | `(tactic| walk_at "ci") => `(tactic| first | exact trivial | omega | (show (0 : Int) < _; omega) | (show CMul _ _; exact .inl ⟨by omega, by omega⟩) | (show CMul _ _; exact .inr ⟨by omega, by omega⟩) | (show CMul _ _; exact .inr (AU.b01 _)) | (show CMul _ _; exact .inl (AU.b01 _)) | (show CDiv _ _; exact ⟨by omega, by omega⟩) | (show _ ≠ (0 : Int); omega) | (show CDiv _ _; exact ⟨by decide, by decide⟩) | fail)
local macro_rules | `(tactic| walk_at "hh") => `(tactic| first | assumption | (refine' OT.HeldF.mono ?s ?h; (case s => walk_at "sm"); (case h => walk_at "hh")) | fail)
local macro_rules | `(tactic| walk_at "tyx") => `(tactic| first | exact .base (.int _) | exact .base (.bl _) | exact .base (.str _) | exact .base (.lst (by walk_at "hl")) | exact .base (.tup (by walk_at "hl")) | fail)
local macro_rules | `(tactic| walk_at "st1") => `(tactic| first | ((with_reducible show tSeq _ _ _ _ _); (try simp only [List.set_cons_zero, List.set_cons_succ]); refine AU.seq_ ?_) | ((with_reducible show tAsg _ _ _ _ _); refine AU.asg_ ?_) | ((with_reducible show gName _ _ _ _ _); refine AU.name_ ?_) | ((with_reducible show tDrop _ _ _ _); refine AU.drop_ ?_) | ((with_reducible show tRet _ _ _ _); refine AU.ret_ ?_) | ((with_reducible show tRetN _ _ _); refine AU.retN_ ?_) | ((with_reducible show tNext _ _ _); refine AU.next_ ?_) | ((with_reducible show tBreak _ _ _); refine AU.brk_ ?_) | ((with_reducible show tCont _ _ _); refine AU.cont_ ?_) | ((with_reducible show tIfS _ _ _ _ _ _); refine AU.ifs_ ?_) | ((with_reducible show tAug _ _ _ _ _ _); refine AU.aug_ rfl ?_) | ((with_reducible show Ends.nx (Ends.mk _ _ _ _) _ _); refine AU.nxm ?_) | ((with_reducible show Ends.rt (Ends.mk _ _ _ _) _ _); refine AU.rtm ?_) | ((with_reducible show Ends.bk (Ends.mk _ _ _ _) _ _); refine AU.bkm ?_) | ((with_reducible show Ends.ct (Ends.mk _ _ _ _) _ _); refine AU.ctm ?_) | ((with_reducible show tVar _ _ _ _); refine AU.var_ rfl ?_) | ((with_reducible show tC _ _ _ _); refine AU.c_ ?_) | ((with_reducible show tOp _ _ _ _ _ _); refine AU.op_ ?_) | ((with_reducible show tUn _ _ _ _ _); refine AU.un_ ?_) | ((with_reducible show rU _ _ _ _); refine AU.u_ ?_) | ((with_reducible show rI0 _ _ _ _ _); refine AU.i0_ ?_) | ((with_reducible show rI _ _ _ _ _ _); refine AU.i_ (by walk_at "ci") ?_) | ((with_reducible show rEq (V.int _) (V.int _) _ _); first | (with_reducible refine AU.eqr_ ?_) | refine AU.eqi_ ?_) | ((with_reducible show rEq (V.str _) (V.str _) _ _); (with_reducible refine AU.eqs_ ?_)) | ((with_reducible show rNe (V.int _) (V.int _) _ _); refine AU.nei_ ?_) | ((with_reducible show rEq _ _ _ _); refine AU.eq_ rfl ?_) | ((with_reducible show rNe _ _ _ _); refine AU.ne_ rfl ?_) | ((with_reducible show tTest _ _ _ _); refine AU.test_ ?_) | ((with_reducible show tB _ _ _ _); refine AU.b_ ?_) | ((with_reducible show tAnd _ _ _ _ _); refine AU.and_ ?_) | ((with_reducible show tOr _ _ _ _ _); refine AU.or_ ?_) | ((with_reducible show tNot _ _ _ _); refine AU.not_ ?_) | ((with_reducible show tAndV _ _ _ _ _); refine AU.andV_ ?_) | ((with_reducible show tOrV _ _ _ _ _); refine AU.orV_ ?_) | ((with_reducible show tNotV _ _ _ _); refine AU.notV_ ?_) | ((with_reducible show tIf _ _ _ _ _ _); refine AU.if_ ?_) | ((with_reducible show tNil _ _ _); refine AU.nil_ ?_) | ((with_reducible show tCons _ _ _ _ _); refine AU.cons_ ?_) | ((with_reducible show tLst _ _ _ _); refine AU.lst_ ?_) | ((with_reducible show tTup _ _ _ _); refine AU.tup_ ?_) | ((with_reducible show tCall _ _ _ _ _ _ _); refine AU.call_ ?_) | ((with_reducible show tCallS _ _ _ _ _ _); refine AU.callS_ ?_) | ((with_reducible show tCB _ _ _ _ _); refine AU.cb_ ?_) | ((with_reducible show tBM _ _ _ _ _ _ _ _); refine AU.bm_ ?_) | ((with_reducible show rIxL _ _ _ _ _); refine AU.ixL_ (by walk_at "sl") (by first | assumption | rfl) ?_) | ((with_reducible show rIxT _ _ _ _ _); refine AU.ixT_ (by walk_at "tl") (by first | assumption | rfl) ?_) | ((with_reducible show Evl.rLenS _ _ _ _); first | refine AU.lenL_ (by walk_at "sl") ?_ | refine AU.lenT_ (by walk_at "tl") ?_) | ((with_reducible show rAppend (V.ref _) [_] _ _); refine AU.app_ (by walk_at "hl") (by walk_at "ll") ?_) | ((with_reducible show tyV _ _ (V.ref _) _ ∧ _); refine AU.tyl_ (by walk_at "sl") ?_) | ((with_reducible show rCat (V.ref _) (V.ref _) _ _); refine AU.cat_ (by walk_at "hl") (by walk_at "hl") (by walk_at "le") ?_) | ((with_reducible show tFor _ _ _ _ _ _); refine AU.for_ ?_) | ((with_reducible show tLc _ _ _ _ _ _ _ _); refine AU.lc_ ?_) | ((with_reducible show iRng1 _ _ _ _); refine AU.rng1_ ?_) | ((with_reducible show iList _ _ _ _ _); refine AU.list_ ?_) | ((with_reducible show iTup _ _ _ _ _); refine AU.itup_ ?_) | ((with_reducible show (∃ i, [V.bl _] = [V.int i] ∧ _) ∨ _); refine AU.intb_ ?_) | ((with_reducible show (∃ i, [V.int _] = [V.int i] ∧ _) ∨ _); refine AU.inti_ ?_) | ((with_reducible show tYes _ _ _); refine AU.yes_ ?_) | ((with_reducible show ∃ p ys, [V.ref _] = [V.ref p] ∧ (SqL _ _ p ys ∨ SqT _ _ p ys) ∧ _); first | refine AU.listof_ (by walk_at "sl") ?_ | refine AU.listofT_ (by walk_at "tl") ?_) | ((with_reducible show ∃ p ys, [V.ref _] = [V.ref p] ∧ ((SqL _ _ p ys ∧ _) ∨ (SqT _ _ p ys ∧ _))); first | refine AU.tupleof_ (by walk_at "sl") ?_ | refine AU.tupleofT_ (by walk_at "tl") ?_) | ((with_reducible show V.non = V.non ∧ _); refine ⟨rfl, ?_⟩) | ((with_reducible show OT.rIsX _ _ _ _ [V.ref _, _] _ _); refine OT.isX_ (by walk_at "hh") (by first | exact .own _ | exact .ty _) (by assumption) ?_) | ((with_reducible show OT.tFA _ _ _ _ _ _ _ _ _); refine OT.fA_ ?_) | ((with_reducible show OT.tCallE _ _ _ _ _ _ _ _); refine OT.callE_ ?_) | ((with_reducible show rIsi _ [_, _] _ _); refine OT.isi_ (by first | exact .own _ | exact .ty _) (by walk_at "tyx") (by first | assumption | exact kit_ty OT.kq_int_int | exact kit_ty OT.kq_int_bool | exact kit_ty OT.kq_bool_bool | exact kit_ty OT.kq_bool_int | exact kit_ty OT.kq_str_str | exact kit_ty OT.kq_tuple_tuple | exact kit_ty OT.kq_list_list | exact kit_ty OT.kq_list_tuple | exact kit_ty OT.kq_tuple_list | exact kit_ty OT.kq_list_int | exact kit_ty OT.kq_tuple_int | exact kit_ty OT.kq_list_bool | exact kit_ty OT.kq_tuple_bool | exact kit_ty OT.kq_str_int | exact kit_ty OT.kq_int_str | exact kit_ty OT.kq_int_list | exact kit_ty OT.kq_int_tuple | exact kit_ty OT.kq_bool_list | exact kit_ty OT.kq_bool_tuple) ?_) | ((with_reducible show ∃ k, V.bl _ = V.bl k ∧ _); refine AU.bool_ ?_) | ((with_reducible show tSl _ _ _ _ _ _ _); refine AU.sl_ ?_) | ((with_reducible show tNoPart _ _ _); refine AU.npart_ ?_) | ((with_reducible show tPart _ _ _ _); refine AU.part_ ?_) | ((with_reducible show ∃ k, V.int _ = V.int k ∧ rSlL _ _ _ (some k) _ _); refine AU.int1_ ?_) | ((with_reducible show rSlL _ (V.ref _) _ _ _ _); refine AU.slL_ (by walk_at "sl") ?_) | ((with_reducible refine AU.trueT ?_)) | ((with_reducible refine AU.refNon ?_)) | ((with_reducible refine AU.nonNon ?_)) | ((with_reducible refine AU.trueN ?_)) | ((with_reducible refine AU.falseN ?_)) | ((with_reducible refine AU.falseF ?_)) | fail)
local macro_rules | `(tactic| walk_at "st") => `(tactic| repeat walk_at "st1")
theorem rowsAt_of {H : Hp} : ∀ {as : List Addr} {ess : List (List Ent)}, as.length = ess.length → (∀ (i : Nat) (a : Addr) (es : List Ent), as[i]? = some a → ess[i]? = some es → ∃ xs, H a = some (.lst xs) ∧ Ents H xs es) → RowsAt H (as.map V.ref) ess
  | [], [], _, _ => .nil
  | [], _ :: _, h, _ => by cases h
  | _ :: _, [], h, _ => by cases h
  | a :: as, es :: ess, h, k => by
    obtain ⟨xs, h1, h2⟩ := k 0 a es rfl rfl
    exact .cons h1 h2 (rowsAt_of (Nat.succ.inj h) fun i b fs hi hf => k (i + 1) b fs hi hf)
theorem FrL.at_rows {H0 H : Hp} {p : Addr} {as : List Addr} {ess : List (List Ent)} (h : FrL H0 H p as ess) : RowsAt H (as.map V.ref) ess := rowsAt_of h.l h.rows
theorem lex_one {x y : Int} : HT.lexLt [x] [y] = true ↔ x < y := by
  show (if x = y then HT.lexLt [] [] else decide (x < y)) = true ↔ x < y
  by_cases h : x = y
  · rw [if_pos h, HT.lexLt_nil_nil]
    constructor
    · intro z
      cases z
    · intro z
      omega
  · rw [if_neg h, decide_eq_true_iff]
theorem tooth_valid {es : List Ent} (hv : Valid es) (hd : ∀ e ∈ es, e.1.length = 1) {n : Nat} (hn : 1 ≤ n) (k : Nat) : Valid (tooth es n k) := by
  refine ⟨?_, fun e he => ?_⟩
  · unfold tooth
    rw [List.pairwise_map]
    have h1 := (hv.asc.sublist (List.filter_sublist (p := fun e : Ent => decide (e.1.headD 0 % (n : Int) = (k : Int)))))
    refine List.Pairwise.imp_of_mem (fun {a b} ha hb hab => ?_) h1
    obtain ⟨ha1, ha2⟩ := List.mem_filter.mp ha
    obtain ⟨hb1, hb2⟩ := List.mem_filter.mp hb
    have ra := of_decide_eq_true ha2
    have rb := of_decide_eq_true hb2
    obtain ⟨x, hx⟩ := pl_one (hd a ha1)
    obtain ⟨y, hy⟩ := pl_one (hd b hb1)
    rw [hx, hy] at hab
    rw [hx] at ra
    rw [hy] at rb
    have ra' : x % (n : Int) = (k : Int) := ra
    have rb' : y % (n : Int) = (k : Int) := rb
    have lt := lex_one.mp hab
    show HT.lexLt [a.1.headD 0 / (n : Int)] [b.1.headD 0 / (n : Int)] = true
    rw [hx, hy]
    refine lex_one.mpr ?_
    show x / (n : Int) < y / (n : Int)
    have e1 := Int.mul_ediv_add_emod x (n : Int)
    have e2 := Int.mul_ediv_add_emod y (n : Int)
    have n0 : (0 : Int) < (n : Int) := by omega
    have : (n : Int) * (x / (n : Int)) < (n : Int) * (y / (n : Int)) := by omega
    exact Int.lt_of_mul_lt_mul_left this (Int.le_of_lt n0)
  · obtain ⟨g, hg, rfl⟩ := List.mem_map.mp he
    exact hv.nz g (List.mem_filter.mp hg).1
theorem tooth_dim {es : List Ent} {n k : Nat} : ∀ e ∈ tooth es n k, e.1.length = 1 := fun e he => by
  obtain ⟨g, hg, rfl⟩ := List.mem_map.mp he
  rfl
theorem tooth_len (es : List Ent) (n k : Nat) : (tooth es n k).length ≤ es.length := by
  unfold tooth
  rw [List.length_map]
  exact List.length_filter_le _ _
theorem combS_mem {es : List Ent} {n : Nat} {t : List Ent} (h : t ∈ combS es n) : ∃ k, t = tooth es n k := by
  obtain ⟨k, _, rfl⟩ := List.mem_map.mp h
  exact ⟨k, rfl⟩
theorem dimE_le1 {es : List Ent} (h : ∀ e ∈ es, e.1.length = 1) : dimE es ≤ 1 := by
  cases es with
  | nil => exact Nat.zero_le _
  | cons x r =>
    have := dimE_eq h (by intro z; cases z)
    omega
section
variable {P : Program} {w : World} {K : PySem.W.Frag} {mg : Str → Option Value} {base : Heap}
def spCombC : Sp := fun vs H Q _ => ∃ (a : Addr) (xs : List V) (es : List Ent) (n : Nat), vs = [.ref a, .int (n : Int)] ∧ H a = some (.lst xs) ∧ Ents H xs es ∧ 1 ≤ n ∧ n ≤ 1000 ∧ es.length ≤ 1000 ∧ (∀ e ∈ es, e.1.length = 1) ∧ ∀ p as H', FrL H H' p as (combS es n) → Q (.ref p) H'
theorem combC {O : Addr} : ∀ vs H Q E, spCombC vs H Q E → spComb K O vs H Q E0 := fun vs H Q E ⟨a, xs, es, n, e, ha, hE, h1, h2, hz, hd, q⟩ =>
  ⟨a, xs, es, n, e, ha, hE, h1, h2, hz, fun h => absurd h (by have := dimE_le1 hd; omega), .inl hd, fun _ => q⟩
def spCombs : Sp := fun vs H Q _ => ∃ (a b : Addr) (xs us : List V) (es : List Ent) (n : Nat), vs = [.ref a, .ref b] ∧ H a = some (.lst xs) ∧ Ents H xs es ∧ Valid es ∧ (∀ e ∈ es, e.1.length = 1) ∧ es.length ≤ 1000 ∧ 1 ≤ n ∧ n ≤ 1000 ∧ H b = some (.lst us) ∧ RowsAt H us (combS es n) ∧ ∀ H', Same H H' → Q (.bl true) H'
theorem c__law_combs {f : Addr} {fd : FuncData} (D : C8.Def K mg "_law_combs" s__law_combs f fd) (b : Binds K fd ["_law_row_here", "_law_expected"] []) (T : Bi mg) (c_comb : C8.Cal P w K mg base 6 "comb" spCombC []) (c__law_same : C8.Cal P w K mg base 4 "_law_same" (spSame K) []) (c__law_same_list : C8.Cal P w K mg base 5 "_law_same_list" spSameL []) (c__law_apart : C8.Cal P w K mg base 1 "_law_apart" spApart []) : C8.Cal P w K mg base 7 "_law_combs" spCombs [] := by
  refine C8.cal0 D b .nil sc__law_combs (fun vs H Q E h => ?_) (fun cdv A outer s H vs Q E hr h => ?_)
  · obtain ⟨a, b, xs, us, es, n, rfl, _⟩ := h
    rfl
  · obtain ⟨a, b, xs, us, es, n, rfl, ha, hE, hv, hd, hz, hn1, hn, hb, hR, q⟩ := h
    refine ⟨_, (pss_cons (ps_set (i := 2) sc__law_combs.nd rfl (Or.inl rfl) (pe_callTy call_list_of (by rfl) T.n_list OT.b_list (pa_cons (pv 0) pa_nil)))
  (pss_cons (ps_for PassesOwn.never rfl (pi_range1 rfl T.n_range (pa_cons pe_int pa_nil)) (pg_name (i := 3) sc__law_combs.nd rfl (Or.inl rfl)) (pss_cons (ps_set (i := 4) sc__law_combs.nd rfl (Or.inl rfl) (C8.pe_c c_comb hr (by decide) (by rfl) (pa_cons (pv 2) (pa_cons (pe_callB call_len_seq (by rfl) T.n_len OT.b_len (pa_cons (pv 1) pa_nil)) pa_nil))))
  (pss_cons (ps_if (PW.pt (pw_or (pt_not (pt_val (C8.pe_c c__law_same_list hr (by decide) (by rfl) (pa_cons (pv 4) (pa_cons (pv 1) pa_nil))))) (pw_or1 (pt_not (pt_val (C8.pe_c c__law_apart hr (by decide) (by rfl) (pa_cons (pv 4) pa_nil))))))) (pss_one (ps_ret pe_bl)) pss_nil)
  (pss_cons (ps_expr (pe_bm PySem.F.plainAttrs_list PySem.F.slot_list_append PySem.F.type_list_append mt_append (pv 4) (pa_cons (pe_lst pa_nil) pa_nil)))
  (pss_one (ps_if (pt_not (pt_val (C8.pe_c c__law_same hr (by decide) (by rfl) (pa_cons (pv 2) (pa_cons (pv 0) pa_nil))))) (pss_one (ps_ret pe_bl)) pss_nil))))))
  (pss_one (ps_ret pe_bl)))), ?_⟩
    have hul := hR.len
    rw [combS_len] at hul
    walk_at "st"
    intro l1 nl1; generalize eH1 : upd _ l1 _ = H1; have s1 := AU.newS nl1 eH1; have hl1 := AU.newH eH1; clear eH1
    have ha1 := s1 _ _ ha
    have hb1 := s1 _ _ hb
    have hE1 := hE.mono s1
    have hR1 := hR.mono s1
    walk_at "st"
    refine ⟨2, rfl, by decide, by decide, ?_⟩
    refine for_range (lo := 0) (n := 2) (fun i σ H2 => ∃ y3 y4, σ = [some (.ref a), some (.ref b), some (.ref l1), y3, y4] ∧ Same H1 H2) ⟨none, none, rfl, Same.refl _⟩ ?_ ?_
    · rintro i σ H2 hi ⟨y3, y4, rfl, s2⟩
      have hl2 := s2 _ _ hl1
      have ha2 := s2 _ _ ha1
      have hb2 := s2 _ _ hb1
      walk_at "st"
      rw [hul]
      refine ⟨l1, xs, es, n, rfl, hl2, hE1.mono s2, hn1, hn, hz, hd, fun p as H3 hF => ?_⟩
      have s3 := hF.s
      walk_at "st"
      refine ⟨p, b, _, us, combS es n, rfl, hF.hp, hF.at_rows, s3 _ _ hb2, (hR1.mono s2).mono s3, by rw [combS_len]; exact hn, fun t ht => ?_, ?_⟩
      · obtain ⟨k, rfl⟩ := combS_mem ht
        have := tooth_len es n k
        exact ⟨⟨1, tooth_valid hv hd hn1 k, by decide, by decide, tooth_dim⟩, by omega⟩
      walk_at "st"
      refine ⟨H2, p, as, combS es n, rfl, hF, by rw [combS_len]; exact hn, fun t ht => ?_, fun H4 s4 hp4 => ?_⟩
      · obtain ⟨k, rfl⟩ := combS_mem ht
        have := tooth_len es n k
        omega
      have hal : as.length ≤ 1000 := by rw [hF.l, combS_len]; exact hn
      have npF := hF.np
      clear hF s3
      walk_at "st"
      refine ⟨by walk_at "sz", fun l5 nl5 => ?_⟩; generalize eH5 : upd _ l5 _ = H5; have s5 := AU.newS nl5 eH5; have hl5 := AU.newH eH5; clear eH5
      have hp5 := s5 _ _ hp4
      walk_at "st"
      have s6 : Same H2 (upd H5 p (.lst (as.map V.ref ++ [.ref l5]))) := AU.mutS (s4.trans s5) npF
      generalize upd H5 p (.lst (as.map V.ref ++ [.ref l5])) = H6 at s6 ⊢
      have s26 := s2.trans s6
      refine ⟨l1, a, xs, xs, es, 1, rfl, s6 _ _ hl2, hE1.mono s26, s6 _ _ ha2, hE1.mono s26, ⟨hv, by decide, by decide, hd⟩, by omega, ?_⟩
      walk_at "st"
      exact ⟨_, _, rfl, s26⟩
    · rintro σ H2 ⟨y3, y4, rfl, s2⟩
      walk_at "st"
      exact q _ (s1.trans s2)
end
end OT

set_option Elab.async false
set_option linter.all false
set_option maxRecDepth 100000
set_option maxHeartbeats 4000000
namespace OT
open PySem PySem.Spec PyProof.Rows L2
local macro_rules | `(tactic| walk_at "sm") => `(tactic| first | assumption | ((with_reducible show Same _ (upd _ _ _)); (refine' AU.mutS ?s ?h; (case h => assumption); (case s => walk_at "sm"))) | fail)
local macro_rules | `(tactic| walk_at "le") => `(tactic| first | (refine Nat.le_of_lt (AU.line ?_); (try simp only [List.length_append, List.length_map, List.length_cons, List.length_nil, List.length_take, List.length_replicate]); omega) | fail)
local macro_rules | `(tactic| walk_at "ll") => `(tactic| first | (show 0 < sizeLine; decide) | (show 1 < sizeLine; decide) | (show 2 < sizeLine; decide) | (show 3 < sizeLine; decide) | (refine AU.line ?_; (try simp only [List.length_append, List.length_map, List.length_cons, List.length_nil, List.length_take, List.length_replicate]); omega) | fail)
local macro_rules | `(tactic| walk_at "hl") => `(tactic| first | assumption | exact upd_same | (refine' AU.climb ?s ?h; (case s => walk_at "sm"); (case h => walk_at "hl")) | fail)
local macro_rules | `(tactic| walk_at "sl") => `(tactic| first | assumption | (refine' AU.sqL ?h; (case h => walk_at "hl")) | (refine' AU.sqLS ?s ?h; (case s => walk_at "sm"); (case h => walk_at "sl")) | fail)
local macro_rules | `(tactic| walk_at "tl") => `(tactic| first | assumption | (refine' AU.sqT ?h; (case h => walk_at "hl")) | (refine' AU.sqTS ?s ?h; (case s => walk_at "sm"); (case h => walk_at "tl")) | fail)
local macro_rules | `(tactic| walk_at "sz") => `(tactic| first | (show 0 ≤ sizeLine; decide) | (show 1 ≤ sizeLine; decide) | (show 2 ≤ sizeLine; decide) | (show 3 ≤ sizeLine; decide) | (show 4 ≤ sizeLine; decide) | (show 5 ≤ sizeLine; decide) | (show 6 ≤ sizeLine; decide) | (show 7 ≤ sizeLine; decide) | (show 8 ≤ sizeLine; decide) | (show 9 ≤ sizeLine; decide) | (show 10 ≤ sizeLine; decide) | fail)
local macro_rules | `(tactic| walk_at "ci") => `(tactic| first | exact trivial | omega | (show (0 : Int) < _; omega) | (show CMul _ _; exact .inl ⟨by omega, by omega⟩) | (show CMul _ _; exact .inr ⟨by omega, by omega⟩) | (show CMul _ _; exact .inr (AU.b01 _)) | (show CMul _ _; exact .inl (AU.b01 _)) | (show CDiv _ _; exact ⟨by omega, by omega⟩) | (show _ ≠ (0 : Int); omega) | (show CDiv _ _; exact ⟨by decide, by decide⟩) | fail)
local macro_rules | `(tactic| walk_at "hh") => `(tactic| first | assumption | (refine' OT.HeldF.mono ?s ?h; (case s => walk_at "sm"); (case h => walk_at "hh")) | fail)
local macro_rules | `(tactic| walk_at "tyx") => `(tactic| first | exact .base (.int _) | exact .base (.bl _) | exact .base (.str _) | exact .base (.lst (by walk_at "hl")) | exact .base (.tup (by walk_at "hl")) | fail)
local macro_rules | `(tactic| walk_at "st1") => `(tactic| first | ((with_reducible show tSeq _ _ _ _ _); (try simp only [List.set_cons_zero, List.set_cons_succ]); refine AU.seq_ ?_) | ((with_reducible show tAsg _ _ _ _ _); refine AU.asg_ ?_) | ((with_reducible show gName _ _ _ _ _); refine AU.name_ ?_) | ((with_reducible show tDrop _ _ _ _); refine AU.drop_ ?_) | ((with_reducible show tRet _ _ _ _); refine AU.ret_ ?_) | ((with_reducible show tRetN _ _ _); refine AU.retN_ ?_) | ((with_reducible show tNext _ _ _); refine AU.next_ ?_) | ((with_reducible show tBreak _ _ _); refine AU.brk_ ?_) | ((with_reducible show tCont _ _ _); refine AU.cont_ ?_) | ((with_reducible show tIfS _ _ _ _ _ _); refine AU.ifs_ ?_) | ((with_reducible show tAug _ _ _ _ _ _); refine AU.aug_ rfl ?_) | ((with_reducible show Ends.nx (Ends.mk _ _ _ _) _ _); refine AU.nxm ?_) | ((with_reducible show Ends.rt (Ends.mk _ _ _ _) _ _); refine AU.rtm ?_) | ((with_reducible show Ends.bk (Ends.mk _ _ _ _) _ _); refine AU.bkm ?_) | ((with_reducible show Ends.ct (Ends.mk _ _ _ _) _ _); refine AU.ctm ?_) | ((with_reducible show tVar _ _ _ _); refine AU.var_ rfl ?_) | ((with_reducible show tC _ _ _ _); refine AU.c_ ?_) | ((with_reducible show tOp _ _ _ _ _ _); refine AU.op_ ?_) | ((with_reducible show tUn _ _ _ _ _); refine AU.un_ ?_) | ((with_reducible show rU _ _ _ _); refine AU.u_ ?_) | ((with_reducible show rI0 _ _ _ _ _); refine AU.i0_ ?_) | ((with_reducible show rI _ _ _ _ _ _); refine AU.i_ (by walk_at "ci") ?_) | ((with_reducible show rEq (V.int _) (V.int _) _ _); first | (with_reducible refine AU.eqr_ ?_) | refine AU.eqi_ ?_) | ((with_reducible show rEq (V.str _) (V.str _) _ _); (with_reducible refine AU.eqs_ ?_)) | ((with_reducible show rNe (V.int _) (V.int _) _ _); refine AU.nei_ ?_) | ((with_reducible show rEq _ _ _ _); refine AU.eq_ rfl ?_) | ((with_reducible show rNe _ _ _ _); refine AU.ne_ rfl ?_) | ((with_reducible show tTest _ _ _ _); refine AU.test_ ?_) | ((with_reducible show tB _ _ _ _); refine AU.b_ ?_) | ((with_reducible show tAnd _ _ _ _ _); refine AU.and_ ?_) | ((with_reducible show tOr _ _ _ _ _); refine AU.or_ ?_) | ((with_reducible show tNot _ _ _ _); refine AU.not_ ?_) | ((with_reducible show tAndV _ _ _ _ _); refine AU.andV_ ?_) | ((with_reducible show tOrV _ _ _ _ _); refine AU.orV_ ?_) | ((with_reducible show tNotV _ _ _ _); refine AU.notV_ ?_) | ((with_reducible show tIf _ _ _ _ _ _); refine AU.if_ ?_) | ((with_reducible show tNil _ _ _); refine AU.nil_ ?_) | ((with_reducible show tCons _ _ _ _ _); refine AU.cons_ ?_) | ((with_reducible show tLst _ _ _ _); refine AU.lst_ ?_) | ((with_reducible show tTup _ _ _ _); refine AU.tup_ ?_) | ((with_reducible show tCall _ _ _ _ _ _ _); refine AU.call_ ?_) | ((with_reducible show tCallS _ _ _ _ _ _); refine AU.callS_ ?_) | ((with_reducible show tCB _ _ _ _ _); refine AU.cb_ ?_) | ((with_reducible show tBM _ _ _ _ _ _ _ _); refine AU.bm_ ?_) | ((with_reducible show rIxL _ _ _ _ _); refine AU.ixL_ (by walk_at "sl") (by first | assumption | rfl) ?_) | ((with_reducible show rIxT _ _ _ _ _); refine AU.ixT_ (by walk_at "tl") (by first | assumption | rfl) ?_) | ((with_reducible show Evl.rLenS _ _ _ _); first | refine AU.lenL_ (by walk_at "sl") ?_ | refine AU.lenT_ (by walk_at "tl") ?_) | ((with_reducible show rAppend (V.ref _) [_] _ _); refine AU.app_ (by walk_at "hl") (by walk_at "ll") ?_) | ((with_reducible show tyV _ _ (V.ref _) _ ∧ _); refine AU.tyl_ (by walk_at "sl") ?_) | ((with_reducible show rCat (V.ref _) (V.ref _) _ _); refine AU.cat_ (by walk_at "hl") (by walk_at "hl") (by walk_at "le") ?_) | ((with_reducible show tFor _ _ _ _ _ _); refine AU.for_ ?_) | ((with_reducible show tLc _ _ _ _ _ _ _ _); refine AU.lc_ ?_) | ((with_reducible show iRng1 _ _ _ _); refine AU.rng1_ ?_) | ((with_reducible show iList _ _ _ _ _); refine AU.list_ ?_) | ((with_reducible show iTup _ _ _ _ _); refine AU.itup_ ?_) | ((with_reducible show (∃ i, [V.bl _] = [V.int i] ∧ _) ∨ _); refine AU.intb_ ?_) | ((with_reducible show (∃ i, [V.int _] = [V.int i] ∧ _) ∨ _); refine AU.inti_ ?_) | ((with_reducible show tYes _ _ _); refine AU.yes_ ?_) | ((with_reducible show ∃ p ys, [V.ref _] = [V.ref p] ∧ (SqL _ _ p ys ∨ SqT _ _ p ys) ∧ _); first | refine AU.listof_ (by walk_at "sl") ?_ | refine AU.listofT_ (by walk_at "tl") ?_) | ((with_reducible show ∃ p ys, [V.ref _] = [V.ref p] ∧ ((SqL _ _ p ys ∧ _) ∨ (SqT _ _ p ys ∧ _))); first | refine AU.tupleof_ (by walk_at "sl") ?_ | refine AU.tupleofT_ (by walk_at "tl") ?_) | ((with_reducible show V.non = V.non ∧ _); refine ⟨rfl, ?_⟩) | ((with_reducible show OT.rIsX _ _ _ _ [V.ref _, _] _ _); refine OT.isX_ (by walk_at "hh") (by first | exact .own _ | exact .ty _) (by assumption) ?_) | ((with_reducible show OT.tFA _ _ _ _ _ _ _ _ _); refine OT.fA_ ?_) | ((with_reducible show OT.tCallE _ _ _ _ _ _ _ _); refine OT.callE_ ?_) | ((with_reducible show rIsi _ [_, _] _ _); refine OT.isi_ (by first | exact .own _ | exact .ty _) (by walk_at "tyx") (by first | assumption | exact kit_ty OT.kq_int_int | exact kit_ty OT.kq_int_bool | exact kit_ty OT.kq_bool_bool | exact kit_ty OT.kq_bool_int | exact kit_ty OT.kq_str_str | exact kit_ty OT.kq_tuple_tuple | exact kit_ty OT.kq_list_list | exact kit_ty OT.kq_list_tuple | exact kit_ty OT.kq_tuple_list | exact kit_ty OT.kq_list_int | exact kit_ty OT.kq_tuple_int | exact kit_ty OT.kq_list_bool | exact kit_ty OT.kq_tuple_bool | exact kit_ty OT.kq_str_int | exact kit_ty OT.kq_int_str | exact kit_ty OT.kq_int_list | exact kit_ty OT.kq_int_tuple | exact kit_ty OT.kq_bool_list | exact kit_ty OT.kq_bool_tuple) ?_) | ((with_reducible show ∃ k, V.bl _ = V.bl k ∧ _); refine AU.bool_ ?_) | ((with_reducible show tSl _ _ _ _ _ _ _); refine AU.sl_ ?_) | ((with_reducible show tNoPart _ _ _); refine AU.npart_ ?_) | ((with_reducible show tPart _ _ _ _); refine AU.part_ ?_) | ((with_reducible show ∃ k, V.int _ = V.int k ∧ rSlL _ _ _ (some k) _ _); refine AU.int1_ ?_) | ((with_reducible show rSlL _ (V.ref _) _ _ _ _); refine AU.slL_ (by walk_at "sl") ?_) | ((with_reducible refine AU.trueT ?_)) | ((with_reducible refine AU.refNon ?_)) | ((with_reducible refine AU.nonNon ?_)) | ((with_reducible refine AU.trueN ?_)) | ((with_reducible refine AU.falseN ?_)) | ((with_reducible refine AU.falseF ?_)) | fail)
local macro_rules | `(tactic| walk_at "st") => `(tactic| repeat walk_at "st1")
theorem mix_ones {ess : List (List Ent)} (h : ∀ es ∈ ess, ∀ e ∈ es, e.1.length = 1) : mixL ((dims ess).filter nz) = false := by
  have all : ∀ m ∈ (dims ess).filter nz, m = 1 := fun m hm => by
    obtain ⟨h1, h2⟩ := List.mem_filter.mp hm
    obtain ⟨es, he, rfl⟩ := List.mem_map.mp h1
    have := dimE_le1 (h es he)
    have : ((dimE es : Nat) : Int) ≠ 0 := of_decide_eq_true h2
    omega
  generalize (dims ess).filter nz = l at all
  unfold mixL
  cases hc : (l.map fun m => !decide (V.int m = V.int (l.headD 0))).any id with
  | false => rfl
  | true =>
    obtain ⟨x, hx, hx2⟩ := List.any_eq_true.mp hc
    obtain ⟨m, hm, rfl⟩ := List.mem_map.mp hx
    have h1 := all m hm
    have h2 : l.headD 0 = 1 := by
      cases l with
      | nil => cases hm
      | cons y r => exact all y List.mem_cons_self
    rw [h1, h2] at hx2
    simp at hx2
section
variable {P : Program} {w : World} {K : PySem.W.Frag} {mg : Str → Option Value} {base : Heap}
def spUncombC : Sp := fun vs H Q _ => ∃ (a : Addr) (us : List V) (ess : List (List Ent)), vs = [.ref a] ∧ H a = some (.lst us) ∧ RowsAt H us ess ∧ ess.length ≤ 1000 ∧ (wL ess.length 0 ess).length ≤ 100000 ∧ (∀ es ∈ ess, Valid es) ∧ (∀ es ∈ ess, ∀ e ∈ es, e.1.length = 1) ∧ wantRow H (wL ess.length 0 ess) Q
theorem uncombC {O M : Addr} : ∀ vs H Q E, spUncombC vs H Q E → spUncomb K O M vs H Q E0 := fun vs H Q E ⟨a, us, ess, e, ha, hR, hz, hw, hv, hd, q⟩ => by
  have hm := mix_ones hd
  refine ⟨a, us, ess, e, AU.sqL ha, hR, hz, hw, hv, fun h => ?_, fun _ es he h => ?_, fun _ _ => ⟨hd, q⟩⟩
  · rw [hm] at h
    cases h
  · have := dimE_le1 (hd es he)
    omega
def spUncs : Sp := fun vs H Q _ => ∃ (a g c : Addr) (us gs ws : List V) (ess : List (List Ent)) (r : List Ent), vs = [.ref a, .ref g, .ref c] ∧ H a = some (.lst us) ∧ RowsAt H us ess ∧ H g = some (.lst gs) ∧ RowsAt H gs ess ∧ H c = some (.lst ws) ∧ Ents H ws r ∧ RowIs r (wL ess.length 0 ess) ∧ ess.length ≤ 1000 ∧ (wL ess.length 0 ess).length ≤ 10000 ∧ (∀ es ∈ ess, Valid es ∧ es.length ≤ 1000) ∧ (∀ es ∈ ess, ∀ e ∈ es, e.1.length = 1) ∧ ∀ H', Same H H' → Q (.bl true) H'
theorem c__law_uncombs {f : Addr} {fd : FuncData} (D : C8.Def K mg "_law_uncombs" s__law_uncombs f fd) (b : Binds K fd ["_law_rows_here", "_law_given", "_law_whole_here"] []) (T : Bi mg) (c_uncomb : C8.Cal P w K mg base 6 "uncomb" spUncombC []) (c__law_same : C8.Cal P w K mg base 4 "_law_same" (spSame K) []) (c__law_same_list : C8.Cal P w K mg base 5 "_law_same_list" spSameL []) : C8.Cal P w K mg base 7 "_law_uncombs" spUncs [] := by
  refine C8.cal0 D b .nil sc__law_uncombs (fun vs H Q E h => ?_) (fun cdv A outer s H vs Q E hr h => ?_)
  · obtain ⟨a, g, c, us, gs, ws, ess, r, rfl, _⟩ := h
    rfl
  · obtain ⟨a, g, c, us, gs, ws, ess, r, rfl, ha, hR, hg, hG, hc, hE, hr0, hz, hw, hv, hd, q⟩ := h
    refine ⟨_, (pss_cons (ps_for PassesOwn.never rfl (pi_range1 rfl T.n_range (pa_cons pe_int pa_nil)) (pg_name (i := 3) sc__law_uncombs.nd rfl (Or.inl rfl)) (pss_cons (ps_set (i := 4) sc__law_uncombs.nd rfl (Or.inl rfl) (C8.pe_c c_uncomb hr (by decide) (by rfl) (pa_cons (pv 1) pa_nil)))
  (pss_cons (ps_if (pt_not (pt_val (C8.pe_c c__law_same hr (by decide) (by rfl) (pa_cons (pv 4) (pa_cons (pv 2) pa_nil))))) (pss_one (ps_ret pe_bl)) pss_nil)
  (pss_cons (ps_expr (pe_bm PySem.F.plainAttrs_list PySem.F.slot_list_append PySem.F.type_list_append mt_append (pv 4) (pa_cons pe_int pa_nil)))
  (pss_one (ps_if (pt_not (pt_val (C8.pe_c c__law_same_list hr (by decide) (by rfl) (pa_cons (pv 1) (pa_cons (pv 0) pa_nil))))) (pss_one (ps_ret pe_bl)) pss_nil))))))
  (pss_one (ps_ret pe_bl))), ?_⟩
    have hdr : ∀ e ∈ r, e.1.length = 1 := fun e he => by
      obtain ⟨x, hx, ex⟩ := hr0.mem he
      obtain ⟨_, _, _, _, h3⟩ := wL_mem hx
      rw [← ex, h3]
      rfl
    have hrl := hr0.len
    walk_at "st"
    refine ⟨2, rfl, by decide, by decide, ?_⟩
    refine for_range (lo := 0) (n := 2) (fun i σ H2 => ∃ y3 y4, σ = [some (.ref a), some (.ref g), some (.ref c), y3, y4] ∧ Same H H2) ⟨none, none, rfl, Same.refl _⟩ ?_ ?_
    · rintro i σ H2 hi ⟨y3, y4, rfl, s2⟩
      walk_at "st"
      refine ⟨g, gs, ess, rfl, s2 _ _ hg, hG.mono s2, hz, by omega, fun es he => (hv es he).1, hd, fun r3 p ws3 H3 hr3 s3 np hp hE3 => ?_⟩
      have er : r3 = r := hr3.one hr0
      subst er
      have s23 := s2.trans s3
      have hwl := hE3.len
      walk_at "st"
      refine ⟨p, c, ws3, ws, _, 1, rfl, hp, hE3, s23 _ _ hc, hE.mono s23, ⟨hr0.v, by decide, by decide, hdr⟩, by omega, ?_⟩
      walk_at "st"
      have s4 : Same H2 (upd H3 p (.lst (ws3 ++ [.int 0]))) := AU.mutS s3 np
      generalize upd H3 p (.lst (ws3 ++ [.int 0])) = H4 at s4 ⊢
      have s24 := s2.trans s4
      refine ⟨g, a, gs, us, ess, rfl, s24 _ _ hg, hG.mono s24, s24 _ _ ha, hR.mono s24, hz, fun es he => ⟨⟨1, (hv es he).1, by decide, by decide, hd es he⟩, by have := (hv es he).2; omega⟩, ?_⟩
      walk_at "st"
      exact ⟨_, _, rfl, s24⟩
    · rintro σ H2 ⟨y3, y4, rfl, s2⟩
      walk_at "st"
      exact q _ s2
end
end OT

set_option Elab.async false
set_option linter.all false
set_option maxRecDepth 100000
set_option maxHeartbeats 4000000
namespace OT
open PySem PySem.Spec PyProof.Rows L2
local macro_rules | `(tactic| walk_at "sm") => `(tactic| first | assumption | ((with_reducible show Same _ (upd _ _ _)); (refine' AU.mutS ?s ?h; (case h => assumption); (case s => walk_at "sm"))) | fail)
local macro_rules | `(tactic| walk_at "le") => `(tactic| first | (refine Nat.le_of_lt (AU.line ?_); (try simp only [List.length_append, List.length_map, List.length_cons, List.length_nil, List.length_take, List.length_replicate]); omega) | fail)
local macro_rules | `(tactic| walk_at "ll") => `(tactic| first | (show 0 < sizeLine; decide) | (show 1 < sizeLine; decide) | (show 2 < sizeLine; decide) | (show 3 < sizeLine; decide) | (refine AU.line ?_; (try simp only [List.length_append, List.length_map, List.length_cons, List.length_nil, List.length_take, List.length_replicate]); omega) | fail)
local macro_rules | `(tactic| walk_at "hl") => `(tactic| first | assumption | exact upd_same | (refine' AU.climb ?s ?h; (case s => walk_at "sm"); (case h => walk_at "hl")) | fail)
local macro_rules | `(tactic| walk_at "sl") => `(tactic| first | assumption | (refine' AU.sqL ?h; (case h => walk_at "hl")) | (refine' AU.sqLS ?s ?h; (case s => walk_at "sm"); (case h => walk_at "sl")) | fail)
local macro_rules | `(tactic| walk_at "tl") => `(tactic| first | assumption | (refine' AU.sqT ?h; (case h => walk_at "hl")) | (refine' AU.sqTS ?s ?h; (case s => walk_at "sm"); (case h => walk_at "tl")) | fail)
local macro_rules | `(tactic| walk_at "sz") => `(tactic| first | (show 0 ≤ sizeLine; decide) | (show 1 ≤ sizeLine; decide) | (show 2 ≤ sizeLine; decide) | (show 3 ≤ sizeLine; decide) | (show 4 ≤ sizeLine; decide) | (show 5 ≤ sizeLine; decide) | (show 6 ≤ sizeLine; decide) | (show 7 ≤ sizeLine; decide) | (show 8 ≤ sizeLine; decide) | (show 9 ≤ sizeLine; decide) | (show 10 ≤ sizeLine; decide) | fail)
local macro_rules | `(tactic| walk_at "ci") => `(tactic| first | exact trivial | omega | (show (0 : Int) < _; omega) | (show CMul _ _; exact .inl ⟨by omega, by omega⟩) | (show CMul _ _; exact .inr ⟨by omega, by omega⟩) | (show CMul _ _; exact .inr (AU.b01 _)) | (show CMul _ _; exact .inl (AU.b01 _)) | (show CDiv _ _; exact ⟨by omega, by omega⟩) | (show _ ≠ (0 : Int); omega) | (show CDiv _ _; exact ⟨by decide, by decide⟩) | fail)
local macro_rules | `(tactic| walk_at "hh") => `(tactic| first | assumption | (refine' OT.HeldF.mono ?s ?h; (case s => walk_at "sm"); (case h => walk_at "hh")) | fail)
local macro_rules | `(tactic| walk_at "tyx") => `(tactic| first | exact .base (.int _) | exact .base (.bl _) | exact .base (.str _) | exact .base (.lst (by walk_at "hl")) | exact .base (.tup (by walk_at "hl")) | fail)
local macro_rules | `(tactic| walk_at "st1") => `(tactic| first | ((with_reducible show tSeq _ _ _ _ _); (try simp only [List.set_cons_zero, List.set_cons_succ]); refine AU.seq_ ?_) | ((with_reducible show tAsg _ _ _ _ _); refine AU.asg_ ?_) | ((with_reducible show gName _ _ _ _ _); refine AU.name_ ?_) | ((with_reducible show tDrop _ _ _ _); refine AU.drop_ ?_) | ((with_reducible show tRet _ _ _ _); refine AU.ret_ ?_) | ((with_reducible show tRetN _ _ _); refine AU.retN_ ?_) | ((with_reducible show tNext _ _ _); refine AU.next_ ?_) | ((with_reducible show tBreak _ _ _); refine AU.brk_ ?_) | ((with_reducible show tCont _ _ _); refine AU.cont_ ?_) | ((with_reducible show tIfS _ _ _ _ _ _); refine AU.ifs_ ?_) | ((with_reducible show tAug _ _ _ _ _ _); refine AU.aug_ rfl ?_) | ((with_reducible show Ends.nx (Ends.mk _ _ _ _) _ _); refine AU.nxm ?_) | ((with_reducible show Ends.rt (Ends.mk _ _ _ _) _ _); refine AU.rtm ?_) | ((with_reducible show Ends.bk (Ends.mk _ _ _ _) _ _); refine AU.bkm ?_) | ((with_reducible show Ends.ct (Ends.mk _ _ _ _) _ _); refine AU.ctm ?_) | ((with_reducible show tVar _ _ _ _); refine AU.var_ rfl ?_) | ((with_reducible show tC _ _ _ _); refine AU.c_ ?_) | ((with_reducible show tOp _ _ _ _ _ _); refine AU.op_ ?_) | ((with_reducible show tUn _ _ _ _ _); refine AU.un_ ?_) | ((with_reducible show rU _ _ _ _); refine AU.u_ ?_) | ((with_reducible show rI0 _ _ _ _ _); refine AU.i0_ ?_) | ((with_reducible show rI _ _ _ _ _ _); refine AU.i_ (by walk_at "ci") ?_) | ((with_reducible show rEq (V.int _) (V.int _) _ _); first | (with_reducible refine AU.eqr_ ?_) | refine AU.eqi_ ?_) | ((with_reducible show rEq (V.str _) (V.str _) _ _); (with_reducible refine AU.eqs_ ?_)) | ((with_reducible show rNe (V.int _) (V.int _) _ _); refine AU.nei_ ?_) | ((with_reducible show rEq _ _ _ _); refine AU.eq_ rfl ?_) | ((with_reducible show rNe _ _ _ _); refine AU.ne_ rfl ?_) | ((with_reducible show tTest _ _ _ _); refine AU.test_ ?_) | ((with_reducible show tB _ _ _ _); refine AU.b_ ?_) | ((with_reducible show tAnd _ _ _ _ _); refine AU.and_ ?_) | ((with_reducible show tOr _ _ _ _ _); refine AU.or_ ?_) | ((with_reducible show tNot _ _ _ _); refine AU.not_ ?_) | ((with_reducible show tAndV _ _ _ _ _); refine AU.andV_ ?_) | ((with_reducible show tOrV _ _ _ _ _); refine AU.orV_ ?_) | ((with_reducible show tNotV _ _ _ _); refine AU.notV_ ?_) | ((with_reducible show tIf _ _ _ _ _ _); refine AU.if_ ?_) | ((with_reducible show tNil _ _ _); refine AU.nil_ ?_) | ((with_reducible show tCons _ _ _ _ _); refine AU.cons_ ?_) | ((with_reducible show tLst _ _ _ _); refine AU.lst_ ?_) | ((with_reducible show tTup _ _ _ _); refine AU.tup_ ?_) | ((with_reducible show tCall _ _ _ _ _ _ _); refine AU.call_ ?_) | ((with_reducible show tCallS _ _ _ _ _ _); refine AU.callS_ ?_) | ((with_reducible show tCB _ _ _ _ _); refine AU.cb_ ?_) | ((with_reducible show tBM _ _ _ _ _ _ _ _); refine AU.bm_ ?_) | ((with_reducible show rIxL _ _ _ _ _); refine AU.ixL_ (by walk_at "sl") (by first | assumption | rfl) ?_) | ((with_reducible show rIxT _ _ _ _ _); refine AU.ixT_ (by walk_at "tl") (by first | assumption | rfl) ?_) | ((with_reducible show Evl.rLenS _ _ _ _); first | refine AU.lenL_ (by walk_at "sl") ?_ | refine AU.lenT_ (by walk_at "tl") ?_) | ((with_reducible show rAppend (V.ref _) [_] _ _); refine AU.app_ (by walk_at "hl") (by walk_at "ll") ?_) | ((with_reducible show tyV _ _ (V.ref _) _ ∧ _); refine AU.tyl_ (by walk_at "sl") ?_) | ((with_reducible show rCat (V.ref _) (V.ref _) _ _); refine AU.cat_ (by walk_at "hl") (by walk_at "hl") (by walk_at "le") ?_) | ((with_reducible show tFor _ _ _ _ _ _); refine AU.for_ ?_) | ((with_reducible show tLc _ _ _ _ _ _ _ _); refine AU.lc_ ?_) | ((with_reducible show iRng1 _ _ _ _); refine AU.rng1_ ?_) | ((with_reducible show iList _ _ _ _ _); refine AU.list_ ?_) | ((with_reducible show iTup _ _ _ _ _); refine AU.itup_ ?_) | ((with_reducible show (∃ i, [V.bl _] = [V.int i] ∧ _) ∨ _); refine AU.intb_ ?_) | ((with_reducible show (∃ i, [V.int _] = [V.int i] ∧ _) ∨ _); refine AU.inti_ ?_) | ((with_reducible show tYes _ _ _); refine AU.yes_ ?_) | ((with_reducible show ∃ p ys, [V.ref _] = [V.ref p] ∧ (SqL _ _ p ys ∨ SqT _ _ p ys) ∧ _); first | refine AU.listof_ (by walk_at "sl") ?_ | refine AU.listofT_ (by walk_at "tl") ?_) | ((with_reducible show ∃ p ys, [V.ref _] = [V.ref p] ∧ ((SqL _ _ p ys ∧ _) ∨ (SqT _ _ p ys ∧ _))); first | refine AU.tupleof_ (by walk_at "sl") ?_ | refine AU.tupleofT_ (by walk_at "tl") ?_) | ((with_reducible show V.non = V.non ∧ _); refine ⟨rfl, ?_⟩) | ((with_reducible show OT.rIsX _ _ _ _ [V.ref _, _] _ _); refine OT.isX_ (by walk_at "hh") (by first | exact .own _ | exact .ty _) (by assumption) ?_) | ((with_reducible show OT.tFA _ _ _ _ _ _ _ _ _); refine OT.fA_ ?_) | ((with_reducible show OT.tCallE _ _ _ _ _ _ _ _); refine OT.callE_ ?_) | ((with_reducible show rIsi _ [_, _] _ _); refine OT.isi_ (by first | exact .own _ | exact .ty _) (by walk_at "tyx") (by first | assumption | exact kit_ty OT.kq_int_int | exact kit_ty OT.kq_int_bool | exact kit_ty OT.kq_bool_bool | exact kit_ty OT.kq_bool_int | exact kit_ty OT.kq_str_str | exact kit_ty OT.kq_tuple_tuple | exact kit_ty OT.kq_list_list | exact kit_ty OT.kq_list_tuple | exact kit_ty OT.kq_tuple_list | exact kit_ty OT.kq_list_int | exact kit_ty OT.kq_tuple_int | exact kit_ty OT.kq_list_bool | exact kit_ty OT.kq_tuple_bool | exact kit_ty OT.kq_str_int | exact kit_ty OT.kq_int_str | exact kit_ty OT.kq_int_list | exact kit_ty OT.kq_int_tuple | exact kit_ty OT.kq_bool_list | exact kit_ty OT.kq_bool_tuple) ?_) | ((with_reducible show ∃ k, V.bl _ = V.bl k ∧ _); refine AU.bool_ ?_) | ((with_reducible show tSl _ _ _ _ _ _ _); refine AU.sl_ ?_) | ((with_reducible show tNoPart _ _ _); refine AU.npart_ ?_) | ((with_reducible show tPart _ _ _ _); refine AU.part_ ?_) | ((with_reducible show ∃ k, V.int _ = V.int k ∧ rSlL _ _ _ (some k) _ _); refine AU.int1_ ?_) | ((with_reducible show rSlL _ (V.ref _) _ _ _ _); refine AU.slL_ (by walk_at "sl") ?_) | ((with_reducible refine AU.trueT ?_)) | ((with_reducible refine AU.refNon ?_)) | ((with_reducible refine AU.nonNon ?_)) | ((with_reducible refine AU.trueN ?_)) | ((with_reducible refine AU.falseN ?_)) | ((with_reducible refine AU.falseF ?_)) | fail)
local macro_rules | `(tactic| walk_at "st") => `(tactic| repeat walk_at "st1")
section
variable {P : Program} {w : World} {K : PySem.W.Frag} {mg : Str → Option Value} {base : Heap}
/-- list(x) in a comprehension -/
def rListOf (K : PySem.W.Frag) : List V → Hp → VK → Prop := fun xs H Q => ∃ p ys, xs = [.ref p] ∧ (SqL K H p ys ∨ SqT K H p ys) ∧ ∀ l, H l = none → Q (.ref l) (upd H l (.lst ys))
def spCopies : Sp := fun vs H Q _ => ∃ (a : Addr) (us : List V) (ess : List (List Ent)), vs = [.ref a] ∧ H a = some (.lst us) ∧ RowsAt H us ess ∧ ess.length ≤ 1000 ∧ ∀ p as H', FrL H H' p as ess → Q (.ref p) H'
theorem c__law_copies {f : Addr} {fd : FuncData} (D : C8.Def K mg "_law_copies" s__law_copies f fd) (b : Binds K fd ["_law_rows_here"] []) (T : Bi mg) : C8.Cal P w K mg base 1 "_law_copies" spCopies [] := by
  refine C8.cal0 D b .nil sc__law_copies (fun vs H Q E h => ?_) (fun cdv A outer s H vs Q E hr h => ?_)
  · obtain ⟨a, us, ess, rfl, _⟩ := h
    rfl
  · obtain ⟨a, us, ess, rfl, ha, hR, hz, q⟩ := h
    refine ⟨_, (pss_one (ps_ret (pe_lc (own := [("_law_row_here", 1)]) (g := (gName 1)) (tt := tYes) rfl sc__law_copies.nd (pi_list (pv 0)) (blkOk_by (N := ["_law_rows_here", "_law_row_here"]) (sc := C8.fnScope s__law_copies) (by decide +kernel)) (fun _ _ _ _ _ => (pg_name (i := 1) sc__law_copies.nd rfl (Or.inl rfl))) (fun _ _ _ _ _ => pts_nil) (fun _ _ _ _ _ => (pe_callTy (show CallR _ _ (rListOf K) from call_list_of) (by rfl) T.n_list OT.b_list (pa_cons (pv 1) pa_nil)))))), ?_⟩
    have hul := hR.len
    refine ⟨_, rfl, a, rfl, ⟨_, AU.sqL ha⟩, fun D0 nD => ?_⟩
    refine lc_list (K := K) (xs := us) (fun i G => ∃ as, FrL H G D0 as (ess.take i)) ⟨[], FrL.start nD⟩ ?_ ?_ ?_
    · rintro i G _ ⟨as, hF⟩
      exact AU.sqL (hF.s _ _ ha)
    · rintro i x G hx ⟨as, hF⟩
      obtain ⟨r, xs, es, rfl, hes, hr0, hE⟩ := (hR.mono hF.s).get hx
      have hil := (List.getElem?_eq_some_iff.mp hes).1
      have hl := hF.l
      rw [List.length_take] at hl
      have hD := hF.hp
      walk_at "st"
      refine ⟨rfl, ?_⟩
      walk_at "st"
      refine ⟨r, xs, rfl, .inl (AU.sqL hr0), fun q1 nq => ?_⟩
      have sq : Same G (upd G q1 (.lst xs)) := same_upd nq
      have hq : (upd G q1 (.lst xs)) q1 = some (.lst xs) := upd_same
      have qa : q1 ∉ as := fun z => by
        obtain ⟨_, _, _, _, _, e, _⟩ := hF.at_ z
        rw [nq] at e
        cases e
      have qD : q1 ≠ D0 := (ne_of_none hD nq).symm
      refine ⟨_, sq _ _ hD, by rw [List.length_map]; exact small1000 (by omega), as ++ [q1], ?_⟩
      rw [List.take_add_one, hes]
      exact (hF.mono sq).pushR (AU.back hF.s nq) hq (hE.mono sq) qa qD
    · rintro G ⟨as, hF⟩
      rw [hul, List.take_length] at hF
      walk_at "st"
      exact q D0 as G hF
end
end OT

set_option Elab.async false
set_option linter.all false
set_option maxRecDepth 100000
set_option maxHeartbeats 4000000
namespace OT
open PySem PySem.Spec PyProof.Rows L2
local macro_rules | `(tactic| walk_at "sm") => `(tactic| first | assumption | ((with_reducible show Same _ (upd _ _ _)); (refine' AU.mutS ?s ?h; (case h => assumption); (case s => walk_at "sm"))) | fail)
local macro_rules | `(tactic| walk_at "le") => `(tactic| first | (refine Nat.le_of_lt (AU.line ?_); (try simp only [List.length_append, List.length_map, List.length_cons, List.length_nil, List.length_take, List.length_replicate]); omega) | fail)
local macro_rules | `(tactic| walk_at "ll") => `(tactic| first | (show 0 < sizeLine; decide) | (show 1 < sizeLine; decide) | (show 2 < sizeLine; decide) | (show 3 < sizeLine; decide) | (refine AU.line ?_; (try simp only [List.length_append, List.length_map, List.length_cons, List.length_nil, List.length_take, List.length_replicate]); omega) | fail)
local macro_rules | `(tactic| walk_at "hl") => `(tactic| first | assumption | exact upd_same | (refine' AU.climb ?s ?h; (case s => walk_at "sm"); (case h => walk_at "hl")) | fail)
local macro_rules | `(tactic| walk_at "sl") => `(tactic| first | assumption | (refine' AU.sqL ?h; (case h => walk_at "hl")) | (refine' AU.sqLS ?s ?h; (case s => walk_at "sm"); (case h => walk_at "sl")) | fail)
local macro_rules | `(tactic| walk_at "tl") => `(tactic| first | assumption | (refine' AU.sqT ?h; (case h => walk_at "hl")) | (refine' AU.sqTS ?s ?h; (case s => walk_at "sm"); (case h => walk_at "tl")) | fail)
local macro_rules | `(tactic| walk_at "sz") => `(tactic| first | (show 0 ≤ sizeLine; decide) | (show 1 ≤ sizeLine; decide) | (show 2 ≤ sizeLine; decide) | (show 3 ≤ sizeLine; decide) | (show 4 ≤ sizeLine; decide) | (show 5 ≤ sizeLine; decide) | (show 6 ≤ sizeLine; decide) | (show 7 ≤ sizeLine; decide) | (show 8 ≤ sizeLine; decide) | (show 9 ≤ sizeLine; decide) | (show 10 ≤ sizeLine; decide) | fail)
local macro_rules | `(tactic| walk_at "ci") => `(tactic| first | exact trivial | omega | (show (0 : Int) < _; omega) | (show CMul _ _; exact .inl ⟨by omega, by omega⟩) | (show CMul _ _; exact .inr ⟨by omega, by omega⟩) | (show CMul _ _; exact .inr (AU.b01 _)) | (show CMul _ _; exact .inl (AU.b01 _)) | (show CDiv _ _; exact ⟨by omega, by omega⟩) | (show _ ≠ (0 : Int); omega) | (show CDiv _ _; exact ⟨by decide, by decide⟩) | fail)
local macro_rules | `(tactic| walk_at "hh") => `(tactic| first | assumption | (refine' OT.HeldF.mono ?s ?h; (case s => walk_at "sm"); (case h => walk_at "hh")) | fail)
local macro_rules | `(tactic| walk_at "tyx") => `(tactic| first | exact .base (.int _) | exact .base (.bl _) | exact .base (.str _) | exact .base (.lst (by walk_at "hl")) | exact .base (.tup (by walk_at "hl")) | fail)
local macro_rules | `(tactic| walk_at "st1") => `(tactic| first | ((with_reducible show tSeq _ _ _ _ _); (try simp only [List.set_cons_zero, List.set_cons_succ]); refine AU.seq_ ?_) | ((with_reducible show tAsg _ _ _ _ _); refine AU.asg_ ?_) | ((with_reducible show gName _ _ _ _ _); refine AU.name_ ?_) | ((with_reducible show tDrop _ _ _ _); refine AU.drop_ ?_) | ((with_reducible show tRet _ _ _ _); refine AU.ret_ ?_) | ((with_reducible show tRetN _ _ _); refine AU.retN_ ?_) | ((with_reducible show tNext _ _ _); refine AU.next_ ?_) | ((with_reducible show tBreak _ _ _); refine AU.brk_ ?_) | ((with_reducible show tCont _ _ _); refine AU.cont_ ?_) | ((with_reducible show tIfS _ _ _ _ _ _); refine AU.ifs_ ?_) | ((with_reducible show tAug _ _ _ _ _ _); refine AU.aug_ rfl ?_) | ((with_reducible show Ends.nx (Ends.mk _ _ _ _) _ _); refine AU.nxm ?_) | ((with_reducible show Ends.rt (Ends.mk _ _ _ _) _ _); refine AU.rtm ?_) | ((with_reducible show Ends.bk (Ends.mk _ _ _ _) _ _); refine AU.bkm ?_) | ((with_reducible show Ends.ct (Ends.mk _ _ _ _) _ _); refine AU.ctm ?_) | ((with_reducible show tVar _ _ _ _); refine AU.var_ rfl ?_) | ((with_reducible show tC _ _ _ _); refine AU.c_ ?_) | ((with_reducible show tOp _ _ _ _ _ _); refine AU.op_ ?_) | ((with_reducible show tUn _ _ _ _ _); refine AU.un_ ?_) | ((with_reducible show rU _ _ _ _); refine AU.u_ ?_) | ((with_reducible show rI0 _ _ _ _ _); refine AU.i0_ ?_) | ((with_reducible show rI _ _ _ _ _ _); refine AU.i_ (by walk_at "ci") ?_) | ((with_reducible show rEq (V.int _) (V.int _) _ _); first | (with_reducible refine AU.eqr_ ?_) | refine AU.eqi_ ?_) | ((with_reducible show rEq (V.str _) (V.str _) _ _); (with_reducible refine AU.eqs_ ?_)) | ((with_reducible show rNe (V.int _) (V.int _) _ _); refine AU.nei_ ?_) | ((with_reducible show rEq _ _ _ _); refine AU.eq_ rfl ?_) | ((with_reducible show rNe _ _ _ _); refine AU.ne_ rfl ?_) | ((with_reducible show tTest _ _ _ _); refine AU.test_ ?_) | ((with_reducible show tB _ _ _ _); refine AU.b_ ?_) | ((with_reducible show tAnd _ _ _ _ _); refine AU.and_ ?_) | ((with_reducible show tOr _ _ _ _ _); refine AU.or_ ?_) | ((with_reducible show tNot _ _ _ _); refine AU.not_ ?_) | ((with_reducible show tAndV _ _ _ _ _); refine AU.andV_ ?_) | ((with_reducible show tOrV _ _ _ _ _); refine AU.orV_ ?_) | ((with_reducible show tNotV _ _ _ _); refine AU.notV_ ?_) | ((with_reducible show tIf _ _ _ _ _ _); refine AU.if_ ?_) | ((with_reducible show tNil _ _ _); refine AU.nil_ ?_) | ((with_reducible show tCons _ _ _ _ _); refine AU.cons_ ?_) | ((with_reducible show tLst _ _ _ _); refine AU.lst_ ?_) | ((with_reducible show tTup _ _ _ _); refine AU.tup_ ?_) | ((with_reducible show tCall _ _ _ _ _ _ _); refine AU.call_ ?_) | ((with_reducible show tCallS _ _ _ _ _ _); refine AU.callS_ ?_) | ((with_reducible show tCB _ _ _ _ _); refine AU.cb_ ?_) | ((with_reducible show tBM _ _ _ _ _ _ _ _); refine AU.bm_ ?_) | ((with_reducible show rIxL _ _ _ _ _); refine AU.ixL_ (by walk_at "sl") (by first | assumption | rfl) ?_) | ((with_reducible show rIxT _ _ _ _ _); refine AU.ixT_ (by walk_at "tl") (by first | assumption | rfl) ?_) | ((with_reducible show Evl.rLenS _ _ _ _); first | refine AU.lenL_ (by walk_at "sl") ?_ | refine AU.lenT_ (by walk_at "tl") ?_) | ((with_reducible show rAppend (V.ref _) [_] _ _); refine AU.app_ (by walk_at "hl") (by walk_at "ll") ?_) | ((with_reducible show tyV _ _ (V.ref _) _ ∧ _); refine AU.tyl_ (by walk_at "sl") ?_) | ((with_reducible show rCat (V.ref _) (V.ref _) _ _); refine AU.cat_ (by walk_at "hl") (by walk_at "hl") (by walk_at "le") ?_) | ((with_reducible show tFor _ _ _ _ _ _); refine AU.for_ ?_) | ((with_reducible show tLc _ _ _ _ _ _ _ _); refine AU.lc_ ?_) | ((with_reducible show iRng1 _ _ _ _); refine AU.rng1_ ?_) | ((with_reducible show iList _ _ _ _ _); refine AU.list_ ?_) | ((with_reducible show iTup _ _ _ _ _); refine AU.itup_ ?_) | ((with_reducible show (∃ i, [V.bl _] = [V.int i] ∧ _) ∨ _); refine AU.intb_ ?_) | ((with_reducible show (∃ i, [V.int _] = [V.int i] ∧ _) ∨ _); refine AU.inti_ ?_) | ((with_reducible show tYes _ _ _); refine AU.yes_ ?_) | ((with_reducible show ∃ p ys, [V.ref _] = [V.ref p] ∧ (SqL _ _ p ys ∨ SqT _ _ p ys) ∧ _); first | refine AU.listof_ (by walk_at "sl") ?_ | refine AU.listofT_ (by walk_at "tl") ?_) | ((with_reducible show ∃ p ys, [V.ref _] = [V.ref p] ∧ ((SqL _ _ p ys ∧ _) ∨ (SqT _ _ p ys ∧ _))); first | refine AU.tupleof_ (by walk_at "sl") ?_ | refine AU.tupleofT_ (by walk_at "tl") ?_) | ((with_reducible show V.non = V.non ∧ _); refine ⟨rfl, ?_⟩) | ((with_reducible show OT.rIsX _ _ _ _ [V.ref _, _] _ _); refine OT.isX_ (by walk_at "hh") (by first | exact .own _ | exact .ty _) (by assumption) ?_) | ((with_reducible show OT.tFA _ _ _ _ _ _ _ _ _); refine OT.fA_ ?_) | ((with_reducible show OT.tCallE _ _ _ _ _ _ _ _); refine OT.callE_ ?_) | ((with_reducible show rIsi _ [_, _] _ _); refine OT.isi_ (by first | exact .own _ | exact .ty _) (by walk_at "tyx") (by first | assumption | exact kit_ty OT.kq_int_int | exact kit_ty OT.kq_int_bool | exact kit_ty OT.kq_bool_bool | exact kit_ty OT.kq_bool_int | exact kit_ty OT.kq_str_str | exact kit_ty OT.kq_tuple_tuple | exact kit_ty OT.kq_list_list | exact kit_ty OT.kq_list_tuple | exact kit_ty OT.kq_tuple_list | exact kit_ty OT.kq_list_int | exact kit_ty OT.kq_tuple_int | exact kit_ty OT.kq_list_bool | exact kit_ty OT.kq_tuple_bool | exact kit_ty OT.kq_str_int | exact kit_ty OT.kq_int_str | exact kit_ty OT.kq_int_list | exact kit_ty OT.kq_int_tuple | exact kit_ty OT.kq_bool_list | exact kit_ty OT.kq_bool_tuple) ?_) | ((with_reducible show ∃ k, V.bl _ = V.bl k ∧ _); refine AU.bool_ ?_) | ((with_reducible show tSl _ _ _ _ _ _ _); refine AU.sl_ ?_) | ((with_reducible show tNoPart _ _ _); refine AU.npart_ ?_) | ((with_reducible show tPart _ _ _ _); refine AU.part_ ?_) | ((with_reducible show ∃ k, V.int _ = V.int k ∧ rSlL _ _ _ (some k) _ _); refine AU.int1_ ?_) | ((with_reducible show rSlL _ (V.ref _) _ _ _ _); refine AU.slL_ (by walk_at "sl") ?_) | ((with_reducible refine AU.trueT ?_)) | ((with_reducible refine AU.refNon ?_)) | ((with_reducible refine AU.nonNon ?_)) | ((with_reducible refine AU.trueN ?_)) | ((with_reducible refine AU.falseN ?_)) | ((with_reducible refine AU.falseF ?_)) | fail)
local macro_rules | `(tactic| walk_at "st") => `(tactic| repeat walk_at "st1")
section
variable {P : Program} {w : World} {K : PySem.W.Frag} {mg : Str → Option Value} {base : Heap}
def spOwT (K : PySem.W.Frag) : Sp := fun vs H Q _ => ∃ (a : Addr) (xs : List V) (es : List Ent) (n C : Nat), vs = [.ref a] ∧ TwoR K H a a xs xs es es n n C ∧ es.length * es.length < 2000 ∧ (∀ g ∈ es, -(2 ^ 64) < g.2 ∧ g.2 < 2 ^ 64) ∧ wantRow H (timesL es (mirP es)) Q
theorem ok_own_table {f M fM : Addr} {fd fdM : FuncData} (D : C8.Def K mg "own_table" s_own_table f fd) (T : Bi mg) (DM : C8.Def K mg "cross_table" s_cross_table fM fdM) (bM : Binds K fdM ["first", "second"] []) (GM : FnOk P w K mg base (L2.CX P w) 6 fM fdM ["first", "second"] (spCr K M)) : FnOk P w K mg base (L2.CX P w) 7 f fd ["row"] (spOwT K) := by
  obtain ⟨oc, od, dV, kV, doc, pm, an, cdv, ct, osl, rfl, lk, hcd⟩ := D.fn.ex
  refine fn_of lk hcd sc_own_table (fun vs H Q E h => ?_) fun A outer s H vs Q E hr h => ?_
  · obtain ⟨a, xs, es, n, C, rfl, _⟩ := h
    rfl
  · obtain ⟨a, xs, es, n, C, rfl, R, hz, hb, q⟩ := h
    refine ⟨_, (pss_one (ps_ret (pe_callS GM hr rfl DM.mgf DM.kp bM (fun σ => passAt (takes_of rfl rfl rfl rfl) σ) (pa_cons (pv 0) (pa_cons (pv 0) pa_nil))))), ?_⟩
    refine ⟨_, rfl, _, rfl, a, a, xs, xs, es, es, n, n, C, rfl, R, hz, hb, fun hm => ?_, fun _ => ⟨fun _ _ => rfl, q⟩⟩
    exact absurd rfl (of_decide_eq_true hm).2.2
end
end OT

set_option Elab.async false
set_option linter.all false
set_option maxRecDepth 100000
set_option maxHeartbeats 4000000
namespace OT
open PySem PySem.Spec PyProof.Rows L2
local macro_rules | `(tactic| walk_at "sm") => `(tactic| first | assumption | ((with_reducible show Same _ (upd _ _ _)); (refine' AU.mutS ?s ?h; (case h => assumption); (case s => walk_at "sm"))) | fail)
local macro_rules | `(tactic| walk_at "le") => `(tactic| first | (refine Nat.le_of_lt (AU.line ?_); (try simp only [List.length_append, List.length_map, List.length_cons, List.length_nil, List.length_take, List.length_replicate]); omega) | fail)
local macro_rules | `(tactic| walk_at "ll") => `(tactic| first | (show 0 < sizeLine; decide) | (show 1 < sizeLine; decide) | (show 2 < sizeLine; decide) | (show 3 < sizeLine; decide) | (refine AU.line ?_; (try simp only [List.length_append, List.length_map, List.length_cons, List.length_nil, List.length_take, List.length_replicate]); omega) | fail)
local macro_rules | `(tactic| walk_at "hl") => `(tactic| first | assumption | exact upd_same | (refine' AU.climb ?s ?h; (case s => walk_at "sm"); (case h => walk_at "hl")) | fail)
local macro_rules | `(tactic| walk_at "sl") => `(tactic| first | assumption | (refine' AU.sqL ?h; (case h => walk_at "hl")) | (refine' AU.sqLS ?s ?h; (case s => walk_at "sm"); (case h => walk_at "sl")) | fail)
local macro_rules | `(tactic| walk_at "tl") => `(tactic| first | assumption | (refine' AU.sqT ?h; (case h => walk_at "hl")) | (refine' AU.sqTS ?s ?h; (case s => walk_at "sm"); (case h => walk_at "tl")) | fail)
local macro_rules | `(tactic| walk_at "sz") => `(tactic| first | (show 0 ≤ sizeLine; decide) | (show 1 ≤ sizeLine; decide) | (show 2 ≤ sizeLine; decide) | (show 3 ≤ sizeLine; decide) | (show 4 ≤ sizeLine; decide) | (show 5 ≤ sizeLine; decide) | (show 6 ≤ sizeLine; decide) | (show 7 ≤ sizeLine; decide) | (show 8 ≤ sizeLine; decide) | (show 9 ≤ sizeLine; decide) | (show 10 ≤ sizeLine; decide) | fail)
local macro_rules | `(tactic| walk_at "ci") => `(tactic| first | exact trivial | omega | (show (0 : Int) < _; omega) | (show CMul _ _; exact .inl ⟨by omega, by omega⟩) | (show CMul _ _; exact .inr ⟨by omega, by omega⟩) | (show CMul _ _; exact .inr (AU.b01 _)) | (show CMul _ _; exact .inl (AU.b01 _)) | (show CDiv _ _; exact ⟨by omega, by omega⟩) | (show _ ≠ (0 : Int); omega) | (show CDiv _ _; exact ⟨by decide, by decide⟩) | fail)
local macro_rules | `(tactic| walk_at "hh") => `(tactic| first | assumption | (refine' OT.HeldF.mono ?s ?h; (case s => walk_at "sm"); (case h => walk_at "hh")) | fail)
local macro_rules | `(tactic| walk_at "tyx") => `(tactic| first | exact .base (.int _) | exact .base (.bl _) | exact .base (.str _) | exact .base (.lst (by walk_at "hl")) | exact .base (.tup (by walk_at "hl")) | fail)
local macro_rules | `(tactic| walk_at "st1") => `(tactic| first | ((with_reducible show tSeq _ _ _ _ _); (try simp only [List.set_cons_zero, List.set_cons_succ]); refine AU.seq_ ?_) | ((with_reducible show tAsg _ _ _ _ _); refine AU.asg_ ?_) | ((with_reducible show gName _ _ _ _ _); refine AU.name_ ?_) | ((with_reducible show tDrop _ _ _ _); refine AU.drop_ ?_) | ((with_reducible show tRet _ _ _ _); refine AU.ret_ ?_) | ((with_reducible show tRetN _ _ _); refine AU.retN_ ?_) | ((with_reducible show tNext _ _ _); refine AU.next_ ?_) | ((with_reducible show tBreak _ _ _); refine AU.brk_ ?_) | ((with_reducible show tCont _ _ _); refine AU.cont_ ?_) | ((with_reducible show tIfS _ _ _ _ _ _); refine AU.ifs_ ?_) | ((with_reducible show tAug _ _ _ _ _ _); refine AU.aug_ rfl ?_) | ((with_reducible show Ends.nx (Ends.mk _ _ _ _) _ _); refine AU.nxm ?_) | ((with_reducible show Ends.rt (Ends.mk _ _ _ _) _ _); refine AU.rtm ?_) | ((with_reducible show Ends.bk (Ends.mk _ _ _ _) _ _); refine AU.bkm ?_) | ((with_reducible show Ends.ct (Ends.mk _ _ _ _) _ _); refine AU.ctm ?_) | ((with_reducible show tVar _ _ _ _); refine AU.var_ rfl ?_) | ((with_reducible show tC _ _ _ _); refine AU.c_ ?_) | ((with_reducible show tOp _ _ _ _ _ _); refine AU.op_ ?_) | ((with_reducible show tUn _ _ _ _ _); refine AU.un_ ?_) | ((with_reducible show rU _ _ _ _); refine AU.u_ ?_) | ((with_reducible show rI0 _ _ _ _ _); refine AU.i0_ ?_) | ((with_reducible show rI _ _ _ _ _ _); refine AU.i_ (by walk_at "ci") ?_) | ((with_reducible show rEq (V.int _) (V.int _) _ _); first | (with_reducible refine AU.eqr_ ?_) | refine AU.eqi_ ?_) | ((with_reducible show rEq (V.str _) (V.str _) _ _); (with_reducible refine AU.eqs_ ?_)) | ((with_reducible show rNe (V.int _) (V.int _) _ _); refine AU.nei_ ?_) | ((with_reducible show rEq _ _ _ _); refine AU.eq_ rfl ?_) | ((with_reducible show rNe _ _ _ _); refine AU.ne_ rfl ?_) | ((with_reducible show tTest _ _ _ _); refine AU.test_ ?_) | ((with_reducible show tB _ _ _ _); refine AU.b_ ?_) | ((with_reducible show tAnd _ _ _ _ _); refine AU.and_ ?_) | ((with_reducible show tOr _ _ _ _ _); refine AU.or_ ?_) | ((with_reducible show tNot _ _ _ _); refine AU.not_ ?_) | ((with_reducible show tAndV _ _ _ _ _); refine AU.andV_ ?_) | ((with_reducible show tOrV _ _ _ _ _); refine AU.orV_ ?_) | ((with_reducible show tNotV _ _ _ _); refine AU.notV_ ?_) | ((with_reducible show tIf _ _ _ _ _ _); refine AU.if_ ?_) | ((with_reducible show tNil _ _ _); refine AU.nil_ ?_) | ((with_reducible show tCons _ _ _ _ _); refine AU.cons_ ?_) | ((with_reducible show tLst _ _ _ _); refine AU.lst_ ?_) | ((with_reducible show tTup _ _ _ _); refine AU.tup_ ?_) | ((with_reducible show tCall _ _ _ _ _ _ _); refine AU.call_ ?_) | ((with_reducible show tCallS _ _ _ _ _ _); refine AU.callS_ ?_) | ((with_reducible show tCB _ _ _ _ _); refine AU.cb_ ?_) | ((with_reducible show tBM _ _ _ _ _ _ _ _); refine AU.bm_ ?_) | ((with_reducible show rIxL _ _ _ _ _); refine AU.ixL_ (by walk_at "sl") (by first | assumption | rfl) ?_) | ((with_reducible show rIxT _ _ _ _ _); refine AU.ixT_ (by walk_at "tl") (by first | assumption | rfl) ?_) | ((with_reducible show Evl.rLenS _ _ _ _); first | refine AU.lenL_ (by walk_at "sl") ?_ | refine AU.lenT_ (by walk_at "tl") ?_) | ((with_reducible show rAppend (V.ref _) [_] _ _); refine AU.app_ (by walk_at "hl") (by walk_at "ll") ?_) | ((with_reducible show tyV _ _ (V.ref _) _ ∧ _); refine AU.tyl_ (by walk_at "sl") ?_) | ((with_reducible show rCat (V.ref _) (V.ref _) _ _); refine AU.cat_ (by walk_at "hl") (by walk_at "hl") (by walk_at "le") ?_) | ((with_reducible show tFor _ _ _ _ _ _); refine AU.for_ ?_) | ((with_reducible show tLc _ _ _ _ _ _ _ _); refine AU.lc_ ?_) | ((with_reducible show iRng1 _ _ _ _); refine AU.rng1_ ?_) | ((with_reducible show iList _ _ _ _ _); refine AU.list_ ?_) | ((with_reducible show iTup _ _ _ _ _); refine AU.itup_ ?_) | ((with_reducible show (∃ i, [V.bl _] = [V.int i] ∧ _) ∨ _); refine AU.intb_ ?_) | ((with_reducible show (∃ i, [V.int _] = [V.int i] ∧ _) ∨ _); refine AU.inti_ ?_) | ((with_reducible show tYes _ _ _); refine AU.yes_ ?_) | ((with_reducible show ∃ p ys, [V.ref _] = [V.ref p] ∧ (SqL _ _ p ys ∨ SqT _ _ p ys) ∧ _); first | refine AU.listof_ (by walk_at "sl") ?_ | refine AU.listofT_ (by walk_at "tl") ?_) | ((with_reducible show ∃ p ys, [V.ref _] = [V.ref p] ∧ ((SqL _ _ p ys ∧ _) ∨ (SqT _ _ p ys ∧ _))); first | refine AU.tupleof_ (by walk_at "sl") ?_ | refine AU.tupleofT_ (by walk_at "tl") ?_) | ((with_reducible show V.non = V.non ∧ _); refine ⟨rfl, ?_⟩) | ((with_reducible show OT.rIsX _ _ _ _ [V.ref _, _] _ _); refine OT.isX_ (by walk_at "hh") (by first | exact .own _ | exact .ty _) (by assumption) ?_) | ((with_reducible show OT.tFA _ _ _ _ _ _ _ _ _); refine OT.fA_ ?_) | ((with_reducible show OT.tCallE _ _ _ _ _ _ _ _); refine OT.callE_ ?_) | ((with_reducible show rIsi _ [_, _] _ _); refine OT.isi_ (by first | exact .own _ | exact .ty _) (by walk_at "tyx") (by first | assumption | exact kit_ty OT.kq_int_int | exact kit_ty OT.kq_int_bool | exact kit_ty OT.kq_bool_bool | exact kit_ty OT.kq_bool_int | exact kit_ty OT.kq_str_str | exact kit_ty OT.kq_tuple_tuple | exact kit_ty OT.kq_list_list | exact kit_ty OT.kq_list_tuple | exact kit_ty OT.kq_tuple_list | exact kit_ty OT.kq_list_int | exact kit_ty OT.kq_tuple_int | exact kit_ty OT.kq_list_bool | exact kit_ty OT.kq_tuple_bool | exact kit_ty OT.kq_str_int | exact kit_ty OT.kq_int_str | exact kit_ty OT.kq_int_list | exact kit_ty OT.kq_int_tuple | exact kit_ty OT.kq_bool_list | exact kit_ty OT.kq_bool_tuple) ?_) | ((with_reducible show ∃ k, V.bl _ = V.bl k ∧ _); refine AU.bool_ ?_) | ((with_reducible show tSl _ _ _ _ _ _ _); refine AU.sl_ ?_) | ((with_reducible show tNoPart _ _ _); refine AU.npart_ ?_) | ((with_reducible show tPart _ _ _ _); refine AU.part_ ?_) | ((with_reducible show ∃ k, V.int _ = V.int k ∧ rSlL _ _ _ (some k) _ _); refine AU.int1_ ?_) | ((with_reducible show rSlL _ (V.ref _) _ _ _ _); refine AU.slL_ (by walk_at "sl") ?_) | ((with_reducible refine AU.trueT ?_)) | ((with_reducible refine AU.refNon ?_)) | ((with_reducible refine AU.nonNon ?_)) | ((with_reducible refine AU.trueN ?_)) | ((with_reducible refine AU.falseN ?_)) | ((with_reducible refine AU.falseF ?_)) | fail)
local macro_rules | `(tactic| walk_at "st") => `(tactic| repeat walk_at "st1")
theorem entries_mem {es : List Ent} {R : Ent → Prop} (h : ∀ (k : Nat) (e : Ent), es[k]? = some e → R e) : ∀ e ∈ es, R e := fun e he => by
  obtain ⟨k, hk⟩ := List.getElem?_of_mem he
  exact h k e hk
section
variable {P : Program} {w : World} {K : PySem.W.Frag} {mg : Str → Option Value} {base : Heap}
def spLine : Sp := fun vs H Q _ => ∃ (c : Int) (rc : Nat), vs = [.int c, .int (rc : Int)] ∧ rc ≤ 100000 ∧ ∀ p ws r H', Same H H' → H' p = some (.lst ws) → Ents H' ws r → Valid r → (∀ e ∈ r, e.1.length = 1) → r.length ≤ 8 → (∀ e ∈ r, e.2.natAbs ≤ 32) → Q (.ref p) H'
theorem c__law_line {f : Addr} {fd : FuncData} (D : C8.Def K mg "_law_line" s__law_line f fd) (b : Binds K fd ["_law_cell_here", "_law_reach"] []) (T : Bi mg) (c__law_draws : C8.Cal P w K mg base 1 "_law_draws" (spDraws K) []) (c__law_row : C8.Cal P w K mg base 1 "_law_row" (spGather K) []) : C8.Cal P w K mg base 2 "_law_line" spLine [] := by
  refine C8.cal0 D b .nil sc__law_line (fun vs H Q E h => ?_) (fun cdv A outer s H vs Q E hr h => ?_)
  · obtain ⟨c, rc, rfl, _⟩ := h
    rfl
  · obtain ⟨c, rc, rfl, hrc, q⟩ := h
    refine ⟨_, (pss_cons (ps_set (i := 2) sc__law_line.nd rfl (Or.inr rfl) (C8.pe_c c__law_draws hr (by decide) (by rfl) (pa_cons (pv 0) (pa_cons (pe_op op_cat (pe_lc (own := [("_law_k", 3)]) (g := (gName 3)) (tt := tYes) rfl sc__law_line.nd (pi_range1 rfl T.n_range (pa_cons pe_int pa_nil)) (blkOk_by (N := ["_law_cell_here", "_law_reach", "_law_draws_here", "_law_k"]) (sc := C8.fnScope s__law_line) (by decide +kernel)) (fun _ _ _ _ _ => (pg_name (i := 3) sc__law_line.nd rfl (Or.inl rfl))) (fun _ _ _ _ _ => pts_nil) (fun _ _ _ _ _ => (pe_op op_add (pe_op op_mul pe_int (pv 1)) pe_int))) (pe_lc (own := [("_law_k", 3)]) (g := (gName 3)) (tt := tYes) rfl sc__law_line.nd (pi_range1 rfl T.n_range (pa_cons pe_int pa_nil)) (blkOk_by (N := ["_law_cell_here", "_law_reach", "_law_draws_here", "_law_k"]) (sc := C8.fnScope s__law_line) (by decide +kernel)) (fun _ _ _ _ _ => (pg_name (i := 3) sc__law_line.nd rfl (Or.inl rfl))) (fun _ _ _ _ _ => pts_nil) (fun _ _ _ _ _ => pe_int))) pa_nil))))
  (pss_one (ps_ret (C8.pe_c c__law_row hr (by decide) (by rfl) (pa_cons (pe_lc (own := [("_law_k", 3)]) (g := (gName 3)) (tt := tYes) rfl sc__law_line.nd (pi_range1 rfl T.n_range (pa_cons pe_int pa_nil)) (blkOk_by (N := ["_law_cell_here", "_law_reach", "_law_draws_here", "_law_k"]) (sc := C8.fnScope s__law_line) (by decide +kernel)) (fun _ _ _ _ _ => (pg_name (i := 3) sc__law_line.nd rfl (Or.inl rfl))) (fun _ _ _ _ _ => pts_nil) (fun _ _ _ _ _ => (pe_tup (pa_cons (pe_tup (pa_cons (pe_op op_sub (pe_ix (show IxR _ (rIxL K) from ix_list) (pv 2) (pv 3) (fun _ _ => rfl)) (pv 1)) pa_nil)) (pa_cons (pe_op op_sub (pe_ix (show IxR _ (rIxL K) from ix_list) (pv 2) (pe_op op_add pe_int (pv 3)) (fun _ _ => rfl)) pe_int) pa_nil))))) pa_nil))))), ?_⟩
    walk_at "st"
    refine ⟨8, rfl, by decide, by decide, fun D1 nD1 => ?_⟩
    refine lc_range (lo := 0) (n := 8) (AU.IntsAt H D1 fun k z => z = 2 * (rc : Int) + 1) (AU.IntsAt.start nD1) ?_ ?_
    · intro i G hi hP
      walk_at "st"
      refine ⟨rfl, ?_⟩
      walk_at "st"
      exact hP.step nD1 (Same.refl _) (by omega) rfl
    rintro H1 ⟨s1, zs, hzs, hzl, hzp⟩
    walk_at "st"
    refine ⟨8, rfl, by decide, by decide, fun D2 nD2 => ?_⟩
    refine lc_range (lo := 0) (n := 8) (AU.IntsAt H1 D2 fun k z => z = 9) (AU.IntsAt.start nD2) ?_ ?_
    · intro i G hi hP
      walk_at "st"
      refine ⟨rfl, ?_⟩
      walk_at "st"
      exact hP.step nD2 (Same.refl _) (by omega) rfl
    rintro H2 ⟨s2, ys, hys, hyl, hyp⟩
    have hzs2 := s2 _ _ hzs
    walk_at "st"
    intro l3 nl3; generalize eH3 : upd _ l3 _ = H3; have s3 := AU.newS nl3 eH3; have hl3 := AU.newH eH3; clear eH3
    rw [← List.map_append] at hl3
    walk_at "st"
    refine ⟨l3, zs ++ ys, c, rfl, AU.sqL hl3, by rw [List.length_append]; omega, fun z hz => ?_, fun ds H4 da hin s4 nda hda => ?_⟩
    · rcases List.mem_append.mp hz with hz | hz
      · obtain ⟨k, hk⟩ := List.getElem?_of_mem hz
        rw [hzp k z hk]
        omega
      · obtain ⟨k, hk⟩ := List.getElem?_of_mem hz
        rw [hyp k z hk]
        decide
    have s04 := (s1.trans s2).trans (s3.trans s4)
    clear s1 s2 s3 s4 hl3 nl3 nda hzs hzs2 hys
    walk_at "st"
    refine ⟨8, rfl, by decide, by decide, fun D5 nD5 => ?_⟩
    refine lc_range (lo := 0) (n := 8) (AU.EntsG H4 D5 fun k e => e.1.length = 1 ∧ e.2.natAbs ≤ 4) (AU.EntsG.start nD5) ?_ ?_
    · intro i G hi hP
      have hz1 : (zs ++ ys)[i]? = some (zs[i]'(by omega)) := by
        rw [List.getElem?_append_left (by omega)]
        exact List.getElem?_eq_getElem _
      have hz2 : (zs ++ ys)[8 + i]? = some (ys[i]'(by omega)) := by
        rw [List.getElem?_append_right (by omega), show 8 + i - zs.length = i by omega]
        exact List.getElem?_eq_getElem _
      obtain ⟨d, g, _, _⟩ := hin.get (i := i) hz1
      obtain ⟨e, g2, a2, b2⟩ := hin.get (i := 8 + i) hz2
      have hy9 := hyp i _ (List.getElem?_eq_getElem (show i < ys.length by omega))
      rw [hy9] at b2
      have at1 : atI (ds.map V.int) ((0 : Int) + (i : Int)) = some (.int d) := AU.atN (j := i) (by omega) g
      have at2 : atI (ds.map V.int) (8 + ((0 : Int) + (i : Int))) = some (.int e) := AU.atN (j := 8 + i) (by omega) g2
      have hdG : G da = some (.lst (ds.map V.int)) := hP.1 _ _ hda
      walk_at "st"
      refine ⟨rfl, ?_⟩
      walk_at "st"
      refine ⟨by walk_at "sz", fun t6 nt6 => ?_⟩; generalize eG6 : upd _ t6 _ = G6; have s6 := AU.newS nt6 eG6; have ht6 := AU.newH eG6; clear eG6
      walk_at "st"
      refine ⟨by walk_at "sz", fun t7 nt7 => ?_⟩; generalize eG7 : upd _ t7 _ = G7; have s7 := AU.newS nt7 eG7; have ht7 := AU.newH eG7; clear eG7
      walk_at "st"
      exact hP.step (e := ([d - (rc : Int)], e - 4)) nD5 (s6.trans s7) (by omega) ⟨t7, t6, rfl, ht7, s7 _ _ ht6⟩ ⟨rfl, by show (e - 4).natAbs ≤ 4; omega⟩
    rintro H5 ⟨s5, ws, es, hws, hE, hel, hep⟩
    have hall := entries_mem (R := fun e => e.1.length = 1 ∧ e.2.natAbs ≤ 4) hep
    walk_at "st"
    refine ⟨D5, ws, es, rfl, ⟨AU.sqL hws, hE, small100k (by omega)⟩, fun e he z => ?_, fun r p ws6 H6 hr6 s6 np6 hp6 hE6 => ?_⟩
    · have := (hall e he).1
      rw [z] at this
      cases this
    walk_at "st"
    have hb := hr6.bound fun e he => (hall e he).2
    refine q p ws6 r H6 (s04.trans (s5.trans s6)) hp6 hE6 hr6.v (fun e he => ?_) (by have := hr6.len; omega) fun e he => Nat.le_trans (hb e he) (by rw [hel]; decide)
    obtain ⟨x, hx, ex⟩ := hr6.mem he
    rw [← ex]
    exact (hall x hx).1
end
end OT

set_option Elab.async false
set_option linter.all false
set_option maxRecDepth 100000
set_option maxHeartbeats 4000000
namespace OT
open PySem PySem.Spec PyProof.Rows L2
/-! ### the algebra of products -/
theorem timesL_prod (es fs : List Ent) : timesL es fs = prodL plusP es fs := rfl
theorem mirL_map (es : List Ent) : mirL es = mapF negP es := rfl
theorem plusP_comm : ∀ k l : Pl, plusP k l = plusP l k
  | [], [] => rfl
  | [], _ :: _ => rfl
  | _ :: _, [] => rfl
  | x :: k, y :: l => by
    show (x + y) :: plusP k l = (y + x) :: plusP l k
    rw [plusP_comm k l, Int.add_comm]
theorem plusP_assoc : ∀ k l m : Pl, plusP (plusP k l) m = plusP k (plusP l m)
  | [], l, m => by cases l <;> cases m <;> rfl
  | _ :: _, [], m => by cases m <;> rfl
  | _ :: _, _ :: _, [] => rfl
  | x :: k, y :: l, z :: m => by
    show (x + y + z) :: plusP (plusP k l) m = (x + (y + z)) :: plusP k (plusP l m)
    rw [plusP_assoc k l m, Int.add_assoc]
theorem negP_plus : ∀ k l : Pl, negP (plusP k l) = plusP (negP k) (negP l)
  | [], l => by cases l <;> rfl
  | _ :: _, [] => rfl
  | x :: k, y :: l => by
    show (-(x + y)) :: negP (plusP k l) = (-x + -y) :: plusP (negP k) (negP l)
    rw [negP_plus k l, Int.neg_add]
theorem negP_neg : ∀ k : Pl, negP (negP k) = k
  | [] => rfl
  | x :: k => by
    show (- -x) :: negP (negP k) = x :: k
    rw [negP_neg k, Int.neg_neg]
theorem mirL_mir (es : List Ent) : mirL (mirL es) = es := by
  show (es.map _).map _ = es
  rw [List.map_map]
  have : es.map id = es := List.map_id es
  conv => rhs; rw [← this]
  refine List.map_congr_left fun e _ => ?_
  show (negP (negP e.1), e.2) = e
  rw [negP_neg]
theorem mirL_times (es fs : List Ent) : mirL (timesL es fs) = timesL (mirL es) (mirL fs) := prodL_map negP_plus fs es
theorem times_comm (es fs : List Ent) (q : Pl) : numAt (timesL es fs) q = numAt (timesL fs es) q := prodL_comm plusP_comm es fs q
theorem times_congr {a b c d : List Ent} (h : ∀ q, numAt a q = numAt b q) (k : ∀ q, numAt c q = numAt d q) (q : Pl) : numAt (timesL a c) q = numAt (timesL b d) q := numAt_prodL_eq plusP h k q
theorem mir_congr {a b : List Ent} (h : ∀ q, numAt a q = numAt b q) (q : Pl) : numAt (mirL a) q = numAt (mirL b) q := numAt_mapF_eq negP h q
/-- sums of products: the cross table -/
def crossL (es fs : List Ent) : List Ent := timesL es (mirL fs)
theorem cross_congr {a b c d : List Ent} (h : ∀ q, numAt a q = numAt b q) (k : ∀ q, numAt c q = numAt d q) (q : Pl) : numAt (crossL a c) q = numAt (crossL b d) q := times_congr h (mir_congr k) q
/-- the mirror of a cross table is the other one -/
theorem cross_mir (es fs : List Ent) (q : Pl) : numAt (mirL (crossL es fs)) q = numAt (crossL fs es) q := by
  unfold crossL
  rw [mirL_times, mirL_mir]
  exact times_comm _ _ q
theorem own_mir (es : List Ent) (q : Pl) : numAt (crossL (mirL es) (mirL es)) q = numAt (crossL es es) q := by
  unfold crossL
  rw [mirL_mir]
  exact times_comm _ _ q
theorem own_times (a b : List Ent) (q : Pl) : numAt (crossL (timesL a b) (timesL a b)) q = numAt (timesL (crossL a a) (crossL b b)) q := by
  unfold crossL
  rw [mirL_times]
  exact prodL_four plusP_comm plusP_assoc a b (mirL a) (mirL b) q
theorem own_flip (F S : List Ent) {R EX : List Ent} (hR : ∀ q, numAt R q = numAt (timesL F S) q) (hE : ∀ q, numAt EX q = numAt (timesL (mirL F) S) q) (q : Pl) : numAt (crossL EX EX) q = numAt (crossL R R) q := by
  rw [cross_congr hE hE, cross_congr hR hR, own_times, own_times]
  exact times_congr (own_mir F) (fun _ => rfl) q
end OT

set_option Elab.async false
set_option linter.all false
set_option maxRecDepth 100000
set_option maxHeartbeats 4000000
namespace OT
open PySem PySem.Spec PyProof.Rows L2
/-! ### combs and whole rows: the mathematics -/
theorem tooth_iff {x q : Int} {n k : Nat} (hk : k < n) : (x % (n : Int) = (k : Int) ∧ x / (n : Int) = q) ↔ x = (n : Int) * q + (k : Int) := by
  constructor
  · rintro ⟨h1, h2⟩
    have h := Int.mul_ediv_add_emod x (n : Int)
    rw [h1, h2] at h
    exact h.symm
  · rintro rfl
    refine ⟨?_, ?_⟩
    · rw [Int.add_comm, Int.add_mul_emod_self_left]
      exact Int.emod_eq_of_lt (by omega) (by omega)
    · rw [Int.add_comm, Int.add_mul_ediv_left _ _ (show (n : Int) ≠ 0 by omega), Int.ediv_eq_zero_of_lt (by omega) (by omega)]
      omega
theorem pl1_eq {x y : Int} : (([x] : Pl) = [y]) ↔ x = y := ⟨fun h => (List.cons.inj h).1, fun h => by rw [h]⟩
theorem if_iff {p q : Prop} [Decidable p] [Decidable q] (h : p ↔ q) (a b : Int) : (if p then a else b) = if q then a else b := by
  by_cases c : p
  · rw [if_pos c, if_pos (h.mp c)]
  · rw [if_neg c, if_neg (fun z => c (h.mpr z))]
theorem tooth_num {n k : Nat} (hk : k < n) (q : Int) : ∀ {es : List Ent}, DimN 1 es → numAt (tooth es n k) [q] = numAt es [(n : Int) * q + (k : Int)]
  | [], _ => rfl
  | e :: r, hd => by
    have ih := tooth_num hk q (es := r) fun x hx => hd x (List.mem_cons_of_mem _ hx)
    obtain ⟨x, hx⟩ := pl_one (hd e List.mem_cons_self)
    have hh : e.1.headD 0 = x := by rw [hx]; rfl
    have key := tooth_iff (x := x) (q := q) hk
    show numAt (tooth (e :: r) n k) [q] = (if e.1 = [(n : Int) * q + (k : Int)] then e.2 else 0) + numAt r [(n : Int) * q + (k : Int)]
    rw [← ih, hx]
    unfold tooth
    by_cases c : x % (n : Int) = (k : Int)
    · rw [List.filter_cons_of_pos (by rw [hh]; exact decide_eq_true c), List.map_cons, hh]
      show (if ([x / (n : Int)] : Pl) = [q] then e.2 else 0) + _ = _
      rw [if_iff (pl1_eq.trans ⟨fun h => pl1_eq.mpr (key.mp ⟨c, h⟩), fun h => (key.mpr (pl1_eq.mp h)).2⟩)]
    · rw [List.filter_cons_of_neg (by rw [hh]; exact fun z => c (of_decide_eq_true z)), if_neg (fun z => c (key.mpr (pl1_eq.mp z)).1), Int.zero_add]
theorem weave_num {n i k : Nat} (hi : i < n) (hk : k < n) (q : Int) : ∀ {es : List Ent}, DimN 1 es → numAt (weave n i es) [(n : Int) * q + (k : Int)] = if i = k then numAt es [q] else 0
  | [], _ => by
    show (0 : Int) = if i = k then 0 else 0
    rw [ite_self]
  | e :: r, hd => by
    have ih := weave_num hi hk q (es := r) fun x hx => hd x (List.mem_cons_of_mem _ hx)
    obtain ⟨x, hx⟩ := pl_one (hd e List.mem_cons_self)
    have hh : e.1.headD 0 = x := by rw [hx]; rfl
    show (if ([(n : Int) * e.1.headD 0 + (i : Int)] : Pl) = [(n : Int) * q + (k : Int)] then e.2 else 0) + numAt (weave n i r) [(n : Int) * q + (k : Int)] = if i = k then (if e.1 = [q] then e.2 else 0) + numAt r [q] else 0
    rw [ih, hh, hx]
    by_cases c : i = k
    · subst c
      rw [if_pos rfl, if_pos rfl, if_iff (pl1_eq.trans ⟨fun h => pl1_eq.mpr (res_eq hi hi h).2, fun h => by rw [pl1_eq.mp h]⟩)]
    · rw [if_neg c, if_neg c, if_neg (fun z => c (res_eq hk hi (pl1_eq.mp z)).1)]
      rfl
theorem wL_lo {n k : Nat} (hk : k < n) (q : Int) : ∀ {ess : List (List Ent)} {i : Nat}, (∀ es ∈ ess, DimN 1 es) → i + ess.length ≤ n → k < i → numAt (wL n i ess) [(n : Int) * q + (k : Int)] = 0
  | [], i, _, _, _ => rfl
  | f :: r, i, hd, hl, hki => by
    rw [List.length_cons] at hl
    show numAt (weave n i f ++ wL n (i + 1) r) _ = 0
    rw [numAt_app, weave_num (by omega) hk q (hd f List.mem_cons_self), if_neg (by omega), wL_lo hk q (fun es he => hd es (List.mem_cons_of_mem _ he)) (by omega) (by omega)]
    rfl
theorem wL_at {n k : Nat} (hk : k < n) (q : Int) : ∀ {ess : List (List Ent)} {i : Nat}, (∀ es ∈ ess, DimN 1 es) → i + ess.length ≤ n → i ≤ k → numAt (wL n i ess) [(n : Int) * q + (k : Int)] = numAt (ess.getD (k - i) []) [q]
  | [], i, _, _, _ => by
    rw [List.getD_nil]
    rfl
  | f :: r, i, hd, hl, hki => by
    rw [List.length_cons] at hl
    have hr : ∀ es ∈ r, DimN 1 es := fun es he => hd es (List.mem_cons_of_mem _ he)
    show numAt (weave n i f ++ wL n (i + 1) r) _ = _
    rw [numAt_app, weave_num (by omega) hk q (hd f List.mem_cons_self)]
    by_cases c : i = k
    · subst c
      rw [if_pos rfl, wL_lo hk q hr (by omega) (by omega), Nat.sub_self, Int.add_zero]
      rfl
    · rw [if_neg c, wL_at hk q hr (by omega) (by omega), Int.zero_add, show k - i = (k - (i + 1)) + 1 by omega]
      rfl
theorem wL_dim {n : Nat} {ess : List (List Ent)} {i : Nat} : DimN 1 (wL n i ess) := fun e he => by
  obtain ⟨_, _, _, _, h⟩ := wL_mem he
  rw [h]
  rfl
theorem num1_ext {a b : List Ent} (ha : DimN 1 a) (hb : DimN 1 b) (h : ∀ x : Int, numAt a [x] = numAt b [x]) (q : Pl) : numAt a q = numAt b q := by
  by_cases c : q.length = 1
  · obtain ⟨x, rfl⟩ := pl_one c
    exact h x
  · rw [ha.num c, hb.num c]
/-- the teeth of the whole are the rows -/
theorem whole_comb {r : List Ent} {ess : List (List Ent)} (hr : RowIs r (wL ess.length 0 ess)) (hv : ∀ es ∈ ess, Valid es) (hd : ∀ es ∈ ess, DimN 1 es) : combS r ess.length = ess := by
  have dr : DimN 1 r := DimN.of hr wL_dim
  refine List.ext_getElem? fun k => ?_
  by_cases c : k < ess.length
  · have hm := List.getElem_mem c
    rw [combS_at r c, List.getElem?_eq_getElem c]
    refine congrArg some ((tooth_valid hr.v dr (by omega) k).ext (hv _ hm) (num1_ext tooth_dim (hd _ hm) fun x => ?_))
    rw [tooth_num c x dr, hr.s, wL_at c x hd (by omega) (Nat.zero_le _), Nat.sub_zero, List.getD_eq_getElem?_getD, List.getElem?_eq_getElem c]
    rfl
  · rw [List.getElem?_eq_none (by rw [combS_len]; omega), List.getElem?_eq_none (by omega)]
/-- the whole of the teeth is the row -/
theorem comb_whole {o : List Ent} {n : Nat} (hv : Valid o) (hd : DimN 1 o) (hn : 1 ≤ n) : RowIs o (wL n 0 (combS o n)) := by
  refine ⟨hv, num1_ext hd wL_dim fun x => ?_⟩
  have e := Int.mul_ediv_add_emod x (n : Int)
  have h1 := Int.emod_nonneg x (show (n : Int) ≠ 0 by omega)
  have h2 := Int.emod_lt_of_pos x (show (0 : Int) < (n : Int) by omega)
  have e2 : x % (n : Int) = ((x % (n : Int)).toNat : Int) := by omega
  generalize (x % (n : Int)).toNat = k at e2
  generalize x / (n : Int) = y at e
  have hk : k < n := by omega
  have ex : x = (n : Int) * y + (k : Int) := by omega
  rw [ex, wL_at hk y (fun es he => by obtain ⟨j, rfl⟩ := combS_mem he; exact tooth_dim) (by rw [combS_len]; omega) (Nat.zero_le _), Nat.sub_zero, List.getD_eq_getElem?_getD, combS_at o hk]
  exact (tooth_num hk y hd).symm
/-! sums of crosses -/
def prJ (T : Nat → Nat → List Ent) (n s i : Nat) : Nat → List Ent
  | 0 => []
  | j + 1 => prJ T n s i j ++ if ((i : Int) - (j : Int) - (s : Int)) % (n : Int) = 0 then movL (T i j) [((i : Int) - (j : Int) - (s : Int)) / (n : Int)] else []
def prI (T : Nat → Nat → List Ent) (n s : Nat) : Nat → List Ent
  | 0 => []
  | i + 1 => prI T n s i ++ prJ T n s i n
theorem mov_num {d q : Int} : ∀ {es : List Ent}, DimN 1 es → numAt (movL es [d]) [q] = numAt es [q - d]
  | [], _ => rfl
  | e :: r, hd => by
    have ih := mov_num (d := d) (q := q) (es := r) fun x hx => hd x (List.mem_cons_of_mem _ hx)
    obtain ⟨x, hx⟩ := pl_one (hd e List.mem_cons_self)
    show (if plusP e.1 [d] = [q] then e.2 else 0) + numAt (movL r [d]) [q] = (if e.1 = [q - d] then e.2 else 0) + numAt r [q - d]
    rw [ih, hx]
    exact congrArg (· + numAt r [q - d]) (if_iff (p := ([x + d] : Pl) = [q]) (q := ([x] : Pl) = [q - d]) (pl1_eq.trans ⟨fun h => pl1_eq.mpr (by omega), fun h => by have := pl1_eq.mp h; omega⟩) e.2 0)
theorem cross_iff {n : Nat} (hn : 1 ≤ n) {x y q d i j s : Int} (hd : d = i - j - s) : (n : Int) * x + i + -((n : Int) * y + j) = (n : Int) * q + s ↔ (d % (n : Int) = 0 ∧ x + -y = q - d / (n : Int)) := by
  have n0 : (n : Int) ≠ 0 := by omega
  constructor
  · intro h
    have e : d = (n : Int) * (q - x + y) := by
      rw [Int.mul_add, Int.mul_sub]
      omega
    refine ⟨by rw [e]; exact Int.mul_emod_right _ _, ?_⟩
    rw [e, Int.mul_ediv_cancel_left _ n0]
    omega
  · rintro ⟨h1, h2⟩
    have e := Int.mul_ediv_add_emod d (n : Int)
    rw [h1] at e
    have h3 : d / (n : Int) = q - x + y := by omega
    rw [h3, Int.mul_add, Int.mul_sub] at e
    omega
theorem cross_row {n i j s : Nat} (hn : 1 ≤ n) {q x c : Int} : ∀ {b : List Ent}, DimN 1 b → numAt (rowT ([(n : Int) * x + (i : Int)], c) (mirL (weave n j b))) [(n : Int) * q + (s : Int)] = if ((i : Int) - (j : Int) - (s : Int)) % (n : Int) = 0 then numAt (rowT ([x], c) (mirL b)) [q - ((i : Int) - (j : Int) - (s : Int)) / (n : Int)] else 0
  | [], _ => by
    show (0 : Int) = if _ then 0 else 0
    rw [ite_self]
  | f :: r, hd => by
    have ih := cross_row (s := s) (i := i) (j := j) hn (q := q) (x := x) (c := c) (b := r) fun x hx => hd x (List.mem_cons_of_mem _ hx)
    obtain ⟨y, hy⟩ := pl_one (hd f List.mem_cons_self)
    obtain ⟨f1, f2⟩ := f
    obtain rfl : f1 = [y] := hy
    have key := cross_iff hn (x := x) (y := y) (q := q) (i := (i : Int)) (j := (j : Int)) (s := (s : Int)) rfl
    show (if ([(n : Int) * x + (i : Int) + -((n : Int) * y + (j : Int))] : Pl) = [(n : Int) * q + (s : Int)] then c * f2 else 0) + numAt (rowT ([(n : Int) * x + (i : Int)], c) (mirL (weave n j r))) [(n : Int) * q + (s : Int)] = _
    rw [ih]
    by_cases cc : ((i : Int) - (j : Int) - (s : Int)) % (n : Int) = 0
    · rw [if_pos cc, if_pos cc]
      exact congrArg (· + numAt (rowT ([x], c) (mirL r)) [q - ((i : Int) - (j : Int) - (s : Int)) / (n : Int)]) (if_iff (p := ([(n : Int) * x + (i : Int) + -((n : Int) * y + (j : Int))] : Pl) = [(n : Int) * q + (s : Int)]) (q := ([x + -y] : Pl) = [q - ((i : Int) - (j : Int) - (s : Int)) / (n : Int)]) (pl1_eq.trans ⟨fun h => pl1_eq.mpr (key.mp h).2, fun h => key.mpr ⟨cc, pl1_eq.mp h⟩⟩) (c * f2) 0)
    · rw [if_neg cc, if_neg cc, if_neg (fun z => cc (key.mp (pl1_eq.mp z)).1)]
      rfl
theorem cross_term {n i j s : Nat} (hn : 1 ≤ n) {q : Int} {b : List Ent} (hb : DimN 1 b) : ∀ {a : List Ent}, DimN 1 a → numAt (crossL (weave n i a) (weave n j b)) [(n : Int) * q + (s : Int)] = if ((i : Int) - (j : Int) - (s : Int)) % (n : Int) = 0 then numAt (crossL a b) [q - ((i : Int) - (j : Int) - (s : Int)) / (n : Int)] else 0
  | [], _ => by
    show (0 : Int) = if _ then 0 else 0
    rw [ite_self]
  | e :: r, hd => by
    have ih := cross_term hn (i := i) (j := j) (s := s) (q := q) hb (a := r) fun x hx => hd x (List.mem_cons_of_mem _ hx)
    obtain ⟨x, hx⟩ := pl_one (hd e List.mem_cons_self)
    have hh : e.1.headD 0 = x := by rw [hx]; rfl
    have he : e = ([x], e.2) := by rw [← hx]
    show numAt (rowT ([(n : Int) * e.1.headD 0 + (i : Int)], e.2) (mirL (weave n j b)) ++ crossL (weave n i r) (weave n j b)) _ = if _ then numAt (rowT e (mirL b) ++ crossL r b) _ else 0
    rw [numAt_app, numAt_app, ih, hh, cross_row hn hb, ← he]
    by_cases cc : ((i : Int) - (j : Int) - (s : Int)) % (n : Int) = 0
    · rw [if_pos cc, if_pos cc, if_pos cc]
    · rw [if_neg cc, if_neg cc, if_neg cc]
      rfl
theorem cross_app1 (a b c : List Ent) (q : Pl) : numAt (crossL (a ++ b) c) q = numAt (crossL a c) q + numAt (crossL b c) q := by
  unfold crossL timesL
  rw [List.flatMap_append, numAt_app]
theorem cross_app2 (a b c : List Ent) (q : Pl) : numAt (crossL a (b ++ c)) q = numAt (crossL a b) q + numAt (crossL a c) q := by
  unfold crossL
  rw [show mirL (b ++ c) = mirL b ++ mirL c from List.map_append, timesL_app2]
theorem wL_take {n i : Nat} {ess : List (List Ent)} (hi : i < ess.length) : wL n 0 (ess.take (i + 1)) = wL n 0 (ess.take i) ++ weave n i (ess.getD i []) := by
  rw [List.take_add_one, List.getElem?_eq_getElem hi, List.getD_eq_getElem?_getD, List.getElem?_eq_getElem hi]
  show wL n 0 (ess.take i ++ [ess[i]]) = _
  rw [wL_snoc, Nat.zero_add, List.length_take, Nat.min_eq_left (Nat.le_of_lt hi)]
  rfl
theorem getD_all {P : List Ent → Prop} (h0 : P []) {ess : List (List Ent)} (h : ∀ es ∈ ess, P es) (i : Nat) : P (ess.getD i []) := by
  rw [List.getD_eq_getElem?_getD]
  cases c : ess[i]? with
  | none => exact h0
  | some e => exact h e (List.mem_of_getElem? c)
theorem dim1_nil : DimN 1 [] := fun e h => by cases h
theorem prJ_num {T : Nat → Nat → List Ent} {ess : List (List Ent)} {s i : Nat} (hd : ∀ es ∈ ess, DimN 1 es) (hT : ∀ i j, i < ess.length → j < ess.length → DimN 1 (T i j) ∧ ∀ q, numAt (T i j) q = numAt (crossL (ess.getD i []) (ess.getD j [])) q) (hi : i < ess.length) (q : Int) :
    ∀ j, j ≤ ess.length → numAt (prJ T ess.length s i j) [q] = numAt (crossL (weave ess.length i (ess.getD i [])) (wL ess.length 0 (ess.take j))) [(ess.length : Int) * q + (s : Int)]
  | 0, _ => by
    have e : ∀ a : List Ent, crossL a [] = [] := fun a => by
      induction a with
      | nil => rfl
      | cons x r ih => exact ih
    rw [List.take_zero]
    show (0 : Int) = numAt (crossL _ []) _
    rw [e]
    rfl
  | j + 1, hj => by
    have ih := prJ_num (s := s) hd hT hi q j (by omega)
    obtain ⟨hd2, hT2⟩ := hT i j hi (by omega)
    rw [wL_take (by omega), cross_app2, ← ih, cross_term (by omega) (getD_all dim1_nil hd j) (getD_all dim1_nil hd i)]
    show numAt (_ ++ ite _ _ _) _ = _
    rw [numAt_app]
    by_cases c : ((i : Int) - (j : Int) - (s : Int)) % (ess.length : Int) = 0
    · rw [if_pos c, if_pos c, mov_num hd2, hT2]
    · rw [if_neg c, if_neg c]
      rfl
theorem prI_num {T : Nat → Nat → List Ent} {ess : List (List Ent)} {s : Nat} (hd : ∀ es ∈ ess, DimN 1 es) (hT : ∀ i j, i < ess.length → j < ess.length → DimN 1 (T i j) ∧ ∀ q, numAt (T i j) q = numAt (crossL (ess.getD i []) (ess.getD j [])) q) (q : Int) :
    ∀ i, i ≤ ess.length → numAt (prI T ess.length s i) [q] = numAt (crossL (wL ess.length 0 (ess.take i)) (wL ess.length 0 ess)) [(ess.length : Int) * q + (s : Int)]
  | 0, _ => by
    rw [List.take_zero]
    rfl
  | i + 1, hi => by
    have ih := prI_num (s := s) hd hT q i (by omega)
    have hj := prJ_num (s := s) hd hT (show i < ess.length by omega) q ess.length (Nat.le_refl _)
    rw [List.take_length] at hj
    rw [wL_take (by omega), cross_app1, ← ih, ← hj]
    show numAt (_ ++ _) _ = _
    rw [numAt_app]
theorem mov_dim {es : List Ent} {d : Int} (h : DimN 1 es) : DimN 1 (movL es [d]) := fun e he => by
  obtain ⟨x, hx, rfl⟩ := List.mem_map.mp he
  obtain ⟨y, hy⟩ := pl_one (h x hx)
  show (plusP x.1 [d]).length = 1
  rw [hy]
  rfl
theorem prJ_dim {T : Nat → Nat → List Ent} {n s i : Nat} (hT : ∀ i j, i < n → j < n → DimN 1 (T i j)) (hi : i < n) : ∀ j, j ≤ n → DimN 1 (prJ T n s i j)
  | 0, _ => dim1_nil
  | j + 1, hj => by
    refine (prJ_dim hT hi j (by omega)).app ?_
    by_cases c : ((i : Int) - (j : Int) - (s : Int)) % (n : Int) = 0
    · rw [if_pos c]
      exact mov_dim (hT i j hi (by omega))
    · rw [if_neg c]
      exact dim1_nil
theorem prI_dim {T : Nat → Nat → List Ent} {n s : Nat} (hT : ∀ i j, i < n → j < n → DimN 1 (T i j)) : ∀ i, i ≤ n → DimN 1 (prI T n s i)
  | 0, _ => dim1_nil
  | i + 1, hi => (prI_dim hT i (by omega)).app (prJ_dim hT (by omega) n (Nat.le_refl _))
/-- the sums of the crosses are the teeth of the own table of the whole -/
theorem sums_comb {T : Nat → Nat → List Ent} {ess : List (List Ent)} {o : List Ent} (hd : ∀ es ∈ ess, DimN 1 es) (hT : ∀ i j, i < ess.length → j < ess.length → DimN 1 (T i j) ∧ ∀ q, numAt (T i j) q = numAt (crossL (ess.getD i []) (ess.getD j [])) q)
    (hv : Valid o) (ho : ∀ q, numAt o q = numAt (crossL (wL ess.length 0 ess) (wL ess.length 0 ess)) q) (hdo : DimN 1 o) {s : Nat} (hs : s < ess.length) {t : List Ent} (ht : RowIs t (prI T ess.length s ess.length)) : t = tooth o ess.length s := by
  have dt : DimN 1 t := DimN.of ht (prI_dim (fun i j hi hj => (hT i j hi hj).1) _ (Nat.le_refl _))
  refine ht.v.ext (tooth_valid hv hdo (by omega) s) (num1_ext dt tooth_dim fun x => ?_)
  have h := prI_num (s := s) hd hT x ess.length (Nat.le_refl _)
  rw [List.take_length] at h
  rw [ht.s, h, tooth_num hs x hdo, ho]
end OT

set_option Elab.async false
set_option linter.all false
set_option maxRecDepth 100000
set_option maxHeartbeats 4000000
namespace OT
open PySem PySem.Spec PyProof.Rows L2
local macro_rules | `(tactic| walk_at "sm") => `(tactic| first | assumption | ((with_reducible show Same _ (upd _ _ _)); (refine' AU.mutS ?s ?h; (case h => assumption); (case s => walk_at "sm"))) | fail)
local macro_rules | `(tactic| walk_at "le") => `(tactic| first | (refine Nat.le_of_lt (AU.line ?_); (try simp only [List.length_append, List.length_map, List.length_cons, List.length_nil, List.length_take, List.length_replicate]); omega) | fail)
local macro_rules | `(tactic| walk_at "ll") => `(tactic| first | (show 0 < sizeLine; decide) | (show 1 < sizeLine; decide) | (show 2 < sizeLine; decide) | (show 3 < sizeLine; decide) | (refine AU.line ?_; (try simp only [List.length_append, List.length_map, List.length_cons, List.length_nil, List.length_take, List.length_replicate]); omega) | fail)
local macro_rules | `(tactic| walk_at "hl") => `(tactic| first | assumption | exact upd_same | (refine' AU.climb ?s ?h; (case s => walk_at "sm"); (case h => walk_at "hl")) | fail)
local macro_rules | `(tactic| walk_at "sl") => `(tactic| first | assumption | (refine' AU.sqL ?h; (case h => walk_at "hl")) | (refine' AU.sqLS ?s ?h; (case s => walk_at "sm"); (case h => walk_at "sl")) | fail)
local macro_rules | `(tactic| walk_at "tl") => `(tactic| first | assumption | (refine' AU.sqT ?h; (case h => walk_at "hl")) | (refine' AU.sqTS ?s ?h; (case s => walk_at "sm"); (case h => walk_at "tl")) | fail)
local macro_rules | `(tactic| walk_at "sz") => `(tactic| first | (show 0 ≤ sizeLine; decide) | (show 1 ≤ sizeLine; decide) | (show 2 ≤ sizeLine; decide) | (show 3 ≤ sizeLine; decide) | (show 4 ≤ sizeLine; decide) | (show 5 ≤ sizeLine; decide) | (show 6 ≤ sizeLine; decide) | (show 7 ≤ sizeLine; decide) | (show 8 ≤ sizeLine; decide) | (show 9 ≤ sizeLine; decide) | (show 10 ≤ sizeLine; decide) | fail)
local macro_rules | `(tactic| walk_at "ci") => `(tactic| first | exact trivial | omega | (show (0 : Int) < _; omega) | (show CMul _ _; exact .inl ⟨by omega, by omega⟩) | (show CMul _ _; exact .inr ⟨by omega, by omega⟩) | (show CMul _ _; exact .inr (AU.b01 _)) | (show CMul _ _; exact .inl (AU.b01 _)) | (show CDiv _ _; exact ⟨by omega, by omega⟩) | (show _ ≠ (0 : Int); omega) | (show CDiv _ _; exact ⟨by decide, by decide⟩) | fail)
local macro_rules | `(tactic| walk_at "hh") => `(tactic| first | assumption | (refine' OT.HeldF.mono ?s ?h; (case s => walk_at "sm"); (case h => walk_at "hh")) | fail)
local macro_rules | `(tactic| walk_at "tyx") => `(tactic| first | exact .base (.int _) | exact .base (.bl _) | exact .base (.str _) | exact .base (.lst (by walk_at "hl")) | exact .base (.tup (by walk_at "hl")) | fail)
local macro_rules | `(tactic| walk_at "st1") => `(tactic| first | ((with_reducible show tSeq _ _ _ _ _); (try simp only [List.set_cons_zero, List.set_cons_succ]); refine AU.seq_ ?_) | ((with_reducible show tAsg _ _ _ _ _); refine AU.asg_ ?_) | ((with_reducible show gName _ _ _ _ _); refine AU.name_ ?_) | ((with_reducible show tDrop _ _ _ _); refine AU.drop_ ?_) | ((with_reducible show tRet _ _ _ _); refine AU.ret_ ?_) | ((with_reducible show tRetN _ _ _); refine AU.retN_ ?_) | ((with_reducible show tNext _ _ _); refine AU.next_ ?_) | ((with_reducible show tBreak _ _ _); refine AU.brk_ ?_) | ((with_reducible show tCont _ _ _); refine AU.cont_ ?_) | ((with_reducible show tIfS _ _ _ _ _ _); refine AU.ifs_ ?_) | ((with_reducible show tAug _ _ _ _ _ _); refine AU.aug_ rfl ?_) | ((with_reducible show Ends.nx (Ends.mk _ _ _ _) _ _); refine AU.nxm ?_) | ((with_reducible show Ends.rt (Ends.mk _ _ _ _) _ _); refine AU.rtm ?_) | ((with_reducible show Ends.bk (Ends.mk _ _ _ _) _ _); refine AU.bkm ?_) | ((with_reducible show Ends.ct (Ends.mk _ _ _ _) _ _); refine AU.ctm ?_) | ((with_reducible show tVar _ _ _ _); refine AU.var_ rfl ?_) | ((with_reducible show tC _ _ _ _); refine AU.c_ ?_) | ((with_reducible show tOp _ _ _ _ _ _); refine AU.op_ ?_) | ((with_reducible show tUn _ _ _ _ _); refine AU.un_ ?_) | ((with_reducible show rU _ _ _ _); refine AU.u_ ?_) | ((with_reducible show rI0 _ _ _ _ _); refine AU.i0_ ?_) | ((with_reducible show rI _ _ _ _ _ _); refine AU.i_ (by walk_at "ci") ?_) | ((with_reducible show rEq (V.int _) (V.int _) _ _); first | (with_reducible refine AU.eqr_ ?_) | refine AU.eqi_ ?_) | ((with_reducible show rEq (V.str _) (V.str _) _ _); (with_reducible refine AU.eqs_ ?_)) | ((with_reducible show rNe (V.int _) (V.int _) _ _); refine AU.nei_ ?_) | ((with_reducible show rEq _ _ _ _); refine AU.eq_ rfl ?_) | ((with_reducible show rNe _ _ _ _); refine AU.ne_ rfl ?_) | ((with_reducible show tTest _ _ _ _); refine AU.test_ ?_) | ((with_reducible show tB _ _ _ _); refine AU.b_ ?_) | ((with_reducible show tAnd _ _ _ _ _); refine AU.and_ ?_) | ((with_reducible show tOr _ _ _ _ _); refine AU.or_ ?_) | ((with_reducible show tNot _ _ _ _); refine AU.not_ ?_) | ((with_reducible show tAndV _ _ _ _ _); refine AU.andV_ ?_) | ((with_reducible show tOrV _ _ _ _ _); refine AU.orV_ ?_) | ((with_reducible show tNotV _ _ _ _); refine AU.notV_ ?_) | ((with_reducible show tIf _ _ _ _ _ _); refine AU.if_ ?_) | ((with_reducible show tNil _ _ _); refine AU.nil_ ?_) | ((with_reducible show tCons _ _ _ _ _); refine AU.cons_ ?_) | ((with_reducible show tLst _ _ _ _); refine AU.lst_ ?_) | ((with_reducible show tTup _ _ _ _); refine AU.tup_ ?_) | ((with_reducible show tCall _ _ _ _ _ _ _); refine AU.call_ ?_) | ((with_reducible show tCallS _ _ _ _ _ _); refine AU.callS_ ?_) | ((with_reducible show tCB _ _ _ _ _); refine AU.cb_ ?_) | ((with_reducible show tBM _ _ _ _ _ _ _ _); refine AU.bm_ ?_) | ((with_reducible show rIxL _ _ _ _ _); refine AU.ixL_ (by walk_at "sl") (by first | assumption | rfl) ?_) | ((with_reducible show rIxT _ _ _ _ _); refine AU.ixT_ (by walk_at "tl") (by first | assumption | rfl) ?_) | ((with_reducible show Evl.rLenS _ _ _ _); first | refine AU.lenL_ (by walk_at "sl") ?_ | refine AU.lenT_ (by walk_at "tl") ?_) | ((with_reducible show rAppend (V.ref _) [_] _ _); refine AU.app_ (by walk_at "hl") (by walk_at "ll") ?_) | ((with_reducible show tyV _ _ (V.ref _) _ ∧ _); refine AU.tyl_ (by walk_at "sl") ?_) | ((with_reducible show rCat (V.ref _) (V.ref _) _ _); refine AU.cat_ (by walk_at "hl") (by walk_at "hl") (by walk_at "le") ?_) | ((with_reducible show tFor _ _ _ _ _ _); refine AU.for_ ?_) | ((with_reducible show tLc _ _ _ _ _ _ _ _); refine AU.lc_ ?_) | ((with_reducible show iRng1 _ _ _ _); refine AU.rng1_ ?_) | ((with_reducible show iList _ _ _ _ _); refine AU.list_ ?_) | ((with_reducible show iTup _ _ _ _ _); refine AU.itup_ ?_) | ((with_reducible show (∃ i, [V.bl _] = [V.int i] ∧ _) ∨ _); refine AU.intb_ ?_) | ((with_reducible show (∃ i, [V.int _] = [V.int i] ∧ _) ∨ _); refine AU.inti_ ?_) | ((with_reducible show tYes _ _ _); refine AU.yes_ ?_) | ((with_reducible show ∃ p ys, [V.ref _] = [V.ref p] ∧ (SqL _ _ p ys ∨ SqT _ _ p ys) ∧ _); first | refine AU.listof_ (by walk_at "sl") ?_ | refine AU.listofT_ (by walk_at "tl") ?_) | ((with_reducible show ∃ p ys, [V.ref _] = [V.ref p] ∧ ((SqL _ _ p ys ∧ _) ∨ (SqT _ _ p ys ∧ _))); first | refine AU.tupleof_ (by walk_at "sl") ?_ | refine AU.tupleofT_ (by walk_at "tl") ?_) | ((with_reducible show V.non = V.non ∧ _); refine ⟨rfl, ?_⟩) | ((with_reducible show OT.rIsX _ _ _ _ [V.ref _, _] _ _); refine OT.isX_ (by walk_at "hh") (by first | exact .own _ | exact .ty _) (by assumption) ?_) | ((with_reducible show OT.tFA _ _ _ _ _ _ _ _ _); refine OT.fA_ ?_) | ((with_reducible show OT.tCallE _ _ _ _ _ _ _ _); refine OT.callE_ ?_) | ((with_reducible show rIsi _ [_, _] _ _); refine OT.isi_ (by first | exact .own _ | exact .ty _) (by walk_at "tyx") (by first | assumption | exact kit_ty OT.kq_int_int | exact kit_ty OT.kq_int_bool | exact kit_ty OT.kq_bool_bool | exact kit_ty OT.kq_bool_int | exact kit_ty OT.kq_str_str | exact kit_ty OT.kq_tuple_tuple | exact kit_ty OT.kq_list_list | exact kit_ty OT.kq_list_tuple | exact kit_ty OT.kq_tuple_list | exact kit_ty OT.kq_list_int | exact kit_ty OT.kq_tuple_int | exact kit_ty OT.kq_list_bool | exact kit_ty OT.kq_tuple_bool | exact kit_ty OT.kq_str_int | exact kit_ty OT.kq_int_str | exact kit_ty OT.kq_int_list | exact kit_ty OT.kq_int_tuple | exact kit_ty OT.kq_bool_list | exact kit_ty OT.kq_bool_tuple) ?_) | ((with_reducible show ∃ k, V.bl _ = V.bl k ∧ _); refine AU.bool_ ?_) | ((with_reducible show tSl _ _ _ _ _ _ _); refine AU.sl_ ?_) | ((with_reducible show tNoPart _ _ _); refine AU.npart_ ?_) | ((with_reducible show tPart _ _ _ _); refine AU.part_ ?_) | ((with_reducible show ∃ k, V.int _ = V.int k ∧ rSlL _ _ _ (some k) _ _); refine AU.int1_ ?_) | ((with_reducible show rSlL _ (V.ref _) _ _ _ _); refine AU.slL_ (by walk_at "sl") ?_) | ((with_reducible refine AU.trueT ?_)) | ((with_reducible refine AU.refNon ?_)) | ((with_reducible refine AU.nonNon ?_)) | ((with_reducible refine AU.trueN ?_)) | ((with_reducible refine AU.falseN ?_)) | ((with_reducible refine AU.falseF ?_)) | fail)
local macro_rules | `(tactic| walk_at "st") => `(tactic| repeat walk_at "st1")
theorem FrL.base {H0 H1 G : Hp} {D : Addr} {as : List Addr} {ess : List (List Ent)} (s : Same H0 H1) (h : FrL H1 G D as ess) : FrL H0 G D as ess :=
  { h with s := s.trans h.s, np := AU.back s h.np, na := fun a ha => AU.back s (h.na a ha) }
/-- a list of lists of rows, all new since H0, each of its own -/
structure FrT (H0 H : Hp) (D : Addr) (ps : List Addr) (ass : List (List Addr)) (Ts : List (List (List Ent))) : Prop where
  s : Same H0 H
  nD : H0 D = none
  hD : H D = some (.lst (ps.map V.ref))
  l1 : ps.length = Ts.length
  l2 : ass.length = Ts.length
  rows : ∀ (i : Nat) (p : Addr) (as : List Addr) (ess : List (List Ent)), ps[i]? = some p → ass[i]? = some as → Ts[i]? = some ess → FrL H0 H p as ess
  nd : ass.flatten.Nodup
  ndp : ps.Nodup
  Dp : D ∉ ps
  Da : D ∉ ass.flatten
  ap : ∀ a ∈ ass.flatten, a ∉ ps
theorem FrT.start {H0 : Hp} {D : Addr} (nD : H0 D = none) : FrT H0 (upd H0 D (.lst [])) D [] [] [] :=
  ⟨same_upd nD, nD, upd_same, rfl, rfl, fun i p as ess h => (by simp at h), .nil, .nil, fun h => (by cases h), fun h => (by cases h), fun a h => (by cases h)⟩
theorem FrT.mono {H0 G G2 : Hp} {D : Addr} {ps : List Addr} {ass : List (List Addr)} {Ts : List (List (List Ent))} (s : Same G G2) (h : FrT H0 G D ps ass Ts) : FrT H0 G2 D ps ass Ts :=
  { h with s := h.s.trans s, hD := s _ _ h.hD, rows := fun i p as ess h1 h2 h3 => (h.rows i p as ess h1 h2 h3).mono s }
theorem FrT.mem {H0 G : Hp} {D : Addr} {ps : List Addr} {ass : List (List Addr)} {Ts : List (List (List Ent))} (h : FrT H0 G D ps ass Ts) {a : Addr} (ha : a ∈ ass.flatten) : ∃ xs, G a = some (.lst xs) := by
  obtain ⟨as, h1, h2⟩ := List.mem_flatten.mp ha
  obtain ⟨i, hi⟩ := List.getElem?_of_mem h1
  have hl := (List.getElem?_eq_some_iff.mp hi).1
  have e1 := h.l1
  have e2 := h.l2
  obtain ⟨_, _, xs, _, _, h3, _⟩ := (h.rows i _ as _ (List.getElem?_eq_getElem (by omega)) hi (List.getElem?_eq_getElem (by omega))).at_ h2
  exact ⟨xs, h3⟩
theorem FrT.memp {H0 G : Hp} {D : Addr} {ps : List Addr} {ass : List (List Addr)} {Ts : List (List (List Ent))} (h : FrT H0 G D ps ass Ts) {p : Addr} (hp : p ∈ ps) : ∃ xs, G p = some (.lst xs) := by
  obtain ⟨i, hi⟩ := List.getElem?_of_mem hp
  have hl := (List.getElem?_eq_some_iff.mp hi).1
  have e1 := h.l1
  have e2 := h.l2
  exact ⟨_, (h.rows i p _ _ hi (List.getElem?_eq_getElem (by omega)) (List.getElem?_eq_getElem (by omega))).hp⟩
theorem FrT.push {H0 G G2 : Hp} {D p : Addr} {ps as : List Addr} {ass : List (List Addr)} {Ts : List (List (List Ent))} {ess : List (List Ent)} (h : FrT H0 G D ps ass Ts) (f : FrL G G2 p as ess) :
    FrT H0 (upd G2 D (.lst (ps.map V.ref ++ [.ref p]))) D (ps ++ [p]) (ass ++ [as]) (Ts ++ [ess]) := by
  have h2 := h.mono f.s
  have pD : D ≠ p := ne_of_none h.hD f.np
  have aD : D ∉ as := fun z => by
    have := f.na _ z
    rw [h.hD] at this
    cases this
  have ef : (ass ++ [as]).flatten = ass.flatten ++ as := by simp
  have fp : FrL H0 G2 p as ess := f.base h.s
  refine ⟨same_mut h2.s h.nD, h.nD, by rw [upd_same, List.map_append]; rfl, by rw [List.length_append, List.length_append, h.l1]; rfl, by rw [List.length_append, List.length_append, h.l2]; rfl, fun i q bs fs hq hb hf => ?_, ?_, ?_, fun z => ?_, fun z => ?_, fun a ha z => ?_⟩
  · by_cases c : i < ps.length
    · have e1 := h.l1
      have e2 := h.l2
      rw [List.getElem?_append_left c] at hq
      rw [List.getElem?_append_left (by omega)] at hb hf
      refine (h2.rows i q bs fs hq hb hf).keep h.nD h2.hD (fun z => h.Da (List.mem_flatten.mpr ⟨bs, List.mem_of_getElem? hb, z⟩)) (fun z => h.Dp (by rw [z]; exact List.mem_of_getElem? hq))
    · have hl := (List.getElem?_eq_some_iff.mp hq).1
      rw [List.length_append, List.length_singleton] at hl
      obtain rfl : i = ps.length := by omega
      have e1 := h.l1
      have e2 := h.l2
      rw [List.getElem?_append_right (Nat.le_refl _), Nat.sub_self] at hq
      rw [show ps.length = ass.length by omega, List.getElem?_append_right (Nat.le_refl _), Nat.sub_self] at hb
      rw [h.l1, List.getElem?_append_right (Nat.le_refl _), Nat.sub_self] at hf
      cases hq
      cases hb
      cases hf
      exact fp.keep h.nD h2.hD aD pD
  · rw [ef]
    refine List.nodup_append.mpr ⟨h.nd, f.nd, fun a ha b hb => ?_⟩
    rintro rfl
    obtain ⟨xs, hx⟩ := h.mem ha
    rw [f.na _ hb] at hx
    cases hx
  · refine List.nodup_append.mpr ⟨h.ndp, List.nodup_cons.mpr ⟨fun z => (by cases z), .nil⟩, fun a ha b hb => ?_⟩
    rw [List.mem_singleton.mp hb]
    rintro rfl
    obtain ⟨xs, hx⟩ := h.memp ha
    rw [f.np] at hx
    cases hx
  · rcases List.mem_append.mp z with z | z
    · exact h.Dp z
    · exact pD (List.mem_singleton.mp z)
  · rw [ef] at z
    rcases List.mem_append.mp z with z | z
    · exact h.Da z
    · exact aD z
  · rw [ef] at ha
    rcases List.mem_append.mp ha with ha | ha
    · rcases List.mem_append.mp z with z | z
      · exact h.ap a ha z
      · rw [List.mem_singleton.mp z] at ha
        obtain ⟨xs, hx⟩ := h.mem ha
        rw [f.np] at hx
        cases hx
    · rcases List.mem_append.mp z with z | z
      · obtain ⟨xs, hx⟩ := h.memp z
        rw [f.na _ ha] at hx
        cases hx
      · rw [List.mem_singleton.mp z] at ha
        exact f.pn ha
/-- two lists of rows put together -/
theorem FrL.cat {H0 G : Hp} {D1 D2 p : Addr} {as bs : List Addr} {ess fss : List (List Ent)} (h : FrL H0 G D1 as ess) (k : FrL H0 G D2 bs fss) (nd : (as ++ bs).Nodup) (np : G p = none) : FrL H0 (upd G p (.lst (as.map V.ref ++ bs.map V.ref))) p (as ++ bs) (ess ++ fss) := by
  have sp : Same G (upd G p (.lst (as.map V.ref ++ bs.map V.ref))) := same_upd np
  have h2 := h.mono sp
  have k2 := k.mono sp
  refine ⟨h2.s, AU.back h.s np, fun a ha => ?_, by rw [upd_same, List.map_append], nd, fun z => ?_, by rw [List.length_append, List.length_append, h.l, k.l], fun i a es hi he => ?_⟩
  · rcases List.mem_append.mp ha with ha | ha
    · exact h.na a ha
    · exact k.na a ha
  · rcases List.mem_append.mp z with z | z
    · obtain ⟨_, _, _, _, _, e, _⟩ := h.at_ z
      rw [np] at e
      cases e
    · obtain ⟨_, _, _, _, _, e, _⟩ := k.at_ z
      rw [np] at e
      cases e
  · have e1 := h.l
    by_cases c : i < as.length
    · rw [List.getElem?_append_left c] at hi
      rw [List.getElem?_append_left (by omega)] at he
      exact h2.rows i a es hi he
    · rw [List.getElem?_append_right (by omega)] at hi
      rw [List.getElem?_append_right (by omega), ← e1] at he
      exact k2.rows _ a es hi he
theorem take_snocL {α : Type} {l : List α} {i : Nat} {x : α} (h : l[i]? = some x) : l.take (i + 1) = l.take i ++ [x] := by
  rw [List.take_add_one, h]
  rfl
def tabsP (ess : List (List Ent)) : List (List (List Ent)) := ess.map fun f => ess.map fun g => rowOf (timesL f (mirP g))
section
variable {P : Program} {w : World} {K : PySem.W.Frag} {mg : Str → Option Value} {base : Heap}
def spLT (K : PySem.W.Frag) (M : Addr) : Sp := fun vs H Q E => ∃ (a : Addr) (us : List V) (ess : List (List Ent)), vs = [.ref a] ∧ SqL K H a us ∧ RowsAt H us ess ∧ ess.length ≤ 1000 ∧
  (mixL ((dims ess).filter nz) = true → ∀ d H', Same H H' → H' d = some (.xd errM) → E (.ref M) (some d) H') ∧
  (mixL ((dims ess).filter nz) = false → (∃ n C : Nat, n ≤ 3 ∧ C ≤ 1000000 ∧ ∀ es ∈ ess, DimN n es ∧ es.length ≤ 44 ∧ (∀ e ∈ es, ∀ x ∈ e.1, x.natAbs ≤ C) ∧ ∀ e ∈ es, -(2 ^ 64) < e.2 ∧ e.2 < 2 ^ 64) ∧ ∀ D ps ass H', FrT H H' D ps ass (tabsP ess) → Q (.ref D) H')
def spCrC (K : PySem.W.Frag) : Sp := fun vs H Q _ => ∃ (a b : Addr) (xs ys : List V) (es fs : List Ent) (n C : Nat), vs = [.ref a, .ref b] ∧ TwoR K H a b xs ys es fs n n C ∧ es.length * fs.length < 2000 ∧ (∀ g ∈ fs, -(2 ^ 64) < g.2 ∧ g.2 < 2 ^ 64) ∧ wantRow H (timesL es (mirP fs)) Q
theorem crossC {M : Addr} : ∀ vs H Q E, spCrC K vs H Q E → spCr K M vs H Q E0 := fun vs H Q E ⟨a, b, xs, ys, es, fs, n, C, e, R, hz, hb, q⟩ =>
  ⟨a, b, xs, ys, es, fs, n, n, C, e, R, hz, hb, fun hm => (by rw [mixB_same (fun _ _ => rfl) R.de R.df] at hm; cases hm), fun _ => ⟨fun _ _ => rfl, q⟩⟩
theorem ok_list_tables {f M fD A0 : Addr} {fd fdD : FuncData} {ds : List Value} (D : C8.Def K mg "list_tables" s_list_tables f fd) (T : Bi mg)
    (DD : C8.Def K mg "same_dimension" s_same_dimension fD fdD) (bD : Binds K fdD ["rows", "places"] ds) (hdv : Vals [V.ref A0] ds) (hA0 : ∀ H, SqT K H A0 [])
    (GD : FnOk P w K mg base (L2.CX P w) 4 fD fdD ["rows", "places"] (spSDT K M)) (c_cross_table : C8.Cal P w K mg base 6 "cross_table" (spCrC K) []) : FnOk P w K mg base (L2.CX P w) 7 f fd ["rows"] (spLT K M) := by
  obtain ⟨oc, od, dV, kV, doc, pm, an, cdv, ct, osl, rfl, lk, hcd⟩ := D.fn.ex
  refine fn_of lk hcd sc_list_tables (fun vs H Q E h => ?_) fun A outer s H vs Q E hr h => ?_
  · obtain ⟨a, us, ess, rfl, _⟩ := h
    rfl
  · obtain ⟨a, us, ess, rfl, ha, hR, hz, qM, q⟩ := h
    refine ⟨_, (pss_cons (ps_expr (pe_callSD (GD.mono (by decide : 4 ≤ 6)) hr rfl DD.mgf DD.kp bD hdv (fun σ => passAt (takes_of rfl rfl rfl rfl) σ) (pa_cons (pv 0) pa_nil)))
  (pss_one (ps_ret (pe_lc (own := [("first", 1)]) (g := (gName 1)) (tt := tYes) rfl sc_list_tables.nd (pi_list (pv 0)) (blkOk_by (N := ["rows", "first", "second"]) (sc := C8.fnScope s_list_tables) (by decide +kernel)) (fun _ _ _ _ _ => (pg_name (i := 1) sc_list_tables.nd rfl (Or.inr rfl))) (fun _ _ _ _ _ => pts_nil) (fun _ _ _ _ _ => (pe_lc (own := [("second", 2)]) (g := (gName 2)) (tt := tYes) rfl sc_list_tables.nd (show PI _ _ _ (iList K (tVar 0)) from pi_list (pe_var (i := 0) rfl (.inr (.inl rfl)))) (blkOk_by (N := ["rows", "first", "second"]) (sc := { kind := .function, names := [(".0", .local), ("first", .cell), ("rows", .cell)], isGenerator := false, isCoroutine := false }) (by decide +kernel)) (fun _ _ _ _ _ => (pg_name (i := 2) sc_list_tables.nd rfl (Or.inl rfl))) (fun _ _ _ _ _ => pts_nil) (fun _ _ _ _ _ => (C8.pe_c c_cross_table hr (by decide) (by rfl) (pa_cons (pv 1) (pa_cons (pv 2) pa_nil)))))))))), ?_⟩
    have hul := hR.len
    refine ⟨_, rfl, a, A0, us, ess, rfl, ha, hR, hA0 _, hz, qM, fun hm H2 s2 => ?_⟩
    obtain ⟨⟨n, C, hn3, hC, hg⟩, q⟩ := q hm
    have ha2 := s2.seq ha
    have hR2 := hR.mono s2
    have hz := hz
    refine ⟨_, rfl, a, rfl, ⟨_, ha2⟩, fun D0 nD => ?_⟩
    refine lc_list (K := K) (xs := us) (fun i G => ∃ ps ass, FrT H2 G D0 ps ass ((tabsP ess).take i)) ⟨[], [], FrT.start nD⟩ ?_ ?_ ?_
    · rintro i G _ ⟨ps, ass, hT⟩
      exact hT.s.seq ha2
    · rintro i x G hx ⟨ps, ass, hT⟩
      obtain ⟨r, xs, es, rfl, hes, hr0, hE⟩ := (hR2.mono hT.s).get hx
      have hil := (List.getElem?_eq_some_iff.mp hes).1
      obtain ⟨d1, z1, c1, u1⟩ := hg es (List.mem_of_getElem? hes)
      have haG := hT.s.seq ha2
      have hRG := hR2.mono hT.s
      have hTl : (tabsP ess)[i]? = some (ess.map fun g => rowOf (timesL es (mirP g))) := by
        unfold tabsP
        rw [List.getElem?_map, hes]
        rfl
      refine ⟨rfl, ?_⟩
      walk_at "st"
      refine ⟨a, rfl, ⟨_, haG⟩, fun D1 nD1 => ?_⟩
      refine lc_list (K := K) (xs := us) (fun j F => ∃ as, FrL G F D1 as ((ess.map fun g => rowOf (timesL es (mirP g))).take j)) ⟨[], FrL.start nD1⟩ ?_ ?_ ?_
      · rintro j F _ ⟨as, hF⟩
        exact hF.s.seq haG
      · rintro j x F hx2 ⟨as, hF⟩
        obtain ⟨t, ys, fs, rfl, hfs, ht0, hF2⟩ := (hRG.mono hF.s).get hx2
        have hjl := (List.getElem?_eq_some_iff.mp hfs).1
        obtain ⟨d2, z2, c2, u2⟩ := hg fs (List.mem_of_getElem? hfs)
        refine ⟨rfl, ?_⟩
        walk_at "st"
        have hzz : es.length * fs.length < 2000 := Nat.lt_of_le_of_lt (Nat.mul_le_mul z1 z2) (by decide)
        refine ⟨r, t, xs, ys, es, fs, n, C, rfl, ⟨hF.s _ _ hr0, ht0, hE.mono hF.s, hF2, by omega, by omega, d1, d2, hn3, hn3, c1, c2, hC⟩, hzz, u2, fun rr p ws F3 hrr s3 np hp hE3 => ?_⟩
        have hD3 := s3 _ _ hF.hp
        have hl := hF.l
        rw [List.length_take] at hl
        have qa : p ∉ as := fun z => by
          obtain ⟨_, _, _, _, _, e, _⟩ := hF.at_ z
          rw [np] at e
          cases e
        refine ⟨_, hD3, by rw [List.length_map]; exact small1000 (by rw [hl, List.length_map]; omega), as ++ [p], ?_⟩
        have hel : (ess.map fun g => rowOf (timesL es (mirP g)))[j]? = some rr := by
          rw [List.getElem?_map, hfs]
          exact congrArg some ((rowOf_is _).one hrr)
        rw [take_snocL hel]
        exact (hF.mono s3).pushR (AU.back hF.s np) hp hE3 qa (ne_of_none hF.hp np).symm
      · rintro F ⟨as, hF⟩
        rw [List.take_of_length_le (by rw [List.length_map]; omega)] at hF
        have hl1 := hT.l1
        rw [List.length_take] at hl1
        refine ⟨_, hF.s _ _ hT.hD, by rw [List.length_map]; exact small1000 (by unfold tabsP at hl1; rw [List.length_map] at hl1; omega), ps ++ [D1], ass ++ [as], ?_⟩
        rw [take_snocL hTl]
        exact hT.push hF
    · rintro G ⟨ps, ass, hT⟩
      rw [List.take_of_length_le (by unfold tabsP; rw [List.length_map]; omega)] at hT
      exact q D0 ps ass G { hT with s := s2.trans hT.s, nD := AU.back s2 hT.nD, rows := fun i p as fs h1 h2 h3 => (hT.rows i p as fs h1 h2 h3).base s2 }
end
end OT

set_option Elab.async false
set_option linter.all false
set_option maxRecDepth 100000
set_option maxHeartbeats 4000000
namespace OT
open PySem PySem.Spec PyProof.Rows L2
local macro_rules | `(tactic| walk_at "sm") => `(tactic| first | assumption | ((with_reducible show Same _ (upd _ _ _)); (refine' AU.mutS ?s ?h; (case h => assumption); (case s => walk_at "sm"))) | fail)
local macro_rules | `(tactic| walk_at "le") => `(tactic| first | (refine Nat.le_of_lt (AU.line ?_); (try simp only [List.length_append, List.length_map, List.length_cons, List.length_nil, List.length_take, List.length_replicate]); omega) | fail)
local macro_rules | `(tactic| walk_at "ll") => `(tactic| first | (show 0 < sizeLine; decide) | (show 1 < sizeLine; decide) | (show 2 < sizeLine; decide) | (show 3 < sizeLine; decide) | (refine AU.line ?_; (try simp only [List.length_append, List.length_map, List.length_cons, List.length_nil, List.length_take, List.length_replicate]); omega) | fail)
local macro_rules | `(tactic| walk_at "hl") => `(tactic| first | assumption | exact upd_same | (refine' AU.climb ?s ?h; (case s => walk_at "sm"); (case h => walk_at "hl")) | fail)
local macro_rules | `(tactic| walk_at "sl") => `(tactic| first | assumption | (refine' AU.sqL ?h; (case h => walk_at "hl")) | (refine' AU.sqLS ?s ?h; (case s => walk_at "sm"); (case h => walk_at "sl")) | fail)
local macro_rules | `(tactic| walk_at "tl") => `(tactic| first | assumption | (refine' AU.sqT ?h; (case h => walk_at "hl")) | (refine' AU.sqTS ?s ?h; (case s => walk_at "sm"); (case h => walk_at "tl")) | fail)
local macro_rules | `(tactic| walk_at "sz") => `(tactic| first | (show 0 ≤ sizeLine; decide) | (show 1 ≤ sizeLine; decide) | (show 2 ≤ sizeLine; decide) | (show 3 ≤ sizeLine; decide) | (show 4 ≤ sizeLine; decide) | (show 5 ≤ sizeLine; decide) | (show 6 ≤ sizeLine; decide) | (show 7 ≤ sizeLine; decide) | (show 8 ≤ sizeLine; decide) | (show 9 ≤ sizeLine; decide) | (show 10 ≤ sizeLine; decide) | fail)
local macro_rules | `(tactic| walk_at "ci") => `(tactic| first | exact trivial | omega | (show (0 : Int) < _; omega) | (show CMul _ _; exact .inl ⟨by omega, by omega⟩) | (show CMul _ _; exact .inr ⟨by omega, by omega⟩) | (show CMul _ _; exact .inr (AU.b01 _)) | (show CMul _ _; exact .inl (AU.b01 _)) | (show CDiv _ _; exact ⟨by omega, by omega⟩) | (show _ ≠ (0 : Int); omega) | (show CDiv _ _; exact ⟨by decide, by decide⟩) | fail)
local macro_rules | `(tactic| walk_at "hh") => `(tactic| first | assumption | (refine' OT.HeldF.mono ?s ?h; (case s => walk_at "sm"); (case h => walk_at "hh")) | fail)
local macro_rules | `(tactic| walk_at "tyx") => `(tactic| first | exact .base (.int _) | exact .base (.bl _) | exact .base (.str _) | exact .base (.lst (by walk_at "hl")) | exact .base (.tup (by walk_at "hl")) | fail)
local macro_rules | `(tactic| walk_at "st1") => `(tactic| first | ((with_reducible show tSeq _ _ _ _ _); (try simp only [List.set_cons_zero, List.set_cons_succ]); refine AU.seq_ ?_) | ((with_reducible show tAsg _ _ _ _ _); refine AU.asg_ ?_) | ((with_reducible show gName _ _ _ _ _); refine AU.name_ ?_) | ((with_reducible show tDrop _ _ _ _); refine AU.drop_ ?_) | ((with_reducible show tRet _ _ _ _); refine AU.ret_ ?_) | ((with_reducible show tRetN _ _ _); refine AU.retN_ ?_) | ((with_reducible show tNext _ _ _); refine AU.next_ ?_) | ((with_reducible show tBreak _ _ _); refine AU.brk_ ?_) | ((with_reducible show tCont _ _ _); refine AU.cont_ ?_) | ((with_reducible show tIfS _ _ _ _ _ _); refine AU.ifs_ ?_) | ((with_reducible show tAug _ _ _ _ _ _); refine AU.aug_ rfl ?_) | ((with_reducible show Ends.nx (Ends.mk _ _ _ _) _ _); refine AU.nxm ?_) | ((with_reducible show Ends.rt (Ends.mk _ _ _ _) _ _); refine AU.rtm ?_) | ((with_reducible show Ends.bk (Ends.mk _ _ _ _) _ _); refine AU.bkm ?_) | ((with_reducible show Ends.ct (Ends.mk _ _ _ _) _ _); refine AU.ctm ?_) | ((with_reducible show tVar _ _ _ _); refine AU.var_ rfl ?_) | ((with_reducible show tC _ _ _ _); refine AU.c_ ?_) | ((with_reducible show tOp _ _ _ _ _ _); refine AU.op_ ?_) | ((with_reducible show tUn _ _ _ _ _); refine AU.un_ ?_) | ((with_reducible show rU _ _ _ _); refine AU.u_ ?_) | ((with_reducible show rI0 _ _ _ _ _); refine AU.i0_ ?_) | ((with_reducible show rI _ _ _ _ _ _); refine AU.i_ (by walk_at "ci") ?_) | ((with_reducible show rEq (V.int _) (V.int _) _ _); first | (with_reducible refine AU.eqr_ ?_) | refine AU.eqi_ ?_) | ((with_reducible show rEq (V.str _) (V.str _) _ _); (with_reducible refine AU.eqs_ ?_)) | ((with_reducible show rNe (V.int _) (V.int _) _ _); refine AU.nei_ ?_) | ((with_reducible show rEq _ _ _ _); refine AU.eq_ rfl ?_) | ((with_reducible show rNe _ _ _ _); refine AU.ne_ rfl ?_) | ((with_reducible show tTest _ _ _ _); refine AU.test_ ?_) | ((with_reducible show tB _ _ _ _); refine AU.b_ ?_) | ((with_reducible show tAnd _ _ _ _ _); refine AU.and_ ?_) | ((with_reducible show tOr _ _ _ _ _); refine AU.or_ ?_) | ((with_reducible show tNot _ _ _ _); refine AU.not_ ?_) | ((with_reducible show tAndV _ _ _ _ _); refine AU.andV_ ?_) | ((with_reducible show tOrV _ _ _ _ _); refine AU.orV_ ?_) | ((with_reducible show tNotV _ _ _ _); refine AU.notV_ ?_) | ((with_reducible show tIf _ _ _ _ _ _); refine AU.if_ ?_) | ((with_reducible show tNil _ _ _); refine AU.nil_ ?_) | ((with_reducible show tCons _ _ _ _ _); refine AU.cons_ ?_) | ((with_reducible show tLst _ _ _ _); refine AU.lst_ ?_) | ((with_reducible show tTup _ _ _ _); refine AU.tup_ ?_) | ((with_reducible show tCall _ _ _ _ _ _ _); refine AU.call_ ?_) | ((with_reducible show tCallS _ _ _ _ _ _); refine AU.callS_ ?_) | ((with_reducible show tCB _ _ _ _ _); refine AU.cb_ ?_) | ((with_reducible show tBM _ _ _ _ _ _ _ _); refine AU.bm_ ?_) | ((with_reducible show rIxL _ _ _ _ _); refine AU.ixL_ (by walk_at "sl") (by first | assumption | rfl) ?_) | ((with_reducible show rIxT _ _ _ _ _); refine AU.ixT_ (by walk_at "tl") (by first | assumption | rfl) ?_) | ((with_reducible show Evl.rLenS _ _ _ _); first | refine AU.lenL_ (by walk_at "sl") ?_ | refine AU.lenT_ (by walk_at "tl") ?_) | ((with_reducible show rAppend (V.ref _) [_] _ _); refine AU.app_ (by walk_at "hl") (by walk_at "ll") ?_) | ((with_reducible show tyV _ _ (V.ref _) _ ∧ _); refine AU.tyl_ (by walk_at "sl") ?_) | ((with_reducible show rCat (V.ref _) (V.ref _) _ _); refine AU.cat_ (by walk_at "hl") (by walk_at "hl") (by walk_at "le") ?_) | ((with_reducible show tFor _ _ _ _ _ _); refine AU.for_ ?_) | ((with_reducible show tLc _ _ _ _ _ _ _ _); refine AU.lc_ ?_) | ((with_reducible show iRng1 _ _ _ _); refine AU.rng1_ ?_) | ((with_reducible show iList _ _ _ _ _); refine AU.list_ ?_) | ((with_reducible show iTup _ _ _ _ _); refine AU.itup_ ?_) | ((with_reducible show (∃ i, [V.bl _] = [V.int i] ∧ _) ∨ _); refine AU.intb_ ?_) | ((with_reducible show (∃ i, [V.int _] = [V.int i] ∧ _) ∨ _); refine AU.inti_ ?_) | ((with_reducible show tYes _ _ _); refine AU.yes_ ?_) | ((with_reducible show ∃ p ys, [V.ref _] = [V.ref p] ∧ (SqL _ _ p ys ∨ SqT _ _ p ys) ∧ _); first | refine AU.listof_ (by walk_at "sl") ?_ | refine AU.listofT_ (by walk_at "tl") ?_) | ((with_reducible show ∃ p ys, [V.ref _] = [V.ref p] ∧ ((SqL _ _ p ys ∧ _) ∨ (SqT _ _ p ys ∧ _))); first | refine AU.tupleof_ (by walk_at "sl") ?_ | refine AU.tupleofT_ (by walk_at "tl") ?_) | ((with_reducible show V.non = V.non ∧ _); refine ⟨rfl, ?_⟩) | ((with_reducible show OT.rIsX _ _ _ _ [V.ref _, _] _ _); refine OT.isX_ (by walk_at "hh") (by first | exact .own _ | exact .ty _) (by assumption) ?_) | ((with_reducible show OT.tFA _ _ _ _ _ _ _ _ _); refine OT.fA_ ?_) | ((with_reducible show OT.tCallE _ _ _ _ _ _ _ _); refine OT.callE_ ?_) | ((with_reducible show rIsi _ [_, _] _ _); refine OT.isi_ (by first | exact .own _ | exact .ty _) (by walk_at "tyx") (by first | assumption | exact kit_ty OT.kq_int_int | exact kit_ty OT.kq_int_bool | exact kit_ty OT.kq_bool_bool | exact kit_ty OT.kq_bool_int | exact kit_ty OT.kq_str_str | exact kit_ty OT.kq_tuple_tuple | exact kit_ty OT.kq_list_list | exact kit_ty OT.kq_list_tuple | exact kit_ty OT.kq_tuple_list | exact kit_ty OT.kq_list_int | exact kit_ty OT.kq_tuple_int | exact kit_ty OT.kq_list_bool | exact kit_ty OT.kq_tuple_bool | exact kit_ty OT.kq_str_int | exact kit_ty OT.kq_int_str | exact kit_ty OT.kq_int_list | exact kit_ty OT.kq_int_tuple | exact kit_ty OT.kq_bool_list | exact kit_ty OT.kq_bool_tuple) ?_) | ((with_reducible show ∃ k, V.bl _ = V.bl k ∧ _); refine AU.bool_ ?_) | ((with_reducible show tSl _ _ _ _ _ _ _); refine AU.sl_ ?_) | ((with_reducible show tNoPart _ _ _); refine AU.npart_ ?_) | ((with_reducible show tPart _ _ _ _); refine AU.part_ ?_) | ((with_reducible show ∃ k, V.int _ = V.int k ∧ rSlL _ _ _ (some k) _ _); refine AU.int1_ ?_) | ((with_reducible show rSlL _ (V.ref _) _ _ _ _); refine AU.slL_ (by walk_at "sl") ?_) | ((with_reducible refine AU.trueT ?_)) | ((with_reducible refine AU.refNon ?_)) | ((with_reducible refine AU.nonNon ?_)) | ((with_reducible refine AU.trueN ?_)) | ((with_reducible refine AU.falseN ?_)) | ((with_reducible refine AU.falseF ?_)) | fail)
local macro_rules | `(tactic| walk_at "st") => `(tactic| repeat walk_at "st1")
/-- a row in one direction, of known size -/
structure LRow (w C u : Nat) (es : List Ent) : Prop where
  v : Valid es
  d : DimN 1 es
  z : es.length ≤ w
  c : ∀ e ∈ es, ∀ x ∈ e.1, x.natAbs ≤ C
  u : ∀ e ∈ es, e.2.natAbs ≤ u
def wdN (n : Nat) : Nat := 3 + if n ≤ 4 then 1 else 0
theorem LRow.nil {w C u : Nat} : LRow w C u [] := ⟨⟨.nil, fun e h => by cases h⟩, fun e h => (by cases h), Nat.zero_le _, fun e h => (by cases h), fun e h => (by cases h)⟩
theorem int_bool_le {n : Nat} : (3 : Int) + (if decide ((n : Int) ≤ 4) = true then 1 else 0) = (wdN n : Int) := by
  unfold wdN
  by_cases h : n ≤ 4
  · rw [decide_eq_true (show (n : Int) ≤ 4 by omega), if_pos rfl, if_pos h]
    rfl
  · rw [decide_eq_false (show ¬ (n : Int) ≤ 4 by omega), if_neg (by decide), if_neg h]
    rfl
section
variable {P : Program} {w : World} {K : PySem.W.Frag} {mg : Str → Option Value} {base : Heap}
def spRows (K : PySem.W.Frag) : Sp := fun vs H Q _ => ∃ (a : Addr) (ns : List Int) (n : Nat) (st : Int), vs = [.ref a, .int (n : Int), .int st] ∧ SqL K H a (ns.map V.int) ∧ 1 ≤ n ∧ n ≤ 8 ∧ st.natAbs ≤ 200 ∧
  ∀ p as ess H', FrL H H' p as ess → ess.length = n → (∀ es ∈ ess, LRow (wdN n) 1000 8 es) → Q (.ref p) H'
theorem c__law_rows {f : Addr} {fd : FuncData} (D : C8.Def K mg "_law_rows" s__law_rows f fd) (b : Binds K fd ["_law_script", "_law_count", "_law_start"] []) (T : Bi mg) (c__law_cell : C8.Cal P w K mg base 1 "_law_cell" (spCell K) []) (c__law_draws : C8.Cal P w K mg base 1 "_law_draws" (spDraws K) [])
    (c__law_drawn : C8.Cal P w K mg base 3 "_law_drawn" (spDrawn K) []) (c__law_moved : C8.Cal P w K mg base 2 "_law_moved" (spMoved K) []) : C8.Cal P w K mg base 4 "_law_rows" (spRows K) [] := by
  refine C8.cal0 D b .nil sc__law_rows (fun vs H Q E h => ?_) (fun cdv A outer s H vs Q E hr h => ?_)
  · obtain ⟨a, ns, n, st, rfl, _⟩ := h
    rfl
  · obtain ⟨a, ns, n, st, rfl, ha, hn1, hn8, hst, q⟩ := h
    refine ⟨_, (pss_cons (ps_set (i := 3) sc__law_rows.nd rfl (Or.inl rfl) (C8.pe_c c__law_draws hr (by decide) (by rfl) (pa_cons (C8.pe_c c__law_cell hr (by decide) (by rfl) (pa_cons (pv 0) (pa_cons pe_int pa_nil))) (pa_cons (pe_lc (own := [("_law_k", 6)]) (g := (gName 6)) (tt := tYes) rfl sc__law_rows.nd (pi_range1 rfl T.n_range (pa_cons (pv 1) pa_nil)) (blkOk_by (N := ["_law_script", "_law_count", "_law_start", "_law_holes", "_law_wide_here", "_law_rows_here", "_law_k", "_law_row_here"]) (sc := C8.fnScope s__law_rows) (by decide +kernel)) (fun _ _ _ _ _ => (pg_name (i := 6) sc__law_rows.nd rfl (Or.inl rfl))) (fun _ _ _ _ _ => pts_nil) (fun _ _ _ _ _ => pe_int)) pa_nil))))
  (pss_cons (ps_set (i := 4) sc__law_rows.nd rfl (Or.inl rfl) (pe_op op_add pe_int (pe_callTy call_int1 (by rfl) T.n_int OT.b_int (pa_cons (pe_cmpR op_le (pv 1) pe_int (nomark _)) pa_nil))))
  (pss_cons (ps_set (i := 5) sc__law_rows.nd rfl (Or.inl rfl) (pe_lst pa_nil))
  (pss_cons (ps_for PassesOwn.never rfl (pi_range1 rfl T.n_range (pa_cons (pv 1) pa_nil)) (pg_name (i := 6) sc__law_rows.nd rfl (Or.inl rfl)) (pss_cons (ps_set (i := 7) sc__law_rows.nd rfl (Or.inl rfl) (C8.pe_c c__law_moved hr (by decide) (by rfl) (pa_cons (C8.pe_c c__law_drawn hr (by decide) (by rfl) (pa_cons (C8.pe_c c__law_cell hr (by decide) (by rfl) (pa_cons (pv 0) (pa_cons (pe_op op_add pe_int (pv 6)) pa_nil))) (pa_cons (pe_lst (pa_cons (pv 4) pa_nil)) (pa_cons pe_int (pa_cons pe_int pa_nil))))) (pa_cons (pe_tup (pa_cons (pv 2) pa_nil)) pa_nil))))
  (pss_cons (ps_if (pt_cmpR op_eq (pe_ix ix_list (pv 3) (pv 6) (fun _ _ => rfl)) pe_int (nomark _)) (pss_one (ps_set (i := 7) sc__law_rows.nd rfl (Or.inl rfl) (pe_lst pa_nil))) pss_nil)
  (pss_one (ps_expr (pe_bm PySem.F.plainAttrs_list PySem.F.slot_list_append PySem.F.type_list_append mt_append (pv 5) (pa_cons (pv 7) pa_nil)))))))
  (pss_one (ps_ret (pv 5))))))), ?_⟩
    walk_at "st"
    refine ⟨a, ns, 9, rfl, ha, by decide, fun c9 => ?_⟩
    walk_at "st"
    refine ⟨_, rfl, by omega, by omega, fun D1 nD1 => ?_⟩
    rw [Int.toNat_natCast]
    refine lc_range (lo := 0) (n := n) (AU.IntsAt H D1 fun k z => z = 6) (AU.IntsAt.start nD1) ?_ ?_
    · intro i G hi hP
      walk_at "st"
      refine ⟨rfl, ?_⟩
      walk_at "st"
      exact hP.step nD1 (Same.refl _) (by omega) rfl
    rintro H1 ⟨s1, zs, hzs, hzl, hzp⟩
    walk_at "st"
    refine ⟨D1, zs, c9, rfl, AU.sqL hzs, by omega, fun z hz => ?_, fun hs H2 ha2 hin s2 nha hha => ?_⟩
    · obtain ⟨k, hk⟩ := List.getElem?_of_mem hz
      rw [hzp k z hk]
      decide
    have haH2 := (s1.trans s2).seq ha
    have hhl : hs.length = n := by rw [hin.1, hzl]
    walk_at "st"
    rw [int_bool_le]
    refine ⟨Nat.zero_le _, fun D0 nD => ?_⟩
    have hF0 := FrL.start nD
    generalize upd H2 D0 (.lst []) = H3 at hF0 ⊢
    walk_at "st"
    refine ⟨_, rfl, by omega, by omega, ?_⟩
    rw [Int.toNat_natCast]
    refine for_range (lo := 0) (n := n) (fun i σ G => ∃ (as : List Addr) (ess : List (List Ent)) (y6 y7 : Option V), σ = [some (.ref a), some (.int (n : Int)), some (.int st), some (.ref ha2), some (.int (wdN n : Int)), some (.ref D0), y6, y7] ∧ FrL H2 G D0 as ess ∧ ess.length = i ∧ ∀ es ∈ ess, LRow (wdN n) 1000 8 es) ⟨[], [], none, none, rfl, hF0, rfl, fun es h => by cases h⟩ ?_ ?_
    · rintro i σ G hi ⟨as, ess, y6, y7, rfl, hF, hel, hall⟩
      have sG := hF.s
      have haG := sG.seq haH2
      have hhG := sG _ _ hha
      have hhi : hs[i]? = some (hs[i]'(by omega)) := List.getElem?_eq_getElem _
      have at1 : atI (hs.map V.int) ((0 : Int) + (i : Int)) = some (.int (hs[i]'(by omega))) := AU.atN (j := i) (by omega) (by rw [List.getElem?_map, hhi]; rfl)
      walk_at "st"
      refine ⟨a, ns, _, rfl, haG, by omega, fun c => ?_⟩
      walk_at "st"
      refine ⟨by walk_at "sz", fun l4 nl4 => ?_⟩; generalize eG4 : upd _ l4 _ = G4; have s4 := AU.newS nl4 eG4; have hl4 := AU.newH eG4; clear eG4
      walk_at "st"
      have hw4 : wdN n ≤ 4 := by unfold wdN; split <;> omega
      have hpr : pr [wdN n] = wdN n := by show 1 * wdN n = wdN n; omega
      refine ⟨c, l4, [wdN n], 2, 4, 4, rfl, AU.sqL hl4, ⟨by simp, fun m hm => by rw [List.mem_singleton.mp hm]; exact hw4, fun k => ?_⟩, by decide, by simp, by rw [hpr]; omega, by decide, by decide, fun r ws rr G5 s5 nr5 hr5 hE5 hdr _ => ?_⟩
      · match k with
        | 0 => rw [List.take_zero]; decide
        | k + 1 =>
          rw [List.take_of_length_le (by simp), hpr]
          omega
      walk_at "st"
      refine ⟨by walk_at "sz", fun t6 nt6 => ?_⟩; generalize eG6 : upd _ t6 _ = G6; have s6 := AU.newS nt6 eG6; have ht6 := AU.newH eG6; clear eG6
      walk_at "st"
      refine ⟨r, t6, ws, rr, [st], rfl, ⟨AU.sqL (s6 _ _ hr5), hE5.mono s6, small1000 (by have := hdr.m; rw [hpr] at this; omega)⟩, AU.sqT ht6, fun e he => by rw [hdr.n e he]; exact Nat.le_refl _, by simp, fun r7 ws7 G7 s7 nr7 hr7 hE7 => ?_⟩
      have s07 : Same G G7 := ((s4.trans s5).trans s6).trans s7
      have hF7 := hF.mono s07
      have hD7 := hF7.hp
      have hhG7 := s07 _ _ hhG
      have hFl := hF.l
      have n7 : H2 r7 = none := AU.back (hF.s.trans ((s4.trans s5).trans s6)) nr7
      have hrow : LRow (wdN n) 1000 8 (movL rr [st]) := by
        refine ⟨movL_valid hdr.v fun e he => by rw [hdr.n e he]; exact Nat.le_refl _, mov_dim fun e he => hdr.n e he, ?_, fun e he x hx => ?_, fun e he => ?_⟩
        · have := hdr.m
          rw [hpr] at this
          unfold movL
          rw [List.length_map]
          exact this
        · obtain ⟨g, hg, rfl⟩ := List.mem_map.mp he
          obtain ⟨y, hy⟩ := pl_one (hdr.n g hg)
          have hc := hdr.c g hg y (by rw [hy]; exact List.mem_cons_self)
          rw [hy] at hx
          have hx2 : x ∈ [y + st] := hx
          rw [List.mem_singleton.mp hx2]
          omega
        · obtain ⟨g, hg, rfl⟩ := List.mem_map.mp he
          have := hdr.u g hg
          rw [hpr] at this
          show g.2.natAbs ≤ 8
          omega
      have q7 : r7 ∉ as ∧ r7 ≠ D0 := by
        have hF6 := hF.mono ((s4.trans s5).trans s6)
        refine ⟨fun z => ?_, (ne_of_none hF6.hp nr7).symm⟩
        obtain ⟨_, _, _, _, _, e, _⟩ := hF6.at_ z
        rw [nr7] at e
        cases e
      clear s4 s5 s6 s7
      walk_at "st"
      refine iteD (fun z => ?_) (fun z => ?_)
      · walk_at "st"
        refine ⟨by walk_at "sz", fun r8 nr8 => ?_⟩; generalize eG8 : upd _ r8 _ = G8; have s8 := AU.newS nr8 eG8; have hr8 := AU.newH eG8; clear eG8
        have qa : r8 ∉ as := fun z => by
          obtain ⟨_, _, _, _, _, e, _⟩ := hF7.at_ z
          rw [nr8] at e
          cases e
        have qD : r8 ≠ D0 := (ne_of_none hD7 nr8).symm
        have hF8 := hF7.mono s8
        have hD8 := hF8.hp
        walk_at "st"
        refine ⟨as ++ [r8], ess ++ [[]], _, _, rfl, hF8.pushR (AU.back hF7.s nr8) hr8 .nil qa qD, by rw [List.length_append, hel]; rfl, fun es he => ?_⟩
        rcases List.mem_append.mp he with he | he
        · exact hall es he
        · rw [List.mem_singleton.mp he]
          exact LRow.nil
      · walk_at "st"
        refine ⟨as ++ [r7], ess ++ [movL rr [st]], _, _, rfl, hF7.pushR n7 hr7 hE7 q7.1 q7.2, by rw [List.length_append, hel]; rfl, fun es he => ?_⟩
        rcases List.mem_append.mp he with he | he
        · exact hall es he
        · rw [List.mem_singleton.mp he]
          exact hrow
    · rintro σ G ⟨as, ess, y6, y7, rfl, hF, hel, hall⟩
      walk_at "st"
      have s02 := s1.trans s2
      exact q D0 as ess G (hF.base s02) hel hall
end
end OT

set_option Elab.async false
set_option linter.all false
set_option maxRecDepth 100000
set_option maxHeartbeats 4000000
namespace OT
open PySem PySem.Spec PyProof.Rows L2
local macro_rules | `(tactic| walk_at "sm") => `(tactic| first | assumption | ((with_reducible show Same _ (upd _ _ _)); (refine' AU.mutS ?s ?h; (case h => assumption); (case s => walk_at "sm"))) | fail)
local macro_rules | `(tactic| walk_at "le") => `(tactic| first | (refine Nat.le_of_lt (AU.line ?_); (try simp only [List.length_append, List.length_map, List.length_cons, List.length_nil, List.length_take, List.length_replicate]); omega) | fail)
local macro_rules | `(tactic| walk_at "ll") => `(tactic| first | (show 0 < sizeLine; decide) | (show 1 < sizeLine; decide) | (show 2 < sizeLine; decide) | (show 3 < sizeLine; decide) | (refine AU.line ?_; (try simp only [List.length_append, List.length_map, List.length_cons, List.length_nil, List.length_take, List.length_replicate]); omega) | fail)
local macro_rules | `(tactic| walk_at "hl") => `(tactic| first | assumption | exact upd_same | (refine' AU.climb ?s ?h; (case s => walk_at "sm"); (case h => walk_at "hl")) | fail)
local macro_rules | `(tactic| walk_at "sl") => `(tactic| first | assumption | (refine' AU.sqL ?h; (case h => walk_at "hl")) | (refine' AU.sqLS ?s ?h; (case s => walk_at "sm"); (case h => walk_at "sl")) | fail)
local macro_rules | `(tactic| walk_at "tl") => `(tactic| first | assumption | (refine' AU.sqT ?h; (case h => walk_at "hl")) | (refine' AU.sqTS ?s ?h; (case s => walk_at "sm"); (case h => walk_at "tl")) | fail)
local macro_rules | `(tactic| walk_at "sz") => `(tactic| first | (show 0 ≤ sizeLine; decide) | (show 1 ≤ sizeLine; decide) | (show 2 ≤ sizeLine; decide) | (show 3 ≤ sizeLine; decide) | (show 4 ≤ sizeLine; decide) | (show 5 ≤ sizeLine; decide) | (show 6 ≤ sizeLine; decide) | (show 7 ≤ sizeLine; decide) | (show 8 ≤ sizeLine; decide) | (show 9 ≤ sizeLine; decide) | (show 10 ≤ sizeLine; decide) | fail)
local macro_rules | `(tactic| walk_at "ci") => `(tactic| first | exact trivial | omega | (show (0 : Int) < _; omega) | (show CMul _ _; exact .inl ⟨by omega, by omega⟩) | (show CMul _ _; exact .inr ⟨by omega, by omega⟩) | (show CMul _ _; exact .inr (AU.b01 _)) | (show CMul _ _; exact .inl (AU.b01 _)) | (show CDiv _ _; exact ⟨by omega, by omega⟩) | (show _ ≠ (0 : Int); omega) | (show CDiv _ _; exact ⟨by decide, by decide⟩) | fail)
local macro_rules | `(tactic| walk_at "hh") => `(tactic| first | assumption | (refine' OT.HeldF.mono ?s ?h; (case s => walk_at "sm"); (case h => walk_at "hh")) | fail)
local macro_rules | `(tactic| walk_at "tyx") => `(tactic| first | exact .base (.int _) | exact .base (.bl _) | exact .base (.str _) | exact .base (.lst (by walk_at "hl")) | exact .base (.tup (by walk_at "hl")) | fail)
local macro_rules | `(tactic| walk_at "st1") => `(tactic| first | ((with_reducible show tSeq _ _ _ _ _); (try simp only [List.set_cons_zero, List.set_cons_succ]); refine AU.seq_ ?_) | ((with_reducible show tAsg _ _ _ _ _); refine AU.asg_ ?_) | ((with_reducible show gName _ _ _ _ _); refine AU.name_ ?_) | ((with_reducible show tDrop _ _ _ _); refine AU.drop_ ?_) | ((with_reducible show tRet _ _ _ _); refine AU.ret_ ?_) | ((with_reducible show tRetN _ _ _); refine AU.retN_ ?_) | ((with_reducible show tNext _ _ _); refine AU.next_ ?_) | ((with_reducible show tBreak _ _ _); refine AU.brk_ ?_) | ((with_reducible show tCont _ _ _); refine AU.cont_ ?_) | ((with_reducible show tIfS _ _ _ _ _ _); refine AU.ifs_ ?_) | ((with_reducible show tAug _ _ _ _ _ _); refine AU.aug_ rfl ?_) | ((with_reducible show Ends.nx (Ends.mk _ _ _ _) _ _); refine AU.nxm ?_) | ((with_reducible show Ends.rt (Ends.mk _ _ _ _) _ _); refine AU.rtm ?_) | ((with_reducible show Ends.bk (Ends.mk _ _ _ _) _ _); refine AU.bkm ?_) | ((with_reducible show Ends.ct (Ends.mk _ _ _ _) _ _); refine AU.ctm ?_) | ((with_reducible show tVar _ _ _ _); refine AU.var_ rfl ?_) | ((with_reducible show tC _ _ _ _); refine AU.c_ ?_) | ((with_reducible show tOp _ _ _ _ _ _); refine AU.op_ ?_) | ((with_reducible show tUn _ _ _ _ _); refine AU.un_ ?_) | ((with_reducible show rU _ _ _ _); refine AU.u_ ?_) | ((with_reducible show rI0 _ _ _ _ _); refine AU.i0_ ?_) | ((with_reducible show rI _ _ _ _ _ _); refine AU.i_ (by walk_at "ci") ?_) | ((with_reducible show rEq (V.int _) (V.int _) _ _); first | (with_reducible refine AU.eqr_ ?_) | refine AU.eqi_ ?_) | ((with_reducible show rEq (V.str _) (V.str _) _ _); (with_reducible refine AU.eqs_ ?_)) | ((with_reducible show rNe (V.int _) (V.int _) _ _); refine AU.nei_ ?_) | ((with_reducible show rEq _ _ _ _); refine AU.eq_ rfl ?_) | ((with_reducible show rNe _ _ _ _); refine AU.ne_ rfl ?_) | ((with_reducible show tTest _ _ _ _); refine AU.test_ ?_) | ((with_reducible show tB _ _ _ _); refine AU.b_ ?_) | ((with_reducible show tAnd _ _ _ _ _); refine AU.and_ ?_) | ((with_reducible show tOr _ _ _ _ _); refine AU.or_ ?_) | ((with_reducible show tNot _ _ _ _); refine AU.not_ ?_) | ((with_reducible show tAndV _ _ _ _ _); refine AU.andV_ ?_) | ((with_reducible show tOrV _ _ _ _ _); refine AU.orV_ ?_) | ((with_reducible show tNotV _ _ _ _); refine AU.notV_ ?_) | ((with_reducible show tIf _ _ _ _ _ _); refine AU.if_ ?_) | ((with_reducible show tNil _ _ _); refine AU.nil_ ?_) | ((with_reducible show tCons _ _ _ _ _); refine AU.cons_ ?_) | ((with_reducible show tLst _ _ _ _); refine AU.lst_ ?_) | ((with_reducible show tTup _ _ _ _); refine AU.tup_ ?_) | ((with_reducible show tCall _ _ _ _ _ _ _); refine AU.call_ ?_) | ((with_reducible show tCallS _ _ _ _ _ _); refine AU.callS_ ?_) | ((with_reducible show tCB _ _ _ _ _); refine AU.cb_ ?_) | ((with_reducible show tBM _ _ _ _ _ _ _ _); refine AU.bm_ ?_) | ((with_reducible show rIxL _ _ _ _ _); refine AU.ixL_ (by walk_at "sl") (by first | assumption | rfl) ?_) | ((with_reducible show rIxT _ _ _ _ _); refine AU.ixT_ (by walk_at "tl") (by first | assumption | rfl) ?_) | ((with_reducible show Evl.rLenS _ _ _ _); first | refine AU.lenL_ (by walk_at "sl") ?_ | refine AU.lenT_ (by walk_at "tl") ?_) | ((with_reducible show rAppend (V.ref _) [_] _ _); refine AU.app_ (by walk_at "hl") (by walk_at "ll") ?_) | ((with_reducible show tyV _ _ (V.ref _) _ ∧ _); refine AU.tyl_ (by walk_at "sl") ?_) | ((with_reducible show rCat (V.ref _) (V.ref _) _ _); refine AU.cat_ (by walk_at "hl") (by walk_at "hl") (by walk_at "le") ?_) | ((with_reducible show tFor _ _ _ _ _ _); refine AU.for_ ?_) | ((with_reducible show tLc _ _ _ _ _ _ _ _); refine AU.lc_ ?_) | ((with_reducible show iRng1 _ _ _ _); refine AU.rng1_ ?_) | ((with_reducible show iList _ _ _ _ _); refine AU.list_ ?_) | ((with_reducible show iTup _ _ _ _ _); refine AU.itup_ ?_) | ((with_reducible show (∃ i, [V.bl _] = [V.int i] ∧ _) ∨ _); refine AU.intb_ ?_) | ((with_reducible show (∃ i, [V.int _] = [V.int i] ∧ _) ∨ _); refine AU.inti_ ?_) | ((with_reducible show tYes _ _ _); refine AU.yes_ ?_) | ((with_reducible show ∃ p ys, [V.ref _] = [V.ref p] ∧ (SqL _ _ p ys ∨ SqT _ _ p ys) ∧ _); first | refine AU.listof_ (by walk_at "sl") ?_ | refine AU.listofT_ (by walk_at "tl") ?_) | ((with_reducible show ∃ p ys, [V.ref _] = [V.ref p] ∧ ((SqL _ _ p ys ∧ _) ∨ (SqT _ _ p ys ∧ _))); first | refine AU.tupleof_ (by walk_at "sl") ?_ | refine AU.tupleofT_ (by walk_at "tl") ?_) | ((with_reducible show V.non = V.non ∧ _); refine ⟨rfl, ?_⟩) | ((with_reducible show OT.rIsX _ _ _ _ [V.ref _, _] _ _); refine OT.isX_ (by walk_at "hh") (by first | exact .own _ | exact .ty _) (by assumption) ?_) | ((with_reducible show OT.tFA _ _ _ _ _ _ _ _ _); refine OT.fA_ ?_) | ((with_reducible show OT.tCallE _ _ _ _ _ _ _ _); refine OT.callE_ ?_) | ((with_reducible show rIsi _ [_, _] _ _); refine OT.isi_ (by first | exact .own _ | exact .ty _) (by walk_at "tyx") (by first | assumption | exact kit_ty OT.kq_int_int | exact kit_ty OT.kq_int_bool | exact kit_ty OT.kq_bool_bool | exact kit_ty OT.kq_bool_int | exact kit_ty OT.kq_str_str | exact kit_ty OT.kq_tuple_tuple | exact kit_ty OT.kq_list_list | exact kit_ty OT.kq_list_tuple | exact kit_ty OT.kq_tuple_list | exact kit_ty OT.kq_list_int | exact kit_ty OT.kq_tuple_int | exact kit_ty OT.kq_list_bool | exact kit_ty OT.kq_tuple_bool | exact kit_ty OT.kq_str_int | exact kit_ty OT.kq_int_str | exact kit_ty OT.kq_int_list | exact kit_ty OT.kq_int_tuple | exact kit_ty OT.kq_bool_list | exact kit_ty OT.kq_bool_tuple) ?_) | ((with_reducible show ∃ k, V.bl _ = V.bl k ∧ _); refine AU.bool_ ?_) | ((with_reducible show tSl _ _ _ _ _ _ _); refine AU.sl_ ?_) | ((with_reducible show tNoPart _ _ _); refine AU.npart_ ?_) | ((with_reducible show tPart _ _ _ _); refine AU.part_ ?_) | ((with_reducible show ∃ k, V.int _ = V.int k ∧ rSlL _ _ _ (some k) _ _); refine AU.int1_ ?_) | ((with_reducible show rSlL _ (V.ref _) _ _ _ _); refine AU.slL_ (by walk_at "sl") ?_) | ((with_reducible refine AU.trueT ?_)) | ((with_reducible refine AU.refNon ?_)) | ((with_reducible refine AU.nonNon ?_)) | ((with_reducible refine AU.trueN ?_)) | ((with_reducible refine AU.falseN ?_)) | ((with_reducible refine AU.falseF ?_)) | fail)
local macro_rules | `(tactic| walk_at "st") => `(tactic| repeat walk_at "st1")
theorem ixN_nat2 {n j : Nat} {k : Int} (e : k = (j : Int)) (h : j < n) : ixN n k = some j := by
  unfold ixN
  rw [if_pos (by omega), if_pos (by omega)]
  exact congrArg some (by omega)
theorem gsub_ {to ti : TE} {t : TSet} {v : V} {σ : L2.St} {H : Hp} {Q : L2.St → Hp → Prop} (h : to σ H fun o H1 => ti σ H1 fun i H2 => t o i v H2 fun H3 => Q σ H3) : gSub to ti t v σ H Q := h
theorem setL_ {p : Addr} {xs : List V} {k : Int} {j : Nat} {v : V} {H : Hp} {Q : Hp → Prop} (h : H p = some (.lst xs)) (e : ixN xs.length k = some j) (q : Q (upd H p (.lst (xs.set j v)))) : rSetL (.ref p) (.int k) v H Q := ⟨p, xs, k, j, rfl, rfl, h, e, q⟩
/-- a square table of rows: lists of their own at p, rows at r -/
structure Tab (H0 H : Hp) (D : Addr) (n : Nat) (p : Nat → Addr) (r : Nat → Nat → Addr) (T : Nat → Nat → List Ent) : Prop where
  s : Same H0 H
  nD : H0 D = none
  hD : H D = some (.lst ((List.range n).map fun i => V.ref (p i)))
  np : ∀ i, i < n → H0 (p i) = none
  nd : ∀ i j, i < n → j < n → p i = p j → i = j
  Dp : ∀ i, i < n → D ≠ p i
  hp : ∀ i, i < n → H (p i) = some (.lst ((List.range n).map fun j => V.ref (r i j)))
  row : ∀ i j, i < n → j < n → ∃ xs, H (r i j) = some (.lst xs) ∧ Ents H xs (T i j)
  ne : ∀ i j k, i < n → j < n → k < n → r i j ≠ p k
  rD : ∀ i j, i < n → j < n → r i j ≠ D
theorem Tab.mono {H0 G G2 : Hp} {D : Addr} {n : Nat} {p : Nat → Addr} {r : Nat → Nat → Addr} {T : Nat → Nat → List Ent} (s : Same G G2) (h : Tab H0 G D n p r T) : Tab H0 G2 D n p r T :=
  ⟨h.s.trans s, h.nD, s _ _ h.hD, h.np, h.nd, h.Dp, fun i hi => s _ _ (h.hp i hi), fun i j hi hj => by
    obtain ⟨xs, h1, h2⟩ := h.row i j hi hj
    exact ⟨xs, s _ _ h1, h2.mono s⟩, h.ne, h.rD⟩
theorem map_range_getD {α β : Type} (f : α → β) (d : α) : ∀ {l : List α} {n : Nat}, l.length = n → l.map f = (List.range n).map fun i => f (l.getD i d) := fun {l n} h => by
  refine List.ext_getElem? fun i => ?_
  by_cases c : i < n
  · rw [List.getElem?_map, List.getElem?_map, List.getElem?_range c, List.getElem?_eq_getElem (by omega)]
    show some (f _) = some (f (l.getD i d))
    rw [List.getD_eq_getElem?_getD, List.getElem?_eq_getElem (by omega)]
    rfl
  · rw [List.getElem?_eq_none (by rw [List.length_map]; omega), List.getElem?_eq_none (by rw [List.length_map, List.length_range]; omega)]
theorem set_range {β : Type} {n j : Nat} (hj : j < n) (f : Nat → β) (v : β) : ((List.range n).map f).set j v = (List.range n).map fun b => if b = j then v else f b := by
  refine List.ext_getElem? fun i => ?_
  by_cases d : i = j
  · subst d
    rw [List.getElem?_set_self (by rw [List.length_map, List.length_range]; exact hj), List.getElem?_map, List.getElem?_range hj]
    show some v = some (if i = i then v else f i)
    rw [if_pos rfl]
  · rw [List.getElem?_set_ne (Ne.symm d), List.getElem?_map, List.getElem?_map]
    by_cases c : i < n
    · rw [List.getElem?_range c]
      show some (f i) = some (if i = j then v else f i)
      rw [if_neg d]
    · rw [List.getElem?_eq_none (by rw [List.length_range]; omega)]
      rfl
theorem range_at {β : Type} {n i : Nat} (hi : i < n) (f : Nat → β) : ((List.range n).map f)[i]? = some (f i) := by
  rw [List.getElem?_map, List.getElem?_range hi]
  rfl
theorem FrT.tab {H0 G : Hp} {D : Addr} {ps : List Addr} {ass : List (List Addr)} {n : Nat} (h : FrT H0 G D ps ass (List.replicate n (List.replicate n []))) : Tab H0 G D n (fun i => ps.getD i 0) (fun i j => (ass.getD i []).getD j 0) fun _ _ => [] := by
  have l1 := h.l1
  have l2 := h.l2
  rw [List.length_replicate] at l1 l2
  have pe : ∀ i, (hi : i < n) → ps[i]? = some (ps.getD i 0) := fun i hi => by
    rw [List.getD_eq_getElem?_getD, List.getElem?_eq_getElem (by omega)]
    rfl
  have ae : ∀ i, (hi : i < n) → ass[i]? = some (ass.getD i []) := fun i hi => by
    rw [List.getD_eq_getElem?_getD, List.getElem?_eq_getElem (by omega)]
    rfl
  have fr : ∀ i, (hi : i < n) → FrL H0 G (ps.getD i 0) (ass.getD i []) (List.replicate n []) := fun i hi => h.rows i _ _ _ (pe i hi) (ae i hi) (by rw [List.getElem?_replicate, if_pos hi])
  have al : ∀ i, i < n → (ass.getD i []).length = n := fun i hi => by rw [(fr i hi).l, List.length_replicate]
  have re : ∀ i j, i < n → j < n → (ass.getD i [])[j]? = some ((ass.getD i []).getD j 0) := fun i j hi hj => by
    have hl := al i hi
    generalize ass.getD i [] = l at hl ⊢
    rw [List.getD_eq_getElem?_getD, List.getElem?_eq_getElem (by omega)]
    rfl
  have rm : ∀ i j, i < n → j < n → (ass.getD i []).getD j 0 ∈ ass.flatten := fun i j hi hj => List.mem_flatten.mpr ⟨_, List.mem_of_getElem? (ae i hi), List.mem_of_getElem? (re i j hi hj)⟩
  have pm : ∀ i, i < n → ps.getD i 0 ∈ ps := fun i hi => List.mem_of_getElem? (pe i hi)
  refine ⟨h.s, h.nD, by rw [h.hD]; exact congrArg (fun l => some (HO.lst l)) (map_range_getD V.ref 0 l1), fun i hi => (fr i hi).np, fun i j hi hj e => ?_, fun i hi z => h.Dp (by rw [z]; exact pm i hi), fun i hi => by rw [(fr i hi).hp]; exact congrArg (fun l => some (HO.lst l)) (map_range_getD V.ref 0 (al i hi)), fun i j hi hj => ?_, fun i j k hi hj hk z => h.ap _ (rm i j hi hj) (by rw [z]; exact pm k hk), fun i j hi hj z => h.Da (by rw [← z]; exact rm i j hi hj)⟩
  · have e1 := pe i hi
    have e2 := pe j hj
    rw [e, ← e2] at e1
    exact (List.getElem?_inj (by omega) h.ndp).mp e1
  · exact (fr i hi).rows j _ [] (re i j hi hj) (by rw [List.getElem?_replicate, if_pos hj])
theorem Tab.set {H0 G G2 : Hp} {D q : Addr} {n i j : Nat} {p : Nat → Addr} {r : Nat → Nat → Addr} {T : Nat → Nat → List Ent} {xs : List V} {es : List Ent} (h : Tab H0 G D n p r T) (hi : i < n) (hj : j < n) (s : Same G G2) (nq : G q = none) (hq : G2 q = some (.lst xs)) (hE : Ents G2 xs es) :
    Tab H0 (upd G2 (p i) (.lst (((List.range n).map fun b => V.ref (r i b)).set j (.ref q)))) D n p (fun a b => if a = i ∧ b = j then q else r a b) fun a b => if a = i ∧ b = j then es else T a b := by
  have qp : ∀ k, k < n → q ≠ p k := fun k hk z => by
    rw [z, h.hp k hk] at nq
    cases nq
  have qD : q ≠ D := fun z => by
    rw [z, h.hD] at nq
    cases nq
  have hpi := s _ _ (h.hp i hi)
  refine ⟨same_mut (h.s.trans s) (h.np i hi), h.nD, by rw [upd_ne (h.Dp i hi)]; exact s _ _ h.hD, h.np, h.nd, h.Dp, fun k hk => ?_, fun a b ha hb => ?_, fun a b k ha hb hk => ?_, fun a b ha hb => ?_⟩
  · by_cases c : k = i
    · subst c
      rw [upd_same, set_range hj]
      refine congrArg (fun f => some (HO.lst ((List.range n).map f))) (funext fun b => ?_)
      by_cases d : b = j
      · rw [if_pos d, if_pos ⟨rfl, d⟩]
      · rw [if_neg d, if_neg (fun z => d z.2)]
    · rw [upd_ne (fun z => c (h.nd k i hk hi z)), s _ _ (h.hp k hk)]
      refine congrArg (fun f => some (HO.lst ((List.range n).map f))) (funext fun b => ?_)
      rw [if_neg (fun z => c z.1)]
  · by_cases c : a = i ∧ b = j
    · rw [if_pos c, if_pos c]
      exact ⟨xs, by rw [upd_ne (qp i hi)]; exact hq, hE.updL hpi⟩
    · rw [if_neg c, if_neg c]
      obtain ⟨ys, h1, h2⟩ := h.row a b ha hb
      exact ⟨ys, by rw [upd_ne (h.ne a b i ha hb hi)]; exact s _ _ h1, (h2.mono s).updL hpi⟩
  · by_cases c : a = i ∧ b = j
    · rw [if_pos c]
      exact qp k hk
    · rw [if_neg c]
      exact h.ne a b k ha hb hk
  · by_cases c : a = i ∧ b = j
    · rw [if_pos c]
      exact qD
    · rw [if_neg c]
      exact h.rD a b ha hb
def cov (i j a b : Nat) : Prop := (a < i ∨ b < i) ∨ (a = i ∧ b < j ∨ b = i ∧ a < j)
/-- what the table holds so far -/
def TabIs (ess : List (List Ent)) (i j : Nat) (T : Nat → Nat → List Ent) : Prop := ∀ a b, a < ess.length → b < ess.length → (T a b = [] ∨ RowIs (T a b) (crossL (ess.getD a []) (ess.getD b []))) ∧ (cov i j a b → RowIs (T a b) (crossL (ess.getD a []) (ess.getD b [])))
theorem TabIs.step {ess : List (List Ent)} {i j : Nat} {T : Nat → Nat → List Ent} {rr mm : List Ent} (h : TabIs ess i j T) (hij : i ≤ j) (hr : RowIs rr (crossL (ess.getD i []) (ess.getD j []))) (hm : RowIs mm (mirL rr)) :
    TabIs ess i (j + 1) fun a b => if a = j ∧ b = i then mm else if a = i ∧ b = j then rr else T a b := fun a b ha hb => by
  have hm2 : RowIs mm (crossL (ess.getD j []) (ess.getD i [])) := ⟨hm.v, fun q => by rw [hm.s, mir_congr hr.s, cross_mir]⟩
  show (ite _ _ _ = [] ∨ RowIs (ite _ _ _) _) ∧ (_ → RowIs (ite _ _ _) _)
  by_cases c : a = j ∧ b = i
  · obtain ⟨rfl, rfl⟩ := c
    rw [if_pos ⟨rfl, rfl⟩]
    exact ⟨.inr hm2, fun _ => hm2⟩
  · rw [if_neg c]
    by_cases d : a = i ∧ b = j
    · obtain ⟨rfl, rfl⟩ := d
      rw [if_pos ⟨rfl, rfl⟩]
      exact ⟨.inr hr, fun _ => hr⟩
    · rw [if_neg d]
      obtain ⟨h1, h2⟩ := h a b ha hb
      refine ⟨h1, fun z => h2 ?_⟩
      unfold cov at z ⊢
      omega
section
variable {P : Program} {w : World} {K : PySem.W.Frag} {mg : Str → Option Value} {base : Heap}
def spTables : Sp := fun vs H Q _ => ∃ (a : Addr) (us : List V) (ess : List (List Ent)), vs = [.ref a] ∧ H a = some (.lst us) ∧ RowsAt H us ess ∧ ess.length ≤ 8 ∧ (∀ es ∈ ess, Valid es ∧ DimN 1 es ∧ es.length ≤ 30 ∧ ∀ e ∈ es, -(2 ^ 64) < e.2 ∧ e.2 < 2 ^ 64) ∧
  ∀ D p r T H', Tab H H' D ess.length p r T → (∀ i j, i < ess.length → j < ess.length → RowIs (T i j) (crossL (ess.getD i []) (ess.getD j []))) → Q (.ref D) H'
theorem c__law_tables {f : Addr} {fd : FuncData} (D : C8.Def K mg "_law_tables" s__law_tables f fd) (b : Binds K fd ["_law_rows_here"] []) (T : Bi mg) (c__law_cross : C8.Cal P w K mg base 3 "_law_cross" (spCross K) []) (c__law_mirror : C8.Cal P w K mg base 2 "_law_mirror" spMir []) : C8.Cal P w K mg base 4 "_law_tables" spTables [] := by
  refine C8.cal0 D b .nil sc__law_tables (fun vs H Q E h => ?_) (fun cdv A outer s H vs Q E hr h => ?_)
  · obtain ⟨a, us, ess, rfl, _⟩ := h
    rfl
  · obtain ⟨a, us, ess, rfl, ha, hR, hz, hg, q⟩ := h
    refine ⟨_, (pss_cons (ps_setLc (i := 1) (own := [("_law_row_here", 4)]) (g := (gName 4)) (tt := tYes) rfl sc__law_tables.nd rfl rfl (sw_true rfl rfl rfl rfl) (pi_list (pv 0)) (blkOk_by (N := ["_law_rows_here", "_law_tables_here", "_law_i", "_law_j", "_law_row_here", "_law_table", "_law_other"]) (sc := C8.fnScope s__law_tables) (by decide +kernel)) (fun _ _ _ _ _ => (pg_name (i := 4) sc__law_tables.nd rfl (Or.inl rfl))) (fun _ _ _ _ _ => pts_nil) (fun _ _ _ _ _ => (pe_lc (own := [("_law_other", 6)]) (g := (gName 6)) (tt := tYes) rfl sc__law_tables.nd (show PI _ _ _ (iList K (tVar 0)) from pi_list (pe_var (i := 0) rfl (.inr (.inl rfl)))) (blkOk_by (N := ["_law_rows_here", "_law_tables_here", "_law_i", "_law_j", "_law_row_here", "_law_table", "_law_other"]) (sc := { kind := .function, names := [(".0", .local), ("_law_row_here", .local), ("_law_rows_here", .cell)], isGenerator := false, isCoroutine := false }) (by decide +kernel)) (fun _ _ _ _ _ => (pg_name (i := 6) sc__law_tables.nd rfl (Or.inl rfl))) (fun _ _ _ _ _ => pts_nil) (fun _ _ _ _ _ => (pe_lst pa_nil)))))
  (pss_cons (ps_for PassesOwn.never rfl (pi_range1 rfl T.n_range (pa_cons (pe_callB call_len_seq (by rfl) T.n_len OT.b_len (pa_cons (pv 0) pa_nil)) pa_nil)) (pg_name (i := 2) sc__law_tables.nd rfl (Or.inl rfl)) (pss_one (ps_for PassesOwn.never rfl (pi_range2 rfl T.n_range (pa_cons (pv 2) (pa_cons (pe_callB call_len_seq (by rfl) T.n_len OT.b_len (pa_cons (pv 0) pa_nil)) pa_nil))) (pg_name (i := 3) sc__law_tables.nd rfl (Or.inl rfl)) (pss_cons (ps_set (i := 5) sc__law_tables.nd rfl (Or.inl rfl) (C8.pe_c c__law_cross hr (by decide) (by rfl) (pa_cons (pe_ix ix_list (pv 0) (pv 2) (fun _ _ => rfl)) (pa_cons (pe_ix ix_list (pv 0) (pv 3) (fun _ _ => rfl)) pa_nil))))
  (pss_cons (ps_asg (pv 5) (pg_sub (pe_ix ix_list (pv 1) (pv 2) (fun _ _ => rfl)) (pv 3) set_list))
  (pss_one (ps_asg (C8.pe_c c__law_mirror hr (by decide) (by rfl) (pa_cons (pv 5) pa_nil)) (pg_sub (pe_ix ix_list (pv 1) (pv 3) (fun _ _ => rfl)) (pv 2) set_list))))))))
  (pss_one (ps_ret (pv 1))))), ?_⟩
    have hul := hR.len
    refine ⟨_, rfl, a, rfl, ⟨_, AU.sqL ha⟩, fun D0 nD => ?_⟩
    refine lc_list (K := K) (xs := us) (fun i G => ∃ ps ass, FrT H G D0 ps ass (List.replicate i (List.replicate ess.length []))) ⟨[], [], FrT.start nD⟩ ?_ ?_ ?_
    · rintro i G _ ⟨ps, ass, hT⟩
      exact AU.sqL (hT.s _ _ ha)
    · rintro i x G hx ⟨ps, ass, hT⟩
      have hil := (List.getElem?_eq_some_iff.mp hx).1
      have haG := hT.s _ _ ha
      refine ⟨rfl, ?_⟩
      walk_at "st"
      refine ⟨a, rfl, ⟨_, AU.sqL haG⟩, fun D1 nD1 => ?_⟩
      refine lc_list (K := K) (xs := us) (fun j F => ∃ as, FrL G F D1 as (List.replicate j [])) ⟨[], FrL.start nD1⟩ ?_ ?_ ?_
      · rintro j F _ ⟨as, hF⟩
        exact AU.sqL (hF.s _ _ haG)
      · rintro j x F hx2 ⟨as, hF⟩
        have hjl := (List.getElem?_eq_some_iff.mp hx2).1
        have hl := hF.l
        rw [List.length_replicate] at hl
        refine ⟨rfl, ?_⟩
        walk_at "st"
        refine ⟨Nat.zero_le _, fun q1 nq1 => ?_⟩
        have sq1 : Same F (upd F q1 (.lst [])) := same_upd nq1
        refine ⟨_, sq1 _ _ hF.hp, by rw [List.length_map]; exact small1000 (by omega), as ++ [q1], ?_⟩
        rw [List.replicate_succ']
        exact hF.push nq1
      · rintro F ⟨as, hF⟩
        rw [hul] at hF
        have hl1 := hT.l1
        rw [List.length_replicate] at hl1
        refine ⟨_, hF.s _ _ hT.hD, by rw [List.length_map]; exact small1000 (by omega), ps ++ [D1], ass ++ [as], ?_⟩
        rw [List.replicate_succ']
        exact hT.push hF
    rintro G ⟨ps, ass, hT⟩
    rw [hul] at hT
    have hTb := hT.tab
    clear hT
    have hTi : TabIs ess 0 0 fun _ _ => [] := fun a b ha hb => ⟨.inl rfl, fun z => by unfold cov at z; omega⟩
    generalize (fun i => ps.getD i 0) = p at hTb
    generalize (fun i j => (ass.getD i []).getD j 0) = r at hTb
    generalize (fun _ _ => []) = T0 at hTb hTi
    have haG := hTb.s _ _ ha
    walk_at "st"
    refine ⟨_, rfl, by omega, by omega, ?_⟩
    rw [hul, Int.toNat_natCast]
    refine for_range (lo := 0) (n := ess.length) (fun i σ G => ∃ (r : Nat → Nat → Addr) (T : Nat → Nat → List Ent) (y2 y3 y5 : Option V), σ = [some (.ref a), some (.ref D0), y2, y3, none, y5, none] ∧ Tab H G D0 ess.length p r T ∧ TabIs ess i i T) ⟨r, T0, none, none, none, rfl, hTb, hTi⟩ ?_ ?_
    · rintro i σ G hi ⟨r, T, y2, y3, y5, rfl, hTb, hTi⟩
      have haG := hTb.s _ _ ha
      walk_at "st"
      refine ⟨_, rfl, _, rfl, _, _, rfl, .inl (AU.sqL haG), _, _, rfl, ⟨by omega, by omega, by rw [hul]; omega, by rw [hul]; omega⟩, ?_⟩
      rw [hul, show ((ess.length : Int) - (0 + (i : Int))).toNat = ess.length - i by omega]
      refine for_range (lo := 0 + (i : Int)) (n := ess.length - i) (fun k σ G => ∃ (r : Nat → Nat → Addr) (T : Nat → Nat → List Ent) (y3 y5 : Option V), σ = [some (.ref a), some (.ref D0), some (.int (0 + (i : Int))), y3, none, y5, none] ∧ Tab H G D0 ess.length p r T ∧ TabIs ess i (i + k) T) ⟨r, T, y3, y5, rfl, hTb, hTi⟩ ?_ ?_
      · rintro k σ G hk ⟨r, T, y3, y5, rfl, hTb, hTi⟩
        have hj : i + k < ess.length := by omega
        have haG := hTb.s _ _ ha
        have hRG := hR.mono hTb.s
        obtain ⟨b1, xs, e1, h1, hE1⟩ := hRG.at_ hi
        obtain ⟨b2, ys, e2, h2, hE2⟩ := hRG.at_ hj
        obtain ⟨v1, d1, z1, u1⟩ := hg _ (List.getElem_mem hi)
        obtain ⟨v2, d2, z2, u2⟩ := hg _ (List.getElem_mem hj)
        have g1 : ess.getD i [] = ess[i] := by rw [List.getD_eq_getElem?_getD, List.getElem?_eq_getElem hi]; rfl
        have g2 : ess.getD (i + k) [] = ess[i + k] := by rw [List.getD_eq_getElem?_getD, List.getElem?_eq_getElem hj]; rfl
        generalize ess[i] = f1 at hE1 v1 d1 z1 u1 g1
        generalize ess[i + k] = f2 at hE2 v2 d2 z2 u2 g2
        have at1 : atI us (0 + (i : Int)) = some (.ref b1) := AU.atN (j := i) (by omega) e1
        have at2 : atI us (0 + (i : Int) + (k : Int)) = some (.ref b2) := AU.atN (j := i + k) (by omega) e2
        have ne1 : ∀ e ∈ f1, e.1 ≠ [] := fun e he z => by
          have := d1 e he
          rw [z] at this
          cases this
        have ne2 : ∀ e ∈ f2, e.1 ≠ [] := fun e he z => by
          have := d2 e he
          rw [z] at this
          cases this
        walk_at "st"
        have hzz : f1.length * f2.length ≤ 10000 := Nat.le_trans (Nat.mul_le_mul z1 z2) (by decide)
        refine ⟨b1, b2, xs, ys, f1, f2, 1, rfl, ⟨h1, hE1, by omega, ne1⟩, ⟨h2, hE2, by omega, ne2⟩, v2, d1, d2, by decide, hzz, u2, fun rr q5 ws G5 hrr s5 nq5 hq5 hE5 => ?_⟩
        have hrc : RowIs rr (crossL (ess.getD i []) (ess.getD (i + k) [])) := by rw [g1, g2]; exact hrr
        have hrl : rr.length ≤ 900 := Nat.le_trans hrr.len (by rw [timesL_len]; show _ * (f2.map _).length ≤ _; rw [List.length_map]; exact Nat.mul_le_mul z1 z2)
        have hT5 := hTb.mono s5
        have hD5 := hT5.hD
        have hp5 := hT5.hp i hi
        have ati : atI ((List.range ess.length).map fun i => V.ref (p i)) (0 + (i : Int)) = some (.ref (p i)) := AU.atN (j := i) (by omega) (range_at hi _)
        have atj : atI ((List.range ess.length).map fun i => V.ref (p i)) (0 + (i : Int) + (k : Int)) = some (.ref (p (i + k))) := AU.atN (j := i + k) (by omega) (range_at hj _)
        have hS := hTb.set hi hj s5 nq5 hq5 hE5
        have hS5 : (upd G5 (p i) (.lst (((List.range ess.length).map fun b => V.ref (r i b)).set (i + k) (.ref q5)))) q5 = some (.lst ws) := by
          rw [upd_ne (fun z => by rw [z, hTb.hp i hi] at nq5; cases nq5)]
          exact hq5
        have hSE : Ents (upd G5 (p i) (.lst (((List.range ess.length).map fun b => V.ref (r i b)).set (i + k) (.ref q5)))) ws rr := hE5.updL hp5
        walk_at "st"
        refine gsub_ ?_
        walk_at "st"
        refine setL_ hp5 (j := i + k) (ixN_nat2 (by omega) (by rw [List.length_map, List.length_range]; exact hj)) ?_
        generalize upd G5 (p i) (.lst (((List.range ess.length).map fun b => V.ref (r i b)).set (i + k) (.ref q5))) = G6 at hS hS5 hSE ⊢
        walk_at "st"
        have drr : DimN 1 rr := DimN.of hrr (DimN.times d1 fun e he => by
          obtain ⟨g, hg, rfl⟩ := List.mem_map.mp he
          rw [show (negP g.1, g.2).1 = negP g.1 from rfl, negP_len]
          exact d2 g hg)
        refine ⟨q5, ws, rr, rfl, ⟨hS5, hSE, by omega, fun e he z => by have := drr e he; rw [z] at this; cases this⟩, fun e he => by rw [drr e he]; decide, fun mm q7 ws7 G7 hmm s7 nq7 hq7 hE7 => ?_⟩
        have hT7 := hS.mono s7
        have hD7 := hT7.hD
        have hp7 := hT7.hp (i + k) hj
        have hS7 := hS.set hj hi s7 nq7 hq7 hE7
        walk_at "st"
        refine gsub_ ?_
        walk_at "st"
        refine setL_ hp7 (j := i) (ixN_nat2 (by omega) (by rw [List.length_map, List.length_range]; exact hi)) ?_
        exact ⟨_, _, _, _, rfl, hS7, hTi.step (by omega) hrc hmm⟩
      · rintro σ G ⟨r, T, y3, y5, rfl, hTb, hTi⟩
        refine ⟨r, T, _, y3, y5, rfl, hTb, fun a b ha hb => ⟨(hTi a b ha hb).1, fun z => (hTi a b ha hb).2 ?_⟩⟩
        unfold cov at z ⊢
        omega
    · rintro σ G ⟨r, T, y2, y3, y5, rfl, hTb, hTi⟩
      walk_at "st"
      exact q D0 p r T G hTb fun i j hi hj => (hTi i j hi hj).2 (by unfold cov; omega)
end
end OT

set_option Elab.async false
set_option linter.all false
set_option maxRecDepth 100000
set_option maxHeartbeats 4000000
namespace OT
open PySem PySem.Spec PyProof.Rows L2
local macro_rules | `(tactic| walk_at "sm") => `(tactic| first | assumption | ((with_reducible show Same _ (upd _ _ _)); (refine' AU.mutS ?s ?h; (case h => assumption); (case s => walk_at "sm"))) | fail)
local macro_rules | `(tactic| walk_at "le") => `(tactic| first | (refine Nat.le_of_lt (AU.line ?_); (try simp only [List.length_append, List.length_map, List.length_cons, List.length_nil, List.length_take, List.length_replicate]); omega) | fail)
local macro_rules | `(tactic| walk_at "ll") => `(tactic| first | (show 0 < sizeLine; decide) | (show 1 < sizeLine; decide) | (show 2 < sizeLine; decide) | (show 3 < sizeLine; decide) | (refine AU.line ?_; (try simp only [List.length_append, List.length_map, List.length_cons, List.length_nil, List.length_take, List.length_replicate]); omega) | fail)
local macro_rules | `(tactic| walk_at "hl") => `(tactic| first | assumption | exact upd_same | (refine' AU.climb ?s ?h; (case s => walk_at "sm"); (case h => walk_at "hl")) | fail)
local macro_rules | `(tactic| walk_at "sl") => `(tactic| first | assumption | (refine' AU.sqL ?h; (case h => walk_at "hl")) | (refine' AU.sqLS ?s ?h; (case s => walk_at "sm"); (case h => walk_at "sl")) | fail)
local macro_rules | `(tactic| walk_at "tl") => `(tactic| first | assumption | (refine' AU.sqT ?h; (case h => walk_at "hl")) | (refine' AU.sqTS ?s ?h; (case s => walk_at "sm"); (case h => walk_at "tl")) | fail)
local macro_rules | `(tactic| walk_at "sz") => `(tactic| first | (show 0 ≤ sizeLine; decide) | (show 1 ≤ sizeLine; decide) | (show 2 ≤ sizeLine; decide) | (show 3 ≤ sizeLine; decide) | (show 4 ≤ sizeLine; decide) | (show 5 ≤ sizeLine; decide) | (show 6 ≤ sizeLine; decide) | (show 7 ≤ sizeLine; decide) | (show 8 ≤ sizeLine; decide) | (show 9 ≤ sizeLine; decide) | (show 10 ≤ sizeLine; decide) | fail)
local macro_rules | `(tactic| walk_at "ci") => `(tactic| first | exact trivial | omega | (show (0 : Int) < _; omega) | (show CMul _ _; exact .inl ⟨by omega, by omega⟩) | (show CMul _ _; exact .inr ⟨by omega, by omega⟩) | (show CMul _ _; exact .inr (AU.b01 _)) | (show CMul _ _; exact .inl (AU.b01 _)) | (show CDiv _ _; exact ⟨by omega, by omega⟩) | (show _ ≠ (0 : Int); omega) | (show CDiv _ _; exact ⟨by decide, by decide⟩) | fail)
local macro_rules | `(tactic| walk_at "hh") => `(tactic| first | assumption | (refine' OT.HeldF.mono ?s ?h; (case s => walk_at "sm"); (case h => walk_at "hh")) | fail)
local macro_rules | `(tactic| walk_at "tyx") => `(tactic| first | exact .base (.int _) | exact .base (.bl _) | exact .base (.str _) | exact .base (.lst (by walk_at "hl")) | exact .base (.tup (by walk_at "hl")) | fail)
local macro_rules | `(tactic| walk_at "st1") => `(tactic| first | ((with_reducible show tSeq _ _ _ _ _); (try simp only [List.set_cons_zero, List.set_cons_succ]); refine AU.seq_ ?_) | ((with_reducible show tAsg _ _ _ _ _); refine AU.asg_ ?_) | ((with_reducible show gName _ _ _ _ _); refine AU.name_ ?_) | ((with_reducible show tDrop _ _ _ _); refine AU.drop_ ?_) | ((with_reducible show tRet _ _ _ _); refine AU.ret_ ?_) | ((with_reducible show tRetN _ _ _); refine AU.retN_ ?_) | ((with_reducible show tNext _ _ _); refine AU.next_ ?_) | ((with_reducible show tBreak _ _ _); refine AU.brk_ ?_) | ((with_reducible show tCont _ _ _); refine AU.cont_ ?_) | ((with_reducible show tIfS _ _ _ _ _ _); refine AU.ifs_ ?_) | ((with_reducible show tAug _ _ _ _ _ _); refine AU.aug_ rfl ?_) | ((with_reducible show Ends.nx (Ends.mk _ _ _ _) _ _); refine AU.nxm ?_) | ((with_reducible show Ends.rt (Ends.mk _ _ _ _) _ _); refine AU.rtm ?_) | ((with_reducible show Ends.bk (Ends.mk _ _ _ _) _ _); refine AU.bkm ?_) | ((with_reducible show Ends.ct (Ends.mk _ _ _ _) _ _); refine AU.ctm ?_) | ((with_reducible show tVar _ _ _ _); refine AU.var_ rfl ?_) | ((with_reducible show tC _ _ _ _); refine AU.c_ ?_) | ((with_reducible show tOp _ _ _ _ _ _); refine AU.op_ ?_) | ((with_reducible show tUn _ _ _ _ _); refine AU.un_ ?_) | ((with_reducible show rU _ _ _ _); refine AU.u_ ?_) | ((with_reducible show rI0 _ _ _ _ _); refine AU.i0_ ?_) | ((with_reducible show rI _ _ _ _ _ _); refine AU.i_ (by walk_at "ci") ?_) | ((with_reducible show rEq (V.int _) (V.int _) _ _); first | (with_reducible refine AU.eqr_ ?_) | refine AU.eqi_ ?_) | ((with_reducible show rEq (V.str _) (V.str _) _ _); (with_reducible refine AU.eqs_ ?_)) | ((with_reducible show rNe (V.int _) (V.int _) _ _); refine AU.nei_ ?_) | ((with_reducible show rEq _ _ _ _); refine AU.eq_ rfl ?_) | ((with_reducible show rNe _ _ _ _); refine AU.ne_ rfl ?_) | ((with_reducible show tTest _ _ _ _); refine AU.test_ ?_) | ((with_reducible show tB _ _ _ _); refine AU.b_ ?_) | ((with_reducible show tAnd _ _ _ _ _); refine AU.and_ ?_) | ((with_reducible show tOr _ _ _ _ _); refine AU.or_ ?_) | ((with_reducible show tNot _ _ _ _); refine AU.not_ ?_) | ((with_reducible show tAndV _ _ _ _ _); refine AU.andV_ ?_) | ((with_reducible show tOrV _ _ _ _ _); refine AU.orV_ ?_) | ((with_reducible show tNotV _ _ _ _); refine AU.notV_ ?_) | ((with_reducible show tIf _ _ _ _ _ _); refine AU.if_ ?_) | ((with_reducible show tNil _ _ _); refine AU.nil_ ?_) | ((with_reducible show tCons _ _ _ _ _); refine AU.cons_ ?_) | ((with_reducible show tLst _ _ _ _); refine AU.lst_ ?_) | ((with_reducible show tTup _ _ _ _); refine AU.tup_ ?_) | ((with_reducible show tCall _ _ _ _ _ _ _); refine AU.call_ ?_) | ((with_reducible show tCallS _ _ _ _ _ _); refine AU.callS_ ?_) | ((with_reducible show tCB _ _ _ _ _); refine AU.cb_ ?_) | ((with_reducible show tBM _ _ _ _ _ _ _ _); refine AU.bm_ ?_) | ((with_reducible show rIxL _ _ _ _ _); refine AU.ixL_ (by walk_at "sl") (by first | assumption | rfl) ?_) | ((with_reducible show rIxT _ _ _ _ _); refine AU.ixT_ (by walk_at "tl") (by first | assumption | rfl) ?_) | ((with_reducible show Evl.rLenS _ _ _ _); first | refine AU.lenL_ (by walk_at "sl") ?_ | refine AU.lenT_ (by walk_at "tl") ?_) | ((with_reducible show rAppend (V.ref _) [_] _ _); refine AU.app_ (by walk_at "hl") (by walk_at "ll") ?_) | ((with_reducible show tyV _ _ (V.ref _) _ ∧ _); refine AU.tyl_ (by walk_at "sl") ?_) | ((with_reducible show rCat (V.ref _) (V.ref _) _ _); refine AU.cat_ (by walk_at "hl") (by walk_at "hl") (by walk_at "le") ?_) | ((with_reducible show tFor _ _ _ _ _ _); refine AU.for_ ?_) | ((with_reducible show tLc _ _ _ _ _ _ _ _); refine AU.lc_ ?_) | ((with_reducible show iRng1 _ _ _ _); refine AU.rng1_ ?_) | ((with_reducible show iList _ _ _ _ _); refine AU.list_ ?_) | ((with_reducible show iTup _ _ _ _ _); refine AU.itup_ ?_) | ((with_reducible show (∃ i, [V.bl _] = [V.int i] ∧ _) ∨ _); refine AU.intb_ ?_) | ((with_reducible show (∃ i, [V.int _] = [V.int i] ∧ _) ∨ _); refine AU.inti_ ?_) | ((with_reducible show tYes _ _ _); refine AU.yes_ ?_) | ((with_reducible show ∃ p ys, [V.ref _] = [V.ref p] ∧ (SqL _ _ p ys ∨ SqT _ _ p ys) ∧ _); first | refine AU.listof_ (by walk_at "sl") ?_ | refine AU.listofT_ (by walk_at "tl") ?_) | ((with_reducible show ∃ p ys, [V.ref _] = [V.ref p] ∧ ((SqL _ _ p ys ∧ _) ∨ (SqT _ _ p ys ∧ _))); first | refine AU.tupleof_ (by walk_at "sl") ?_ | refine AU.tupleofT_ (by walk_at "tl") ?_) | ((with_reducible show V.non = V.non ∧ _); refine ⟨rfl, ?_⟩) | ((with_reducible show OT.rIsX _ _ _ _ [V.ref _, _] _ _); refine OT.isX_ (by walk_at "hh") (by first | exact .own _ | exact .ty _) (by assumption) ?_) | ((with_reducible show OT.tFA _ _ _ _ _ _ _ _ _); refine OT.fA_ ?_) | ((with_reducible show OT.tCallE _ _ _ _ _ _ _ _); refine OT.callE_ ?_) | ((with_reducible show rIsi _ [_, _] _ _); refine OT.isi_ (by first | exact .own _ | exact .ty _) (by walk_at "tyx") (by first | assumption | exact kit_ty OT.kq_int_int | exact kit_ty OT.kq_int_bool | exact kit_ty OT.kq_bool_bool | exact kit_ty OT.kq_bool_int | exact kit_ty OT.kq_str_str | exact kit_ty OT.kq_tuple_tuple | exact kit_ty OT.kq_list_list | exact kit_ty OT.kq_list_tuple | exact kit_ty OT.kq_tuple_list | exact kit_ty OT.kq_list_int | exact kit_ty OT.kq_tuple_int | exact kit_ty OT.kq_list_bool | exact kit_ty OT.kq_tuple_bool | exact kit_ty OT.kq_str_int | exact kit_ty OT.kq_int_str | exact kit_ty OT.kq_int_list | exact kit_ty OT.kq_int_tuple | exact kit_ty OT.kq_bool_list | exact kit_ty OT.kq_bool_tuple) ?_) | ((with_reducible show ∃ k, V.bl _ = V.bl k ∧ _); refine AU.bool_ ?_) | ((with_reducible show tSl _ _ _ _ _ _ _); refine AU.sl_ ?_) | ((with_reducible show tNoPart _ _ _); refine AU.npart_ ?_) | ((with_reducible show tPart _ _ _ _); refine AU.part_ ?_) | ((with_reducible show ∃ k, V.int _ = V.int k ∧ rSlL _ _ _ (some k) _ _); refine AU.int1_ ?_) | ((with_reducible show rSlL _ (V.ref _) _ _ _ _); refine AU.slL_ (by walk_at "sl") ?_) | ((with_reducible refine AU.trueT ?_)) | ((with_reducible refine AU.refNon ?_)) | ((with_reducible refine AU.nonNon ?_)) | ((with_reducible refine AU.trueN ?_)) | ((with_reducible refine AU.falseN ?_)) | ((with_reducible refine AU.falseF ?_)) | fail)
local macro_rules | `(tactic| walk_at "st") => `(tactic| repeat walk_at "st1")
theorem movL_len (es : List Ent) (l : Pl) : (movL es l).length = es.length := List.length_map _
theorem prJ_len {T : Nat → Nat → List Ent} {n s i : Nat} (hT : ∀ j, j < n → (T i j).length ≤ 100) : ∀ j, j ≤ n → (prJ T n s i j).length ≤ 100 * j
  | 0, _ => Nat.le_refl _
  | j + 1, hj => by
    have ih := prJ_len (s := s) hT j (by omega)
    have := hT j (by omega)
    show (prJ T n s i j ++ if ((i : Int) - (j : Int) - (s : Int)) % (n : Int) = 0 then movL (T i j) [((i : Int) - (j : Int) - (s : Int)) / (n : Int)] else []).length ≤ _
    rw [List.length_append]
    by_cases c : ((i : Int) - (j : Int) - (s : Int)) % (n : Int) = 0
    · rw [if_pos c, movL_len]
      omega
    · rw [if_neg c]
      show _ + 0 ≤ _
      omega
/-- at most one summand for each i -/
theorem prJ_one {T : Nat → Nat → List Ent} {n s i : Nat} (hs : s < n) (hT : ∀ j, j < n → (T i j).length ≤ 100) : ∀ j, j ≤ n → (prJ T n s i j).length ≤ 100 * n := fun j hj => Nat.le_trans (prJ_len hT j hj) (Nat.mul_le_mul_left _ hj)
theorem prI_len {T : Nat → Nat → List Ent} {n s : Nat} (hs : s < n) (hT : ∀ i j, i < n → j < n → (T i j).length ≤ 100) : ∀ i, i ≤ n → (prI T n s i).length ≤ 100 * n * i
  | 0, _ => Nat.le_refl _
  | i + 1, hi => by
    have ih := prI_len hs hT i (by omega)
    have := prJ_one (i := i) hs (fun j hj => hT i j (by omega) hj) n (Nat.le_refl _)
    show (prI T n s i ++ prJ T n s i n).length ≤ _
    rw [List.length_append, Nat.mul_succ]
    omega
section
variable {P : Program} {w : World} {K : PySem.W.Frag} {mg : Str → Option Value} {base : Heap}
def spSum (K : PySem.W.Frag) : Sp := fun vs H Q _ => ∃ (H0 : Hp) (D : Addr) (n s : Nat) (p : Nat → Addr) (r : Nat → Nat → Addr) (T : Nat → Nat → List Ent), vs = [.ref D, .int (s : Int)] ∧ Tab H0 H D n p r T ∧ s < n ∧ n ≤ 8 ∧ (∀ i j, i < n → j < n → DimN 1 (T i j) ∧ (T i j).length ≤ 100) ∧ wantRow H (prI T n s n) Q
theorem c__law_sum {f : Addr} {fd : FuncData} (D : C8.Def K mg "_law_sum" s__law_sum f fd) (b : Binds K fd ["_law_tables_here", "_law_r"] []) (T : Bi mg) (c__law_moved : C8.Cal P w K mg base 2 "_law_moved" (spMoved K) []) (c__law_row : C8.Cal P w K mg base 1 "_law_row" (spGather K) []) : C8.Cal P w K mg base 3 "_law_sum" (spSum K) [] := by
  refine C8.cal0 D b .nil sc__law_sum (fun vs H Q E h => ?_) (fun cdv A outer s H vs Q E hr h => ?_)
  · obtain ⟨H0, D, n, s, p, r, T, rfl, _⟩ := h
    rfl
  · obtain ⟨H0, D0, n, s0, p, r, TT, rfl, hTb, hs, hn, hT, q⟩ := h
    refine ⟨_, (pss_cons (ps_set (i := 2) sc__law_sum.nd rfl (Or.inl rfl) (pe_callB call_len_seq (by rfl) T.n_len OT.b_len (pa_cons (pv 0) pa_nil)))
  (pss_cons (ps_set (i := 3) sc__law_sum.nd rfl (Or.inl rfl) (pe_lst pa_nil))
  (pss_cons (ps_for PassesOwn.never rfl (pi_range1 rfl T.n_range (pa_cons (pv 2) pa_nil)) (pg_name (i := 4) sc__law_sum.nd rfl (Or.inl rfl)) (pss_one (ps_for PassesOwn.never rfl (pi_range1 rfl T.n_range (pa_cons (pv 2) pa_nil)) (pg_name (i := 5) sc__law_sum.nd rfl (Or.inl rfl)) (pss_one (ps_if (pt_cmpR op_eq (pe_op op_mod (pe_callTy call_int1 (by rfl) T.n_int OT.b_int (pa_cons (pe_op op_sub (pe_op op_sub (pv 4) (pv 5)) (pv 1)) pa_nil)) (pv 2)) pe_int (nomark _)) (pss_one (ps_set (i := 3) sc__law_sum.nd rfl (Or.inl rfl) (pe_op op_cat (pv 3) (C8.pe_c c__law_moved hr (by decide) (by rfl) (pa_cons (pe_ix ix_list (pe_ix ix_list (pv 0) (pv 4) (fun _ _ => rfl)) (pv 5) (fun _ _ => rfl)) (pa_cons (pe_tup (pa_cons (pe_op op_fdiv (pe_op op_sub (pe_op op_sub (pv 4) (pv 5)) (pv 1)) (pv 2)) pa_nil)) pa_nil)))))) pss_nil)))))
  (pss_one (ps_ret (C8.pe_c c__law_row hr (by decide) (by rfl) (pa_cons (pv 3) pa_nil))))))), ?_⟩
    have hD := hTb.hD
    have hrl : ((List.range n).map fun i => V.ref (p i)).length = n := by rw [List.length_map, List.length_range]
    walk_at "st"
    rw [hrl]
    refine ⟨by walk_at "sz", fun L0 nL0 => ?_⟩; generalize eH1 : upd _ L0 _ = H1; have s1 := AU.newS nL0 eH1; have hL0 := AU.newH eH1; clear eH1
    walk_at "st"
    refine ⟨_, rfl, by omega, by omega, ?_⟩
    rw [Int.toNat_natCast]
    refine for_range (lo := 0) (n := n) (fun i σ G => ∃ (L : Addr) (ws : List V) (y4 y5 : Option V), σ = [some (.ref D0), some (.int (s0 : Int)), some (.int (n : Int)), some (.ref L), y4, y5] ∧ Same H G ∧ G L = some (.lst ws) ∧ Ents G ws (prI TT n s0 i)) ⟨L0, [], none, none, rfl, s1, hL0, .nil⟩ ?_ ?_
    · rintro i σ G hi ⟨L, ws, y4, y5, rfl, sG, hL, hW⟩
      walk_at "st"
      refine ⟨_, rfl, by omega, by omega, ?_⟩
      rw [Int.toNat_natCast]
      refine for_range (lo := 0) (n := n) (fun j σ G => ∃ (L : Addr) (ws : List V) (y5 : Option V), σ = [some (.ref D0), some (.int (s0 : Int)), some (.int (n : Int)), some (.ref L), some (.int (0 + (i : Int))), y5] ∧ Same H G ∧ G L = some (.lst ws) ∧ Ents G ws (prI TT n s0 i ++ prJ TT n s0 i j)) ⟨L, ws, y5, rfl, sG, hL, by show Ents G ws (_ ++ []); rw [List.append_nil]; exact hW⟩ ?_ ?_
      · rintro j σ G hj ⟨L, ws, y5, rfl, sG, hL, hW⟩
        have hTG := hTb.mono sG
        have hDG := hTG.hD
        have hpG := hTG.hp i hi
        obtain ⟨xs, hx, hE⟩ := hTG.row i j hi hj
        obtain ⟨dT, zT⟩ := hT i j hi hj
        have ati : atI ((List.range n).map fun i => V.ref (p i)) (0 + (i : Int)) = some (.ref (p i)) := AU.atN (j := i) (by omega) (range_at hi _)
        have atj : atI ((List.range n).map fun j => V.ref (r i j)) (0 + (j : Int)) = some (.ref (r i j)) := AU.atN (j := j) (by omega) (range_at hj _)
        have eq : (0 + (i : Int)) - (0 + (j : Int)) - (s0 : Int) = (i : Int) - (j : Int) - (s0 : Int) := by omega
        walk_at "st"
        rw [eq]
        refine iteD (fun z => ?_) (fun z => ?_)
        · walk_at "st"
          refine ⟨by walk_at "sz", fun t6 nt6 => ?_⟩; generalize eG6 : upd _ t6 _ = G6; have s6 := AU.newS nt6 eG6; have ht6 := AU.newH eG6; clear eG6
          walk_at "st"
          rw [eq] at ht6
          refine ⟨r i j, t6, xs, TT i j, [((i : Int) - (j : Int) - (s0 : Int)) / (n : Int)], rfl, ⟨AU.sqL (s6 _ _ hx), hE.mono s6, small1000 (by omega)⟩, AU.sqT ht6, fun e he => by rw [dT e he]; exact Nat.le_refl _, by simp, fun q7 ws7 G7 s7 nq7 hq7 hE7 => ?_⟩
          have hL7 := s7 _ _ (s6 _ _ hL)
          have hwl := hW.len
          have h7l := hE7.len
          rw [movL_len] at h7l
          rw [List.length_append] at hwl
          have l1 := prI_len hs (fun i j h1 h2 => (hT i j h1 h2).2) i (by omega)
          have l2 := prJ_one (i := i) hs (fun j h => (hT i j hi h).2) j (by omega)
          have l3 : 100 * n * i ≤ 100 * 8 * 8 := Nat.mul_le_mul (Nat.mul_le_mul_left _ hn) (by omega)
          walk_at "st"
          intro L8 nL8; generalize eG8 : upd _ L8 _ = G8; have s8 := AU.newS nL8 eG8; have hL8 := AU.newH eG8; clear eG8
          walk_at "st"
          have s68 := (s6.trans s7).trans s8
          refine ⟨L8, _, _, rfl, sG.trans s68, hL8, ?_⟩
          show Ents G8 _ (_ ++ (_ ++ ite _ _ _))
          rw [if_pos z, ← List.append_assoc]
          exact (hW.mono s68).app (hE7.mono s8)
        · walk_at "st"
          refine ⟨L, ws, _, rfl, sG, hL, ?_⟩
          show Ents G ws (_ ++ (_ ++ ite _ _ _))
          rw [if_neg z, List.append_nil]
          exact hW
      · rintro σ G ⟨L, ws, y5, rfl, sG, hL, hW⟩
        exact ⟨L, ws, _, _, rfl, sG, hL, hW⟩
    · rintro σ G ⟨L, ws, y4, y5, rfl, sG, hL, hW⟩
      have l1 := prI_len hs (fun i j h1 h2 => (hT i j h1 h2).2) n (Nat.le_refl _)
      have l3 : 100 * n * n ≤ 100 * 8 * 8 := Nat.mul_le_mul (Nat.mul_le_mul_left _ hn) hn
      have hd := prI_dim (s := s0) (fun i j h1 h2 => (hT i j h1 h2).1) n (Nat.le_refl _)
      walk_at "st"
      exact ⟨L, ws, _, rfl, ⟨AU.sqL hL, hW, small100k (by omega)⟩, fun e he z => (by have := hd e he; rw [z] at this; cases this), q.mono sG⟩
end
end OT

set_option Elab.async false
set_option linter.all false
set_option maxRecDepth 100000
set_option maxHeartbeats 4000000
namespace OT
open PySem PySem.Spec PyProof.Rows L2
local macro_rules | `(tactic| walk_at "sm") => `(tactic| first | assumption | ((with_reducible show Same _ (upd _ _ _)); (refine' AU.mutS ?s ?h; (case h => assumption); (case s => walk_at "sm"))) | fail)
local macro_rules | `(tactic| walk_at "le") => `(tactic| first | (refine Nat.le_of_lt (AU.line ?_); (try simp only [List.length_append, List.length_map, List.length_cons, List.length_nil, List.length_take, List.length_replicate]); omega) | fail)
local macro_rules | `(tactic| walk_at "ll") => `(tactic| first | (show 0 < sizeLine; decide) | (show 1 < sizeLine; decide) | (show 2 < sizeLine; decide) | (show 3 < sizeLine; decide) | (refine AU.line ?_; (try simp only [List.length_append, List.length_map, List.length_cons, List.length_nil, List.length_take, List.length_replicate]); omega) | fail)
local macro_rules | `(tactic| walk_at "hl") => `(tactic| first | assumption | exact upd_same | (refine' AU.climb ?s ?h; (case s => walk_at "sm"); (case h => walk_at "hl")) | fail)
local macro_rules | `(tactic| walk_at "sl") => `(tactic| first | assumption | (refine' AU.sqL ?h; (case h => walk_at "hl")) | (refine' AU.sqLS ?s ?h; (case s => walk_at "sm"); (case h => walk_at "sl")) | fail)
local macro_rules | `(tactic| walk_at "tl") => `(tactic| first | assumption | (refine' AU.sqT ?h; (case h => walk_at "hl")) | (refine' AU.sqTS ?s ?h; (case s => walk_at "sm"); (case h => walk_at "tl")) | fail)
local macro_rules | `(tactic| walk_at "sz") => `(tactic| first | (show 0 ≤ sizeLine; decide) | (show 1 ≤ sizeLine; decide) | (show 2 ≤ sizeLine; decide) | (show 3 ≤ sizeLine; decide) | (show 4 ≤ sizeLine; decide) | (show 5 ≤ sizeLine; decide) | (show 6 ≤ sizeLine; decide) | (show 7 ≤ sizeLine; decide) | (show 8 ≤ sizeLine; decide) | (show 9 ≤ sizeLine; decide) | (show 10 ≤ sizeLine; decide) | fail)
local macro_rules | `(tactic| walk_at "ci") => `(tactic| first | exact trivial | omega | (show (0 : Int) < _; omega) | (show CMul _ _; exact .inl ⟨by omega, by omega⟩) | (show CMul _ _; exact .inr ⟨by omega, by omega⟩) | (show CMul _ _; exact .inr (AU.b01 _)) | (show CMul _ _; exact .inl (AU.b01 _)) | (show CDiv _ _; exact ⟨by omega, by omega⟩) | (show _ ≠ (0 : Int); omega) | (show CDiv _ _; exact ⟨by decide, by decide⟩) | fail)
local macro_rules | `(tactic| walk_at "hh") => `(tactic| first | assumption | (refine' OT.HeldF.mono ?s ?h; (case s => walk_at "sm"); (case h => walk_at "hh")) | fail)
local macro_rules | `(tactic| walk_at "tyx") => `(tactic| first | exact .base (.int _) | exact .base (.bl _) | exact .base (.str _) | exact .base (.lst (by walk_at "hl")) | exact .base (.tup (by walk_at "hl")) | fail)
local macro_rules | `(tactic| walk_at "st1") => `(tactic| first | ((with_reducible show tSeq _ _ _ _ _); (try simp only [List.set_cons_zero, List.set_cons_succ]); refine AU.seq_ ?_) | ((with_reducible show tAsg _ _ _ _ _); refine AU.asg_ ?_) | ((with_reducible show gName _ _ _ _ _); refine AU.name_ ?_) | ((with_reducible show tDrop _ _ _ _); refine AU.drop_ ?_) | ((with_reducible show tRet _ _ _ _); refine AU.ret_ ?_) | ((with_reducible show tRetN _ _ _); refine AU.retN_ ?_) | ((with_reducible show tNext _ _ _); refine AU.next_ ?_) | ((with_reducible show tBreak _ _ _); refine AU.brk_ ?_) | ((with_reducible show tCont _ _ _); refine AU.cont_ ?_) | ((with_reducible show tIfS _ _ _ _ _ _); refine AU.ifs_ ?_) | ((with_reducible show tAug _ _ _ _ _ _); refine AU.aug_ rfl ?_) | ((with_reducible show Ends.nx (Ends.mk _ _ _ _) _ _); refine AU.nxm ?_) | ((with_reducible show Ends.rt (Ends.mk _ _ _ _) _ _); refine AU.rtm ?_) | ((with_reducible show Ends.bk (Ends.mk _ _ _ _) _ _); refine AU.bkm ?_) | ((with_reducible show Ends.ct (Ends.mk _ _ _ _) _ _); refine AU.ctm ?_) | ((with_reducible show tVar _ _ _ _); refine AU.var_ rfl ?_) | ((with_reducible show tC _ _ _ _); refine AU.c_ ?_) | ((with_reducible show tOp _ _ _ _ _ _); refine AU.op_ ?_) | ((with_reducible show tUn _ _ _ _ _); refine AU.un_ ?_) | ((with_reducible show rU _ _ _ _); refine AU.u_ ?_) | ((with_reducible show rI0 _ _ _ _ _); refine AU.i0_ ?_) | ((with_reducible show rI _ _ _ _ _ _); refine AU.i_ (by walk_at "ci") ?_) | ((with_reducible show rEq (V.int _) (V.int _) _ _); first | (with_reducible refine AU.eqr_ ?_) | refine AU.eqi_ ?_) | ((with_reducible show rEq (V.str _) (V.str _) _ _); (with_reducible refine AU.eqs_ ?_)) | ((with_reducible show rNe (V.int _) (V.int _) _ _); refine AU.nei_ ?_) | ((with_reducible show rEq _ _ _ _); refine AU.eq_ rfl ?_) | ((with_reducible show rNe _ _ _ _); refine AU.ne_ rfl ?_) | ((with_reducible show tTest _ _ _ _); refine AU.test_ ?_) | ((with_reducible show tB _ _ _ _); refine AU.b_ ?_) | ((with_reducible show tAnd _ _ _ _ _); refine AU.and_ ?_) | ((with_reducible show tOr _ _ _ _ _); refine AU.or_ ?_) | ((with_reducible show tNot _ _ _ _); refine AU.not_ ?_) | ((with_reducible show tAndV _ _ _ _ _); refine AU.andV_ ?_) | ((with_reducible show tOrV _ _ _ _ _); refine AU.orV_ ?_) | ((with_reducible show tNotV _ _ _ _); refine AU.notV_ ?_) | ((with_reducible show tIf _ _ _ _ _ _); refine AU.if_ ?_) | ((with_reducible show tNil _ _ _); refine AU.nil_ ?_) | ((with_reducible show tCons _ _ _ _ _); refine AU.cons_ ?_) | ((with_reducible show tLst _ _ _ _); refine AU.lst_ ?_) | ((with_reducible show tTup _ _ _ _); refine AU.tup_ ?_) | ((with_reducible show tCall _ _ _ _ _ _ _); refine AU.call_ ?_) | ((with_reducible show tCallS _ _ _ _ _ _); refine AU.callS_ ?_) | ((with_reducible show tCB _ _ _ _ _); refine AU.cb_ ?_) | ((with_reducible show tBM _ _ _ _ _ _ _ _); refine AU.bm_ ?_) | ((with_reducible show rIxL _ _ _ _ _); refine AU.ixL_ (by walk_at "sl") (by first | assumption | rfl) ?_) | ((with_reducible show rIxT _ _ _ _ _); refine AU.ixT_ (by walk_at "tl") (by first | assumption | rfl) ?_) | ((with_reducible show Evl.rLenS _ _ _ _); first | refine AU.lenL_ (by walk_at "sl") ?_ | refine AU.lenT_ (by walk_at "tl") ?_) | ((with_reducible show rAppend (V.ref _) [_] _ _); refine AU.app_ (by walk_at "hl") (by walk_at "ll") ?_) | ((with_reducible show tyV _ _ (V.ref _) _ ∧ _); refine AU.tyl_ (by walk_at "sl") ?_) | ((with_reducible show rCat (V.ref _) (V.ref _) _ _); refine AU.cat_ (by walk_at "hl") (by walk_at "hl") (by walk_at "le") ?_) | ((with_reducible show tFor _ _ _ _ _ _); refine AU.for_ ?_) | ((with_reducible show tLc _ _ _ _ _ _ _ _); refine AU.lc_ ?_) | ((with_reducible show iRng1 _ _ _ _); refine AU.rng1_ ?_) | ((with_reducible show iList _ _ _ _ _); refine AU.list_ ?_) | ((with_reducible show iTup _ _ _ _ _); refine AU.itup_ ?_) | ((with_reducible show (∃ i, [V.bl _] = [V.int i] ∧ _) ∨ _); refine AU.intb_ ?_) | ((with_reducible show (∃ i, [V.int _] = [V.int i] ∧ _) ∨ _); refine AU.inti_ ?_) | ((with_reducible show tYes _ _ _); refine AU.yes_ ?_) | ((with_reducible show ∃ p ys, [V.ref _] = [V.ref p] ∧ (SqL _ _ p ys ∨ SqT _ _ p ys) ∧ _); first | refine AU.listof_ (by walk_at "sl") ?_ | refine AU.listofT_ (by walk_at "tl") ?_) | ((with_reducible show ∃ p ys, [V.ref _] = [V.ref p] ∧ ((SqL _ _ p ys ∧ _) ∨ (SqT _ _ p ys ∧ _))); first | refine AU.tupleof_ (by walk_at "sl") ?_ | refine AU.tupleofT_ (by walk_at "tl") ?_) | ((with_reducible show V.non = V.non ∧ _); refine ⟨rfl, ?_⟩) | ((with_reducible show OT.rIsX _ _ _ _ [V.ref _, _] _ _); refine OT.isX_ (by walk_at "hh") (by first | exact .own _ | exact .ty _) (by assumption) ?_) | ((with_reducible show OT.tFA _ _ _ _ _ _ _ _ _); refine OT.fA_ ?_) | ((with_reducible show OT.tCallE _ _ _ _ _ _ _ _); refine OT.callE_ ?_) | ((with_reducible show rIsi _ [_, _] _ _); refine OT.isi_ (by first | exact .own _ | exact .ty _) (by walk_at "tyx") (by first | assumption | exact kit_ty OT.kq_int_int | exact kit_ty OT.kq_int_bool | exact kit_ty OT.kq_bool_bool | exact kit_ty OT.kq_bool_int | exact kit_ty OT.kq_str_str | exact kit_ty OT.kq_tuple_tuple | exact kit_ty OT.kq_list_list | exact kit_ty OT.kq_list_tuple | exact kit_ty OT.kq_tuple_list | exact kit_ty OT.kq_list_int | exact kit_ty OT.kq_tuple_int | exact kit_ty OT.kq_list_bool | exact kit_ty OT.kq_tuple_bool | exact kit_ty OT.kq_str_int | exact kit_ty OT.kq_int_str | exact kit_ty OT.kq_int_list | exact kit_ty OT.kq_int_tuple | exact kit_ty OT.kq_bool_list | exact kit_ty OT.kq_bool_tuple) ?_) | ((with_reducible show ∃ k, V.bl _ = V.bl k ∧ _); refine AU.bool_ ?_) | ((with_reducible show tSl _ _ _ _ _ _ _); refine AU.sl_ ?_) | ((with_reducible show tNoPart _ _ _); refine AU.npart_ ?_) | ((with_reducible show tPart _ _ _ _); refine AU.part_ ?_) | ((with_reducible show ∃ k, V.int _ = V.int k ∧ rSlL _ _ _ (some k) _ _); refine AU.int1_ ?_) | ((with_reducible show rSlL _ (V.ref _) _ _ _ _); refine AU.slL_ (by walk_at "sl") ?_) | ((with_reducible refine AU.trueT ?_)) | ((with_reducible refine AU.refNon ?_)) | ((with_reducible refine AU.nonNon ?_)) | ((with_reducible refine AU.trueN ?_)) | ((with_reducible refine AU.falseN ?_)) | ((with_reducible refine AU.falseF ?_)) | fail)
local macro_rules | `(tactic| walk_at "st") => `(tactic| repeat walk_at "st1")
theorem FrL.empty {H0 G : Hp} {L : Addr} (s : Same H0 G) (n : H0 L = none) (h : G L = some (.lst [])) : FrL H0 G L [] [] :=
  ⟨s, n, fun a h => (by cases h), h, .nil, fun h => (by cases h), rfl, fun i a es h => (by simp at h)⟩
theorem flat_len {α : Type} {m : Nat} : ∀ {Ts : List (List α)}, (∀ l ∈ Ts, l.length ≤ m) → Ts.flatten.length ≤ Ts.length * m
  | [], _ => Nat.zero_le _
  | l :: r, h => by
    have ih := flat_len (Ts := r) fun x hx => h x (List.mem_cons_of_mem _ hx)
    have := h l List.mem_cons_self
    rw [List.flatten_cons, List.length_append, List.length_cons, Nat.succ_mul]
    omega
theorem tab_eq {t a b : List Ent} (h : RowIs t (crossL a b)) (v : Valid b) (d : DimN 1 b) : t = rowOf (timesL a (mirP b)) :=
  RowIs.one ⟨h.v, fun q => (h.s q).trans (timesL_eq2 a (fun q => ((mirP_is v d).s q).symm) q)⟩ (rowOf_is _)
/-- a row of the size that is asked -/
structure SRow (es : List Ent) : Prop where
  v : Valid es
  d : DimN 1 es
  z : es.length ≤ 30
  c : ∀ e ∈ es, ∀ x ∈ e.1, x.natAbs ≤ 1000000
  u : ∀ e ∈ es, -(2 ^ 64) < e.2 ∧ e.2 < 2 ^ 64
theorem rowOf_dim {n : Nat} {a : List Ent} (h : DimN n a) : DimN n (rowOf a) := DimN.of (rowOf_is a) h
theorem tabsP_mem {ess : List (List Ent)} {l : List (List Ent)} (h : l ∈ tabsP ess) : l.length = ess.length := by
  obtain ⟨f, _, rfl⟩ := List.mem_map.mp h
  exact List.length_map _
theorem tabsP_row {ess : List (List Ent)} (hg : ∀ es ∈ ess, SRow es) {l : List (List Ent)} (h : l ∈ tabsP ess) {es : List Ent} (he : es ∈ l) : RowN 1 es ∧ es.length ≤ 900 := by
  obtain ⟨f, hf, rfl⟩ := List.mem_map.mp h
  obtain ⟨g, hgm, rfl⟩ := List.mem_map.mp he
  have d : DimN 1 (timesL f (mirP g)) := DimN.times (hg f hf).d (mirP_dim (hg g hgm).d)
  refine ⟨⟨(rowOf_is _).v, by decide, by decide, rowOf_dim d⟩, Nat.le_trans (rowOf_is _).len ?_⟩
  rw [timesL_len, mirP_len]
  exact Nat.mul_le_mul (hg f hf).z (hg g hgm).z
section
variable {P : Program} {w : World} {K : PySem.W.Frag} {mg : Str → Option Value} {base : Heap}
def spLTC (K : PySem.W.Frag) : Sp := fun vs H Q _ => ∃ (a : Addr) (us : List V) (ess : List (List Ent)), vs = [.ref a] ∧ H a = some (.lst us) ∧ RowsAt H us ess ∧ ess.length ≤ 1000 ∧ (∀ es ∈ ess, SRow es) ∧ ∀ D ps ass H', FrT H H' D ps ass (tabsP ess) → Q (.ref D) H'
theorem ltC {M : Addr} : ∀ vs H Q E, spLTC K vs H Q E → spLT K M vs H Q E0 := fun vs H Q E ⟨a, us, ess, e, ha, hR, hz, hg, q⟩ => by
  have hm := mix_ones fun es he => (hg es he).d
  refine ⟨a, us, ess, e, AU.sqL ha, hR, hz, fun h => ?_, fun _ => ⟨⟨1, 1000000, by decide, by decide, fun es he => ⟨(hg es he).d, by have := (hg es he).z; omega, (hg es he).c, (hg es he).u⟩⟩, q⟩⟩
  rw [hm] at h
  cases h
def spTold (K : PySem.W.Frag) : Sp := fun vs H Q _ => ∃ (a g D : Addr) (us gs : List V) (ess : List (List Ent)) (H0 : Hp) (p : Nat → Addr) (r : Nat → Nat → Addr) (T : Nat → Nat → List Ent), vs = [.ref a, .ref g, .ref D] ∧ H a = some (.lst us) ∧ RowsAt H us ess ∧ H g = some (.lst gs) ∧ RowsAt H gs ess ∧
  Tab H0 H D ess.length p r T ∧ (∀ i j, i < ess.length → j < ess.length → RowIs (T i j) (crossL (ess.getD i []) (ess.getD j []))) ∧ ess.length ≤ 8 ∧ (∀ es ∈ ess, SRow es) ∧ ∀ H', Same H H' → Q (.bl true) H'
theorem c__law_tables_told {f : Addr} {fd : FuncData} (D : C8.Def K mg "_law_tables_told" s__law_tables_told f fd) (b : Binds K fd ["_law_rows_here", "_law_given", "_law_tables_here"] []) (T : Bi mg) (c_list_tables : C8.Cal P w K mg base 7 "list_tables" (spLTC K) []) (c__law_same_list : C8.Cal P w K mg base 5 "_law_same_list" spSameL [])
    (c__law_apart : C8.Cal P w K mg base 1 "_law_apart" spApart []) : C8.Cal P w K mg base 8 "_law_tables_told" (spTold K) [] := by
  refine C8.cal0 D b .nil sc__law_tables_told (fun vs H Q E h => ?_) (fun cdv A outer s H vs Q E hr h => ?_)
  · obtain ⟨a, g, D, us, gs, ess, H0, p, r, TT, rfl, _⟩ := h
    rfl
  · obtain ⟨a, g, D0, us, gs, ess, H0, p, r, TT, rfl, ha, hR, hga, hG, hTb, hT, hz, hg, q⟩ := h
    refine ⟨_, (pss_cons (ps_for PassesOwn.never rfl (pi_range1 rfl T.n_range (pa_cons pe_int pa_nil)) (pg_name (i := 3) sc__law_tables_told.nd rfl (Or.inl rfl)) (pss_cons (ps_set (i := 4) sc__law_tables_told.nd rfl (Or.inl rfl) (C8.pe_c c_list_tables hr (by decide) (by rfl) (pa_cons (pv 1) pa_nil)))
  (pss_cons (ps_if (PW.pt (pw_or (pt_not (pt_val (pe_callB call_isi (by rfl) T.n_isinstance OT.b_isinstance (pa_cons (pv 4) (pa_cons (pe_bltn (v := .ty "list") (by rfl) T.n_list OT.b_list rfl) pa_nil))))) (pw_or1 (pt_cmpR op_ne (pe_callB call_len_seq (by rfl) T.n_len OT.b_len (pa_cons (pv 4) pa_nil)) (pe_callB call_len_seq (by rfl) T.n_len OT.b_len (pa_cons (pv 0) pa_nil)) (nomark _))))) (pss_one (ps_ret pe_bl)) pss_nil)
  (pss_cons (ps_set (i := 5) sc__law_tables_told.nd rfl (Or.inl rfl) (pe_lst pa_nil))
  (pss_cons (ps_for PassesOwn.never rfl (pi_range1 rfl T.n_range (pa_cons (pe_callB call_len_seq (by rfl) T.n_len OT.b_len (pa_cons (pv 0) pa_nil)) pa_nil)) (pg_name (i := 6) sc__law_tables_told.nd rfl (Or.inl rfl)) (pss_cons (ps_if (pt_not (pt_val (C8.pe_c c__law_same_list hr (by decide) (by rfl) (pa_cons (pe_ix ix_list (pv 4) (pv 6) (fun _ _ => rfl)) (pa_cons (pe_ix ix_list (pv 2) (pv 6) (fun _ _ => rfl)) pa_nil))))) (pss_one (ps_ret pe_bl)) pss_nil)
  (pss_one (ps_set (i := 5) sc__law_tables_told.nd rfl (Or.inl rfl) (pe_op op_cat (pv 5) (pe_ix ix_list (pv 4) (pv 6) (fun _ _ => rfl)))))))
  (pss_one (ps_if (PW.pt (pw_or (pt_not (pt_val (C8.pe_c c__law_apart hr (by decide) (by rfl) (pa_cons (pv 5) pa_nil)))) (pw_or1 (pt_not (pt_val (C8.pe_c c__law_same_list hr (by decide) (by rfl) (pa_cons (pv 1) (pa_cons (pv 0) pa_nil)))))))) (pss_one (ps_ret pe_bl)) pss_nil)))))))
  (pss_one (ps_ret pe_bl))), ?_⟩
    have hul := hR.len
    walk_at "st"
    refine ⟨2, rfl, by decide, by decide, ?_⟩
    refine for_range (lo := 0) (n := 2) (fun i σ H2 => ∃ y3 y4 y5 y6, σ = [some (.ref a), some (.ref g), some (.ref D0), y3, y4, y5, y6] ∧ Same H H2) ⟨none, none, none, none, rfl, Same.refl _⟩ ?_ ?_
    · rintro i σ H2 hi ⟨y3, y4, y5, y6, rfl, s2⟩
      have ha2 := s2 _ _ ha
      have hg2 := s2 _ _ hga
      have hG2 := hG.mono s2
      have hR2 := hR.mono s2
      have hTb2 := hTb.mono s2
      walk_at "st"
      refine ⟨g, gs, ess, rfl, hg2, hG2, by omega, hg, fun D1 ps ass H3 hF => ?_⟩
      have s3 := hF.s
      have hF3 := hF.hD
      have hl1 := hF.l1
      have hl2 := hF.l2
      have htl : (tabsP ess).length = ess.length := List.length_map _
      have hpl : (ps.map V.ref).length = ess.length := by rw [List.length_map, hl1, htl]
      walk_at "st"
      rw [hpl, hul]
      refine iteND (fun z => absurd rfl z) (fun _ => ?_)
      walk_at "st"
      refine ⟨by walk_at "sz", fun L0 nL0 => ?_⟩; generalize eH4 : upd _ L0 _ = H4; have s4 := AU.newS nL0 eH4; have hL0 := AU.newH eH4; clear eH4
      have hE0 : FrL H2 H4 L0 [] [] := FrL.empty (s3.trans s4) (AU.back s3 nL0) hL0
      have ha4 := s4 _ _ (s3 _ _ ha2)
      walk_at "st"
      rw [hul]
      refine ⟨_, rfl, by omega, by omega, ?_⟩
      rw [Int.toNat_natCast]
      refine for_range (lo := 0) (n := ess.length) (fun k σ G => ∃ (L : Addr) (y6 : Option V), σ = [some (.ref a), some (.ref g), some (.ref D0), some (.int (0 + (i : Int))), some (.ref D1), some (.ref L), y6] ∧ Same H3 G ∧ FrL H2 G L (ass.take k).flatten ((tabsP ess).take k).flatten) ⟨L0, y6, rfl, s4, hE0⟩ ?_ ?_
      · rintro k σ G hk ⟨L, y6, rfl, sG, hL⟩
        have hFG := hF.mono sG
        have hDG := hFG.hD
        have hTG := hTb2.mono (s3.trans sG)
        have hTD := hTG.hD
        have hpk : ps[k]? = some (ps[k]'(by omega)) := List.getElem?_eq_getElem _
        have hak : ass[k]? = some (ass[k]'(by omega)) := List.getElem?_eq_getElem _
        have htk : (tabsP ess)[k]? = some ((tabsP ess)[k]'(by omega)) := List.getElem?_eq_getElem _
        have hFk := hFG.rows k _ _ _ hpk hak htk
        have hrow := hTG.hp k hk
        have hte : (tabsP ess)[k]'(by omega) = ess.map fun g => rowOf (timesL ess[k] (mirP g)) := by
          unfold tabsP
          rw [List.getElem_map]
        have hRk : RowsAt G ((List.range ess.length).map fun j => V.ref (r k j)) ((tabsP ess)[k]'(by omega)) := by
          have e : ((List.range ess.length).map fun j => V.ref (r k j)) = ((List.range ess.length).map (r k)).map V.ref := by rw [List.map_map]; rfl
          rw [e]
          refine rowsAt_of (by rw [List.length_map, List.length_range, hte, List.length_map]) fun j b fs hj hf => ?_
          have hjl := (List.getElem?_eq_some_iff.mp hj).1
          rw [List.length_map, List.length_range] at hjl
          rw [range_at hjl] at hj
          cases hj
          rw [hte, List.getElem?_map, List.getElem?_eq_getElem hjl] at hf
          cases hf
          obtain ⟨xs, h1, h2⟩ := hTG.row k j hk hjl
          have hTkj := hT k j hk hjl
          rw [List.getD_eq_getElem?_getD, List.getElem?_eq_getElem hk, List.getD_eq_getElem?_getD, List.getElem?_eq_getElem hjl] at hTkj
          have hgj := hg _ (List.getElem_mem hjl)
          rw [tab_eq hTkj hgj.v hgj.d] at h2
          exact ⟨xs, h1, h2⟩
        have at1 : atI (ps.map V.ref) ((0 : Int) + (k : Int)) = some (.ref (ps[k]'(by omega))) := AU.atN (j := k) (by omega) (by rw [List.getElem?_map, hpk]; rfl)
        have at2 : atI ((List.range ess.length).map fun i => V.ref (p i)) ((0 : Int) + (k : Int)) = some (.ref (p k)) := AU.atN (j := k) (by omega) (range_at hk _)
        have hkm : (tabsP ess)[k]'(by omega) ∈ tabsP ess := List.getElem_mem _
        have hkl := tabsP_mem hkm
        walk_at "st"
        refine ⟨_, p k, _, _, _, rfl, hFk.hp, hFk.at_rows, hrow, hRk, by omega, fun es he => ?_, ?_⟩
        · obtain ⟨h1, h2⟩ := tabsP_row hg hkm he
          exact ⟨⟨1, h1⟩, by omega⟩
        have hLl : (ass.take k).flatten.length ≤ 1000 := by
          rw [hL.l]
          refine Nat.le_trans (flat_len (m := 8) fun l hl => ?_) (Nat.le_trans (Nat.mul_le_mul_right 8 (show ((tabsP ess).take k).length ≤ 8 by rw [List.length_take]; omega)) (by decide))
          rw [tabsP_mem (List.mem_of_mem_take hl)]
          exact hz
        have hal : (ass[k]'(by omega)).length ≤ 8 := by rw [hFk.l, hkl]; exact hz
        have hLp := hL.hp
        have hkp := hFk.hp
        walk_at "st"
        intro L9 nL9
        have s9 : Same G (upd G L9 (.lst ((ass.take k).flatten.map V.ref ++ (ass[k]'(by omega)).map V.ref))) := same_upd nL9
        walk_at "st"
        refine ⟨L9, _, rfl, sG.trans s9, ?_⟩
        rw [take_snocL hak, take_snocL htk, List.flatten_append, List.flatten_append, List.flatten_singleton, List.flatten_singleton]
        refine hL.cat hFk ?_ nL9
        have e : (ass.take k).flatten ++ (ass[k]'(by omega)) = (ass.take (k + 1)).flatten := by rw [take_snocL hak, List.flatten_append, List.flatten_singleton]
        rw [e]
        have e2 : ass.flatten = (ass.take (k + 1)).flatten ++ (ass.drop (k + 1)).flatten := by rw [← List.flatten_append, List.take_append_drop]
        have h3 := hF.nd
        rw [e2] at h3
        exact (List.nodup_append.mp h3).1
      · rintro σ G ⟨L, y6, rfl, sG, hL⟩
        rw [List.take_of_length_le (by omega), List.take_of_length_le (by omega)] at hL
        walk_at "st"
        refine ⟨H2, L, _, _, rfl, hL, ?_, fun es he => ?_, fun H5 s5 hp5 => ?_⟩
        · refine Nat.le_trans (flat_len (m := 8) fun l hl => ?_) (Nat.le_trans (Nat.mul_le_mul_right 8 (show (tabsP ess).length ≤ 8 by omega)) (by decide))
          rw [tabsP_mem hl]
          exact hz
        · obtain ⟨l, hl, hm⟩ := List.mem_flatten.mp he
          have := (tabsP_row hg hl hm).2
          omega
        walk_at "st"
        refine ⟨g, a, gs, us, ess, rfl, s5 _ _ hg2, hG2.mono s5, s5 _ _ ha2, hR2.mono s5, by omega, fun es he => ⟨⟨1, (hg es he).v, by decide, by decide, (hg es he).d⟩, by have := (hg es he).z; omega⟩, ?_⟩
        walk_at "st"
        exact ⟨_, _, _, _, rfl, s2.trans s5⟩
    · rintro σ H2 ⟨y3, y4, y5, y6, rfl, s2⟩
      walk_at "st"
      exact q _ s2
end
end OT

set_option Elab.async false
set_option linter.all false
set_option maxRecDepth 100000
set_option maxHeartbeats 4000000
namespace OT
open PySem PySem.Spec PyProof.Rows L2
local macro_rules | `(tactic| walk_at "sm") => `(tactic| first | assumption | ((with_reducible show Same _ (upd _ _ _)); (refine' AU.mutS ?s ?h; (case h => assumption); (case s => walk_at "sm"))) | fail)
local macro_rules | `(tactic| walk_at "le") => `(tactic| first | (refine Nat.le_of_lt (AU.line ?_); (try simp only [List.length_append, List.length_map, List.length_cons, List.length_nil, List.length_take, List.length_replicate]); omega) | fail)
local macro_rules | `(tactic| walk_at "ll") => `(tactic| first | (show 0 < sizeLine; decide) | (show 1 < sizeLine; decide) | (show 2 < sizeLine; decide) | (show 3 < sizeLine; decide) | (refine AU.line ?_; (try simp only [List.length_append, List.length_map, List.length_cons, List.length_nil, List.length_take, List.length_replicate]); omega) | fail)
local macro_rules | `(tactic| walk_at "hl") => `(tactic| first | assumption | exact upd_same | (refine' AU.climb ?s ?h; (case s => walk_at "sm"); (case h => walk_at "hl")) | fail)
local macro_rules | `(tactic| walk_at "sl") => `(tactic| first | assumption | (refine' AU.sqL ?h; (case h => walk_at "hl")) | (refine' AU.sqLS ?s ?h; (case s => walk_at "sm"); (case h => walk_at "sl")) | fail)
local macro_rules | `(tactic| walk_at "tl") => `(tactic| first | assumption | (refine' AU.sqT ?h; (case h => walk_at "hl")) | (refine' AU.sqTS ?s ?h; (case s => walk_at "sm"); (case h => walk_at "tl")) | fail)
local macro_rules | `(tactic| walk_at "sz") => `(tactic| first | (show 0 ≤ sizeLine; decide) | (show 1 ≤ sizeLine; decide) | (show 2 ≤ sizeLine; decide) | (show 3 ≤ sizeLine; decide) | (show 4 ≤ sizeLine; decide) | (show 5 ≤ sizeLine; decide) | (show 6 ≤ sizeLine; decide) | (show 7 ≤ sizeLine; decide) | (show 8 ≤ sizeLine; decide) | (show 9 ≤ sizeLine; decide) | (show 10 ≤ sizeLine; decide) | fail)
local macro_rules | `(tactic| walk_at "ci") => `(tactic| first | exact trivial | omega | (show (0 : Int) < _; omega) | (show CMul _ _; exact .inl ⟨by omega, by omega⟩) | (show CMul _ _; exact .inr ⟨by omega, by omega⟩) | (show CMul _ _; exact .inr (AU.b01 _)) | (show CMul _ _; exact .inl (AU.b01 _)) | (show CDiv _ _; exact ⟨by omega, by omega⟩) | (show _ ≠ (0 : Int); omega) | (show CDiv _ _; exact ⟨by decide, by decide⟩) | fail)
local macro_rules | `(tactic| walk_at "hh") => `(tactic| first | assumption | (refine' OT.HeldF.mono ?s ?h; (case s => walk_at "sm"); (case h => walk_at "hh")) | fail)
local macro_rules | `(tactic| walk_at "tyx") => `(tactic| first | exact .base (.int _) | exact .base (.bl _) | exact .base (.str _) | exact .base (.lst (by walk_at "hl")) | exact .base (.tup (by walk_at "hl")) | fail)
local macro_rules | `(tactic| walk_at "st1") => `(tactic| first | ((with_reducible show tSeq _ _ _ _ _); (try simp only [List.set_cons_zero, List.set_cons_succ]); refine AU.seq_ ?_) | ((with_reducible show tAsg _ _ _ _ _); refine AU.asg_ ?_) | ((with_reducible show gName _ _ _ _ _); refine AU.name_ ?_) | ((with_reducible show tDrop _ _ _ _); refine AU.drop_ ?_) | ((with_reducible show tRet _ _ _ _); refine AU.ret_ ?_) | ((with_reducible show tRetN _ _ _); refine AU.retN_ ?_) | ((with_reducible show tNext _ _ _); refine AU.next_ ?_) | ((with_reducible show tBreak _ _ _); refine AU.brk_ ?_) | ((with_reducible show tCont _ _ _); refine AU.cont_ ?_) | ((with_reducible show tIfS _ _ _ _ _ _); refine AU.ifs_ ?_) | ((with_reducible show tAug _ _ _ _ _ _); refine AU.aug_ rfl ?_) | ((with_reducible show Ends.nx (Ends.mk _ _ _ _) _ _); refine AU.nxm ?_) | ((with_reducible show Ends.rt (Ends.mk _ _ _ _) _ _); refine AU.rtm ?_) | ((with_reducible show Ends.bk (Ends.mk _ _ _ _) _ _); refine AU.bkm ?_) | ((with_reducible show Ends.ct (Ends.mk _ _ _ _) _ _); refine AU.ctm ?_) | ((with_reducible show tVar _ _ _ _); refine AU.var_ rfl ?_) | ((with_reducible show tC _ _ _ _); refine AU.c_ ?_) | ((with_reducible show tOp _ _ _ _ _ _); refine AU.op_ ?_) | ((with_reducible show tUn _ _ _ _ _); refine AU.un_ ?_) | ((with_reducible show rU _ _ _ _); refine AU.u_ ?_) | ((with_reducible show rI0 _ _ _ _ _); refine AU.i0_ ?_) | ((with_reducible show rI _ _ _ _ _ _); refine AU.i_ (by walk_at "ci") ?_) | ((with_reducible show rEq (V.int _) (V.int _) _ _); first | (with_reducible refine AU.eqr_ ?_) | refine AU.eqi_ ?_) | ((with_reducible show rEq (V.str _) (V.str _) _ _); (with_reducible refine AU.eqs_ ?_)) | ((with_reducible show rNe (V.int _) (V.int _) _ _); refine AU.nei_ ?_) | ((with_reducible show rEq _ _ _ _); refine AU.eq_ rfl ?_) | ((with_reducible show rNe _ _ _ _); refine AU.ne_ rfl ?_) | ((with_reducible show tTest _ _ _ _); refine AU.test_ ?_) | ((with_reducible show tB _ _ _ _); refine AU.b_ ?_) | ((with_reducible show tAnd _ _ _ _ _); refine AU.and_ ?_) | ((with_reducible show tOr _ _ _ _ _); refine AU.or_ ?_) | ((with_reducible show tNot _ _ _ _); refine AU.not_ ?_) | ((with_reducible show tAndV _ _ _ _ _); refine AU.andV_ ?_) | ((with_reducible show tOrV _ _ _ _ _); refine AU.orV_ ?_) | ((with_reducible show tNotV _ _ _ _); refine AU.notV_ ?_) | ((with_reducible show tIf _ _ _ _ _ _); refine AU.if_ ?_) | ((with_reducible show tNil _ _ _); refine AU.nil_ ?_) | ((with_reducible show tCons _ _ _ _ _); refine AU.cons_ ?_) | ((with_reducible show tLst _ _ _ _); refine AU.lst_ ?_) | ((with_reducible show tTup _ _ _ _); refine AU.tup_ ?_) | ((with_reducible show tCall _ _ _ _ _ _ _); refine AU.call_ ?_) | ((with_reducible show tCallS _ _ _ _ _ _); refine AU.callS_ ?_) | ((with_reducible show tCB _ _ _ _ _); refine AU.cb_ ?_) | ((with_reducible show tBM _ _ _ _ _ _ _ _); refine AU.bm_ ?_) | ((with_reducible show rIxL _ _ _ _ _); refine AU.ixL_ (by walk_at "sl") (by first | assumption | rfl) ?_) | ((with_reducible show rIxT _ _ _ _ _); refine AU.ixT_ (by walk_at "tl") (by first | assumption | rfl) ?_) | ((with_reducible show Evl.rLenS _ _ _ _); first | refine AU.lenL_ (by walk_at "sl") ?_ | refine AU.lenT_ (by walk_at "tl") ?_) | ((with_reducible show rAppend (V.ref _) [_] _ _); refine AU.app_ (by walk_at "hl") (by walk_at "ll") ?_) | ((with_reducible show tyV _ _ (V.ref _) _ ∧ _); refine AU.tyl_ (by walk_at "sl") ?_) | ((with_reducible show rCat (V.ref _) (V.ref _) _ _); refine AU.cat_ (by walk_at "hl") (by walk_at "hl") (by walk_at "le") ?_) | ((with_reducible show tFor _ _ _ _ _ _); refine AU.for_ ?_) | ((with_reducible show tLc _ _ _ _ _ _ _ _); refine AU.lc_ ?_) | ((with_reducible show iRng1 _ _ _ _); refine AU.rng1_ ?_) | ((with_reducible show iList _ _ _ _ _); refine AU.list_ ?_) | ((with_reducible show iTup _ _ _ _ _); refine AU.itup_ ?_) | ((with_reducible show (∃ i, [V.bl _] = [V.int i] ∧ _) ∨ _); refine AU.intb_ ?_) | ((with_reducible show (∃ i, [V.int _] = [V.int i] ∧ _) ∨ _); refine AU.inti_ ?_) | ((with_reducible show tYes _ _ _); refine AU.yes_ ?_) | ((with_reducible show ∃ p ys, [V.ref _] = [V.ref p] ∧ (SqL _ _ p ys ∨ SqT _ _ p ys) ∧ _); first | refine AU.listof_ (by walk_at "sl") ?_ | refine AU.listofT_ (by walk_at "tl") ?_) | ((with_reducible show ∃ p ys, [V.ref _] = [V.ref p] ∧ ((SqL _ _ p ys ∧ _) ∨ (SqT _ _ p ys ∧ _))); first | refine AU.tupleof_ (by walk_at "sl") ?_ | refine AU.tupleofT_ (by walk_at "tl") ?_) | ((with_reducible show V.non = V.non ∧ _); refine ⟨rfl, ?_⟩) | ((with_reducible show OT.rIsX _ _ _ _ [V.ref _, _] _ _); refine OT.isX_ (by walk_at "hh") (by first | exact .own _ | exact .ty _) (by assumption) ?_) | ((with_reducible show OT.tFA _ _ _ _ _ _ _ _ _); refine OT.fA_ ?_) | ((with_reducible show OT.tCallE _ _ _ _ _ _ _ _); refine OT.callE_ ?_) | ((with_reducible show rIsi _ [_, _] _ _); refine OT.isi_ (by first | exact .own _ | exact .ty _) (by walk_at "tyx") (by first | assumption | exact kit_ty OT.kq_int_int | exact kit_ty OT.kq_int_bool | exact kit_ty OT.kq_bool_bool | exact kit_ty OT.kq_bool_int | exact kit_ty OT.kq_str_str | exact kit_ty OT.kq_tuple_tuple | exact kit_ty OT.kq_list_list | exact kit_ty OT.kq_list_tuple | exact kit_ty OT.kq_tuple_list | exact kit_ty OT.kq_list_int | exact kit_ty OT.kq_tuple_int | exact kit_ty OT.kq_list_bool | exact kit_ty OT.kq_tuple_bool | exact kit_ty OT.kq_str_int | exact kit_ty OT.kq_int_str | exact kit_ty OT.kq_int_list | exact kit_ty OT.kq_int_tuple | exact kit_ty OT.kq_bool_list | exact kit_ty OT.kq_bool_tuple) ?_) | ((with_reducible show ∃ k, V.bl _ = V.bl k ∧ _); refine AU.bool_ ?_) | ((with_reducible show tSl _ _ _ _ _ _ _); refine AU.sl_ ?_) | ((with_reducible show tNoPart _ _ _); refine AU.npart_ ?_) | ((with_reducible show tPart _ _ _ _); refine AU.part_ ?_) | ((with_reducible show ∃ k, V.int _ = V.int k ∧ rSlL _ _ _ (some k) _ _); refine AU.int1_ ?_) | ((with_reducible show rSlL _ (V.ref _) _ _ _ _); refine AU.slL_ (by walk_at "sl") ?_) | ((with_reducible refine AU.trueT ?_)) | ((with_reducible refine AU.refNon ?_)) | ((with_reducible refine AU.nonNon ?_)) | ((with_reducible refine AU.trueN ?_)) | ((with_reducible refine AU.falseN ?_)) | ((with_reducible refine AU.falseF ?_)) | fail)
local macro_rules | `(tactic| walk_at "st") => `(tactic| repeat walk_at "st1")
structure ErrD (K : PySem.W.Frag) (B M O Z C E : Addr) (nm : String) (bM bO : Bool) : Prop where
  t : OtErr K E nm
  x : PySem.W.exmOne K (.ref E) (.ref B) = some true
  b : PySem.W.kitOne K (.ref E) (.ref B) = some true
  v : PySem.W.kitOne K (.ref E) (.type "ValueError") = some true
  m : PySem.W.kitOne K (.ref E) (.ref M) = some bM
  o : PySem.W.kitOne K (.ref E) (.ref O) = some bO
  z : PySem.W.kitOne K (.ref E) (.ref Z) = some false
  p : PySem.W.kitOne K (.ref E) (.ref C) = some false
theorem cnt100 : (([V.bl true, V.bl false, V.bl false].countP fun z => eqV z (V.bl true) : Nat) : Int) = 1 := by decide
theorem cnt010 : (([V.bl false, V.bl true, V.bl false].countP fun z => eqV z (V.bl true) : Nat) : Int) = 1 := by decide
/-- which refusal is due at a door -/
def DueD (door : Int) (n : Int) (ess : List (List Ent)) (st : Str) (i : Int) : Prop :=
  (door = 0 ∧ st = "OneDirectionOnly" ∧ ∃ es, ess[0]? = some es ∧ 1 < dimE es ∧ es.length ≤ 1000 ∧ i = (dimE es : Nat) ∧ 1 ≤ n ∧ n ≤ 1000) ∨
  (door = 1 ∧ (wL ess.length 0 ess).length ≤ 100000 ∧ (∀ es ∈ ess, Valid es) ∧ ((mixL ((dims ess).filter nz) = true ∧ st = "MixedDimensions" ∧ i = 0) ∨ (mixL ((dims ess).filter nz) = false ∧ st = "OneDirectionOnly" ∧ (∃ es ∈ ess, 1 < dimE es) ∧ ∀ es ∈ ess, 1 < dimE es → i = (dimE es : Nat)))) ∨
  (door = 2 ∧ mixL ((dims ess).filter nz) = true ∧ st = "MixedDimensions" ∧ i = 0)
section
variable {P : Program} {w : World} {K : PySem.W.Frag} {mg : Str → Option Value} {base : Heap}
def spRefusal : Sp := fun vs H Q _ => ∃ (door n : Int) (a : Addr) (us : List V) (ess : List (List Ent)) (st : Str) (i : Int), vs = [.int door, .ref a, .int n] ∧ H a = some (.lst us) ∧ RowsAt H us ess ∧ ess.length ≤ 1000 ∧ DueD door n ess st i ∧
  ∀ t H', Same H H' → H' t = some (.tup [.str st, .int i]) → Q (.ref t) H'
theorem c__law_refusal {f B M O Z C fC fU fL fE fI : Addr} {fd fdC fdU fdL fdE fdI : FuncData} (D : C8.Def K mg "_law_refusal" s__law_refusal f fd) (b : Binds K fd ["_law_door", "_law_rows_here", "_law_count"] []) (T : Bi mg) (gB : mg "TableError" = some (.ref B)) (gM : mg "MixedDimensions" = some (.ref M)) (gO : mg "OneDirectionOnly" = some (.ref O)) (gZ : mg "ZeroRow" = some (.ref Z)) (gC : mg "BadPlace" = some (.ref C))
    (xM : ErrD K B M O Z C M "MixedDimensions" true false) (xO : ErrD K B M O Z C O "OneDirectionOnly" false true) (hnd : PySem.W.findIn K (.ref O) "dimension" = some none)
    (DC : C8.Def K mg "comb" s_comb fC fdC) (bC : Binds K fdC ["row", "count"] []) (GC : FnOk P w K mg base (L2.CX P w) 6 fC fdC ["row", "count"] (spComb K O))
    (DU : C8.Def K mg "uncomb" s_uncomb fU fdU) (bU : Binds K fdU ["rows"] []) (GU : FnOk P w K mg base (L2.CX P w) 6 fU fdU ["rows"] (spUncomb K O M))
    (DL : C8.Def K mg "list_tables" s_list_tables fL fdL) (bL : Binds K fdL ["rows"] []) (GL : FnOk P w K mg base (L2.CX P w) 7 fL fdL ["rows"] (spLT K M))
    (DE : C8.Def K mg "_law_is_error" s__law_is_error fE fdE) (bE : Binds K fdE ["_law_e", "_law_word"] []) (GE : FnE P w K mg base 1 fE fdE ["_law_e", "_law_word"] (spErrE K B))
    (DI : C8.Def K mg "_law_is_integer" s__law_is_integer fI fdI) (bI : Binds K fdI ["_law_actual"] []) (GI : FnE P w K mg base 1 fI fdI ["_law_actual"] spIntE) : C8.Cal P w K mg base 8 "_law_refusal" spRefusal [] := by
  refine C8.cal0 D b .nil sc__law_refusal (fun vs H Q E h => ?_) (fun cdv A outer s H vs Q E hr h => ?_)
  · obtain ⟨door, n, a, us, ess, st, i, rfl, _⟩ := h
    rfl
  · obtain ⟨door, n, a, us, ess, st, i, rfl, ha, hR, hz, hd, q⟩ := h
    refine ⟨_, (pss_cons (ps_try_as (i := 3) (tb := fun W => _) (ts := fun a cls d => _) (Wout := fun _ _ _ _ => False) rfl rfl sc__law_refusal.nd rfl rfl ⟨rfl, by decide, Or.inl gB⟩ takes0 (fun W pn xe tk _ => (pss_one (ps_if (pt_cmpR op_eq (pv 0) pe_int (nomark _)) (pss_one (ps_expr (pe_callS (GC.mono (by decide : 6 ≤ 7)) hr rfl DC.mgf DC.kp bC (fun σ => passAt tk σ) (pa_cons (pe_ix (show IxR _ (rIxL K) from ix_list) (pv 1) pe_int (fun _ _ => rfl)) (pa_cons (pv 2) pa_nil))))) (pss_one (ps_if (pt_cmpR op_eq (pv 0) pe_int (nomark _)) (pss_one (ps_expr (pe_callS (GU.mono (by decide : 6 ≤ 7)) hr rfl DU.mgf DU.kp bU (fun σ => passAt tk σ) (pa_cons (pv 1) pa_nil)))) (pss_one (ps_expr (pe_callS GL hr rfl DL.mgf DL.kp bL (fun σ => passAt tk σ) (pa_cons (pv 1) pa_nil))))))))) (fun a oe cls d pn hz hf => by exact (pss_cons (ps_set (i := 4) sc__law_refusal.nd rfl (Or.inl rfl) (pe_lst (pa_cons (pe_callB (show CallR _ _ (rIsX K a cls d) from call_isA List.mem_cons_self hz hf) (by rfl) T.n_isinstance OT.b_isinstance (pa_cons (pv 3) (pa_cons (pe_glob (v := .ref M) (by rfl) gM rfl) pa_nil))) (pa_cons (pe_callB (show CallR _ _ (rIsX K a cls d) from call_isA List.mem_cons_self hz hf) (by rfl) T.n_isinstance OT.b_isinstance (pa_cons (pv 3) (pa_cons (pe_glob (v := .ref O) (by rfl) gO rfl) pa_nil))) (pa_cons (pe_callB (show CallR _ _ (rIsX K a cls d) from call_isA List.mem_cons_self hz hf) (by rfl) T.n_isinstance OT.b_isinstance (pa_cons (pv 3) (pa_cons (pe_glob (v := .ref Z) (by rfl) gZ rfl) pa_nil))) pa_nil)))))   (pss_cons (ps_if (PW.pt (pw_or (pt_cmpR op_ne (show PE _ _ (tBM K _ _ _ _) from pe_bm PySem.F.plainAttrs_list PySem.F.slot_list_count PySem.F.type_list_count (show MtR _ _ (OA.rCntV K) from OA.mt_lcountV) (pv 4) (pa_cons pe_bl pa_nil)) pe_int (nomark _)) (pw_or1 (pt_val (pe_callB (show CallR _ _ (rIsX K a cls d) from call_isA List.mem_cons_self hz hf) (by rfl) T.n_isinstance OT.b_isinstance (pa_cons (pv 3) (pa_cons (pe_glob (v := .ref C) (by rfl) gC rfl) pa_nil))))))) (pss_one (ps_ret (pe_tup pa_nil))) pss_nil)   (pss_cons (ps_if (PW.pt (pw_and (pt_val (pe_ix (show IxR _ (rIxL K) from ix_list) (pv 4) pe_int (fun _ _ => rfl))) (pw_and1 (pt_val (by exact pe_callA GE (roomH_m (hr.mono (by decide : 1 ≤ 7))) List.mem_cons_self hz hf (by rfl) DE.mgf DE.kp bE (pa_cons (pv 3) (pa_cons pe_str pa_nil))))))) (pss_one (ps_ret (pe_tup (pa_cons pe_str (pa_cons pe_int pa_nil))))) pss_nil)   (pss_one (ps_if (PW.pt (pw_and (pt_val (pe_ix (show IxR _ (rIxL K) from ix_list) (pv 4) pe_int (fun _ _ => rfl))) (pw_and (pt_val (by exact pe_callA GE (roomH_m (hr.mono (by decide : 1 ≤ 7))) List.mem_cons_self hz hf (by rfl) DE.mgf DE.kp bE (pa_cons (pv 3) (pa_cons pe_str pa_nil)))) (pw_and1 (pt_val (by exact pe_callA GI (roomH_m (hr.mono (by decide : 1 ≤ 7))) List.mem_cons_self hz hf (by rfl) DI.mgf DI.kp bI (pa_cons (show PE _ _ (tFA K a cls d _ _) from pe_fA List.mem_cons_self hz hf (pv 3)) pa_nil))))))) (pss_one (ps_ret (pe_tup (pa_cons pe_str (pa_cons (show PE _ _ (tFA K a cls d _ _) from pe_fA List.mem_cons_self hz hf (pv 3)) pa_nil))))) pss_nil)))))))
  (pss_one (ps_ret (pe_tup pa_nil)))), ?_⟩
    have hul := hR.len
    rcases hd with ⟨rfl, rfl, es, hes, h1, hes1, rfl, hn1, hn2⟩ | ⟨rfl, hw, hv, hd⟩ | ⟨rfl, hm, rfl, rfl⟩
    · have h0 := (List.getElem?_eq_some_iff.mp hes).1
      obtain ⟨r, xs, hr0, hr1, hE⟩ := hR.at_ h0
      obtain ⟨_, he⟩ := List.getElem?_eq_some_iff.mp hes
      rw [he] at hE
      have at0 : atI us 0 = some (.ref r) := AU.atN (j := 0) rfl hr0
      obtain ⟨m, rfl⟩ : ∃ m : Nat, n = (m : Int) := ⟨n.toNat, by omega⟩
      walk_at "st"
      refine ⟨r, xs, es, m, rfl, hr1, hE, by omega, by omega, hes1, fun _ dd H5 s5 hdd => ?_, .inr h1, fun hle => absurd hle (by omega)⟩
      refine AU.wAs_ xO.x fun ea nea => ?_
      have hh : HeldF K H5 O dd (.ref O) (some dd) (errO (dimE es)) := ⟨rfl, rfl, xO.t.oc, hdd⟩
      have lw : (errO (dimE es)).lookup ("word" : Str) = some (V.str "OneDirectionOnly") := rfl
      have km := xO.m; have ko := xO.o; have kz := xO.z; have kp := xO.p
      walk_at "st"
      refine ⟨by walk_at "sz", fun k6 nk6 => ?_⟩; generalize eH6 : upd _ k6 _ = H6; have s6 := AU.newS nk6 eH6; have hk6 := AU.newH eH6; clear eH6
      walk_at "st"
      refine ⟨k6, _, _, rfl, rfl, by walk_at "sl", rfl, rfl, ?_⟩
      rw [cnt010]
      walk_at "st"
      refine iteND (fun z => absurd rfl z) (fun _ => ?_)
      walk_at "st"
      refine ⟨O, dd, _, _, rfl, by walk_at "hh", xO.t.nw, lw, xO.b, xO.v, ?_⟩
      walk_at "st"
      have ld : (errO (dimE es)).lookup ("dimension" : Str) = some (V.int (dimE es : Nat)) := rfl
      refine fB_ (by walk_at "hh") hnd ld ?_
      walk_at "st"
      refine ⟨_, rfl, ?_⟩
      walk_at "st"
      refine fB_ (by walk_at "hh") hnd ld ?_
      walk_at "st"
      refine ⟨by walk_at "sz", fun t7 nt7 => ?_⟩; generalize eH7 : upd _ t7 _ = H7; have s7 := AU.newS nt7 eH7; have ht7 := AU.newH eH7; clear eH7
      exact q t7 H7 (s5.trans (s6.trans s7)) ht7
    · walk_at "st"
      refine iteD (fun z => absurd z (by decide)) (fun _ => ?_)
      walk_at "st"
      refine ⟨a, us, ess, rfl, AU.sqL ha, hR, hz, hw, hv, fun hm dd H5 s5 hdd => ?_, fun hm es he h1 dd H5 s5 hdd => ?_, fun hm hle => ?_⟩
      · obtain ⟨rfl, rfl⟩ : st = "MixedDimensions" ∧ i = 0 := by
          rcases hd with ⟨_, e1, e2⟩ | ⟨z, _⟩
          · exact ⟨e1, e2⟩
          · rw [hm] at z; cases z
        refine AU.wAs_ xM.x fun ea nea => ?_
        have hh : HeldF K H5 M dd (.ref M) (some dd) errM := ⟨rfl, rfl, xM.t.oc, hdd⟩
        have lw : errM.lookup ("word" : Str) = some (V.str "MixedDimensions") := rfl
        have km := xM.m; have ko := xM.o; have kz := xM.z; have kp := xM.p
        walk_at "st"
        refine ⟨by walk_at "sz", fun k6 nk6 => ?_⟩; generalize eH6 : upd _ k6 _ = H6; have s6 := AU.newS nk6 eH6; have hk6 := AU.newH eH6; clear eH6
        walk_at "st"
        refine ⟨k6, _, _, rfl, rfl, by walk_at "sl", rfl, rfl, ?_⟩
        rw [cnt100]
        walk_at "st"
        refine iteND (fun z => absurd rfl z) (fun _ => ?_)
        walk_at "st"
        refine ⟨M, dd, _, _, rfl, by walk_at "hh", xM.t.nw, lw, xM.b, xM.v, ?_⟩
        walk_at "st"
        refine ⟨by walk_at "sz", fun t7 nt7 => ?_⟩; generalize eH7 : upd _ t7 _ = H7; have s7 := AU.newS nt7 eH7; have ht7 := AU.newH eH7; clear eH7
        exact q t7 H7 (s5.trans (s6.trans s7)) ht7
      · obtain ⟨rfl, rfl⟩ : st = "OneDirectionOnly" ∧ i = (dimE es : Nat) := by
          rcases hd with ⟨z, _⟩ | ⟨_, e1, _, e2⟩
          · rw [hm] at z; cases z
          · exact ⟨e1, e2 es he h1⟩
        refine AU.wAs_ xO.x fun ea nea => ?_
        have hh : HeldF K H5 O dd (.ref O) (some dd) (errO (dimE es)) := ⟨rfl, rfl, xO.t.oc, hdd⟩
        have lw : (errO (dimE es)).lookup ("word" : Str) = some (V.str "OneDirectionOnly") := rfl
        have km := xO.m; have ko := xO.o; have kz := xO.z; have kp := xO.p
        walk_at "st"
        refine ⟨by walk_at "sz", fun k6 nk6 => ?_⟩; generalize eH6 : upd _ k6 _ = H6; have s6 := AU.newS nk6 eH6; have hk6 := AU.newH eH6; clear eH6
        walk_at "st"
        refine ⟨k6, _, _, rfl, rfl, by walk_at "sl", rfl, rfl, ?_⟩
        rw [cnt010]
        walk_at "st"
        refine iteND (fun z => absurd rfl z) (fun _ => ?_)
        walk_at "st"
        refine ⟨O, dd, _, _, rfl, by walk_at "hh", xO.t.nw, lw, xO.b, xO.v, ?_⟩
        walk_at "st"
        have ld : (errO (dimE es)).lookup ("dimension" : Str) = some (V.int (dimE es : Nat)) := rfl
        refine fB_ (by walk_at "hh") hnd ld ?_
        walk_at "st"
        refine ⟨_, rfl, ?_⟩
        walk_at "st"
        refine fB_ (by walk_at "hh") hnd ld ?_
        walk_at "st"
        refine ⟨by walk_at "sz", fun t7 nt7 => ?_⟩; generalize eH7 : upd _ t7 _ = H7; have s7 := AU.newS nt7 eH7; have ht7 := AU.newH eH7; clear eH7
        exact q t7 H7 (s5.trans (s6.trans s7)) ht7
      · rcases hd with ⟨z, _⟩ | ⟨_, _, ⟨es, he, h1⟩, _⟩
        · rw [hm] at z; cases z
        · exact absurd (hle es he) (by omega)
    · walk_at "st"
      refine iteD (fun z => absurd z (by decide)) (fun _ => ?_)
      walk_at "st"
      refine iteD (fun z => absurd z (by decide)) (fun _ => ?_)
      walk_at "st"
      refine ⟨a, us, ess, rfl, AU.sqL ha, hR, hz, fun _ dd H5 s5 hdd => ?_, fun z => by rw [hm] at z; cases z⟩
      refine AU.wAs_ xM.x fun ea nea => ?_
      have hh : HeldF K H5 M dd (.ref M) (some dd) errM := ⟨rfl, rfl, xM.t.oc, hdd⟩
      have lw : errM.lookup ("word" : Str) = some (V.str "MixedDimensions") := rfl
      have km := xM.m; have ko := xM.o; have kz := xM.z; have kp := xM.p
      walk_at "st"
      refine ⟨by walk_at "sz", fun k6 nk6 => ?_⟩; generalize eH6 : upd _ k6 _ = H6; have s6 := AU.newS nk6 eH6; have hk6 := AU.newH eH6; clear eH6
      walk_at "st"
      refine ⟨k6, _, _, rfl, rfl, by walk_at "sl", rfl, rfl, ?_⟩
      rw [cnt100]
      walk_at "st"
      refine iteND (fun z => absurd rfl z) (fun _ => ?_)
      walk_at "st"
      refine ⟨M, dd, _, _, rfl, by walk_at "hh", xM.t.nw, lw, xM.b, xM.v, ?_⟩
      walk_at "st"
      refine ⟨by walk_at "sz", fun t7 nt7 => ?_⟩; generalize eH7 : upd _ t7 _ = H7; have s7 := AU.newS nt7 eH7; have ht7 := AU.newH eH7; clear eH7
      exact q t7 H7 (s5.trans (s6.trans s7)) ht7
end
end OT

set_option Elab.async false
set_option linter.all false
set_option maxRecDepth 100000
set_option maxHeartbeats 4000000
namespace OT
open PySem PySem.Spec PyProof.Rows L2
local macro_rules | `(tactic| walk_at "sm") => `(tactic| first | assumption | ((with_reducible show Same _ (upd _ _ _)); (refine' AU.mutS ?s ?h; (case h => assumption); (case s => walk_at "sm"))) | fail)
local macro_rules | `(tactic| walk_at "le") => `(tactic| first | (refine Nat.le_of_lt (AU.line ?_); (try simp only [List.length_append, List.length_map, List.length_cons, List.length_nil, List.length_take, List.length_replicate]); omega) | fail)
local macro_rules | `(tactic| walk_at "ll") => `(tactic| first | (show 0 < sizeLine; decide) | (show 1 < sizeLine; decide) | (show 2 < sizeLine; decide) | (show 3 < sizeLine; decide) | (refine AU.line ?_; (try simp only [List.length_append, List.length_map, List.length_cons, List.length_nil, List.length_take, List.length_replicate]); omega) | fail)
local macro_rules | `(tactic| walk_at "hl") => `(tactic| first | assumption | exact upd_same | (refine' AU.climb ?s ?h; (case s => walk_at "sm"); (case h => walk_at "hl")) | fail)
local macro_rules | `(tactic| walk_at "sl") => `(tactic| first | assumption | (refine' AU.sqL ?h; (case h => walk_at "hl")) | (refine' AU.sqLS ?s ?h; (case s => walk_at "sm"); (case h => walk_at "sl")) | fail)
local macro_rules | `(tactic| walk_at "tl") => `(tactic| first | assumption | (refine' AU.sqT ?h; (case h => walk_at "hl")) | (refine' AU.sqTS ?s ?h; (case s => walk_at "sm"); (case h => walk_at "tl")) | fail)
local macro_rules | `(tactic| walk_at "sz") => `(tactic| first | (show 0 ≤ sizeLine; decide) | (show 1 ≤ sizeLine; decide) | (show 2 ≤ sizeLine; decide) | (show 3 ≤ sizeLine; decide) | (show 4 ≤ sizeLine; decide) | (show 5 ≤ sizeLine; decide) | (show 6 ≤ sizeLine; decide) | (show 7 ≤ sizeLine; decide) | (show 8 ≤ sizeLine; decide) | (show 9 ≤ sizeLine; decide) | (show 10 ≤ sizeLine; decide) | fail)
local macro_rules | `(tactic| walk_at "ci") => `(tactic| first | exact trivial | omega | (show (0 : Int) < _; omega) | (show CMul _ _; exact .inl ⟨by omega, by omega⟩) | (show CMul _ _; exact .inr ⟨by omega, by omega⟩) | (show CMul _ _; exact .inr (AU.b01 _)) | (show CMul _ _; exact .inl (AU.b01 _)) | (show CDiv _ _; exact ⟨by omega, by omega⟩) | (show _ ≠ (0 : Int); omega) | (show CDiv _ _; exact ⟨by decide, by decide⟩) | fail)
local macro_rules | `(tactic| walk_at "hh") => `(tactic| first | assumption | (refine' OT.HeldF.mono ?s ?h; (case s => walk_at "sm"); (case h => walk_at "hh")) | fail)
local macro_rules | `(tactic| walk_at "tyx") => `(tactic| first | exact .base (.int _) | exact .base (.bl _) | exact .base (.str _) | exact .base (.lst (by walk_at "hl")) | exact .base (.tup (by walk_at "hl")) | fail)
local macro_rules | `(tactic| walk_at "st1") => `(tactic| first | ((with_reducible show tSeq _ _ _ _ _); (try simp only [List.set_cons_zero, List.set_cons_succ]); refine AU.seq_ ?_) | ((with_reducible show tAsg _ _ _ _ _); refine AU.asg_ ?_) | ((with_reducible show gName _ _ _ _ _); refine AU.name_ ?_) | ((with_reducible show tDrop _ _ _ _); refine AU.drop_ ?_) | ((with_reducible show tRet _ _ _ _); refine AU.ret_ ?_) | ((with_reducible show tRetN _ _ _); refine AU.retN_ ?_) | ((with_reducible show tNext _ _ _); refine AU.next_ ?_) | ((with_reducible show tBreak _ _ _); refine AU.brk_ ?_) | ((with_reducible show tCont _ _ _); refine AU.cont_ ?_) | ((with_reducible show tIfS _ _ _ _ _ _); refine AU.ifs_ ?_) | ((with_reducible show tAug _ _ _ _ _ _); refine AU.aug_ rfl ?_) | ((with_reducible show Ends.nx (Ends.mk _ _ _ _) _ _); refine AU.nxm ?_) | ((with_reducible show Ends.rt (Ends.mk _ _ _ _) _ _); refine AU.rtm ?_) | ((with_reducible show Ends.bk (Ends.mk _ _ _ _) _ _); refine AU.bkm ?_) | ((with_reducible show Ends.ct (Ends.mk _ _ _ _) _ _); refine AU.ctm ?_) | ((with_reducible show tVar _ _ _ _); refine AU.var_ rfl ?_) | ((with_reducible show tC _ _ _ _); refine AU.c_ ?_) | ((with_reducible show tOp _ _ _ _ _ _); refine AU.op_ ?_) | ((with_reducible show tUn _ _ _ _ _); refine AU.un_ ?_) | ((with_reducible show rU _ _ _ _); refine AU.u_ ?_) | ((with_reducible show rI0 _ _ _ _ _); refine AU.i0_ ?_) | ((with_reducible show rI _ _ _ _ _ _); refine AU.i_ (by walk_at "ci") ?_) | ((with_reducible show rEq (V.int _) (V.int _) _ _); first | (with_reducible refine AU.eqr_ ?_) | refine AU.eqi_ ?_) | ((with_reducible show rEq (V.str _) (V.str _) _ _); (with_reducible refine AU.eqs_ ?_)) | ((with_reducible show rNe (V.int _) (V.int _) _ _); refine AU.nei_ ?_) | ((with_reducible show rEq _ _ _ _); refine AU.eq_ rfl ?_) | ((with_reducible show rNe _ _ _ _); refine AU.ne_ rfl ?_) | ((with_reducible show tTest _ _ _ _); refine AU.test_ ?_) | ((with_reducible show tB _ _ _ _); refine AU.b_ ?_) | ((with_reducible show tAnd _ _ _ _ _); refine AU.and_ ?_) | ((with_reducible show tOr _ _ _ _ _); refine AU.or_ ?_) | ((with_reducible show tNot _ _ _ _); refine AU.not_ ?_) | ((with_reducible show tAndV _ _ _ _ _); refine AU.andV_ ?_) | ((with_reducible show tOrV _ _ _ _ _); refine AU.orV_ ?_) | ((with_reducible show tNotV _ _ _ _); refine AU.notV_ ?_) | ((with_reducible show tIf _ _ _ _ _ _); refine AU.if_ ?_) | ((with_reducible show tNil _ _ _); refine AU.nil_ ?_) | ((with_reducible show tCons _ _ _ _ _); refine AU.cons_ ?_) | ((with_reducible show tLst _ _ _ _); refine AU.lst_ ?_) | ((with_reducible show tTup _ _ _ _); refine AU.tup_ ?_) | ((with_reducible show tCall _ _ _ _ _ _ _); refine AU.call_ ?_) | ((with_reducible show tCallS _ _ _ _ _ _); refine AU.callS_ ?_) | ((with_reducible show tCB _ _ _ _ _); refine AU.cb_ ?_) | ((with_reducible show tBM _ _ _ _ _ _ _ _); refine AU.bm_ ?_) | ((with_reducible show rIxL _ _ _ _ _); refine AU.ixL_ (by walk_at "sl") (by first | assumption | rfl) ?_) | ((with_reducible show rIxT _ _ _ _ _); refine AU.ixT_ (by walk_at "tl") (by first | assumption | rfl) ?_) | ((with_reducible show Evl.rLenS _ _ _ _); first | refine AU.lenL_ (by walk_at "sl") ?_ | refine AU.lenT_ (by walk_at "tl") ?_) | ((with_reducible show rAppend (V.ref _) [_] _ _); refine AU.app_ (by walk_at "hl") (by walk_at "ll") ?_) | ((with_reducible show tyV _ _ (V.ref _) _ ∧ _); refine AU.tyl_ (by walk_at "sl") ?_) | ((with_reducible show rCat (V.ref _) (V.ref _) _ _); refine AU.cat_ (by walk_at "hl") (by walk_at "hl") (by walk_at "le") ?_) | ((with_reducible show tFor _ _ _ _ _ _); refine AU.for_ ?_) | ((with_reducible show tLc _ _ _ _ _ _ _ _); refine AU.lc_ ?_) | ((with_reducible show iRng1 _ _ _ _); refine AU.rng1_ ?_) | ((with_reducible show iList _ _ _ _ _); refine AU.list_ ?_) | ((with_reducible show iTup _ _ _ _ _); refine AU.itup_ ?_) | ((with_reducible show (∃ i, [V.bl _] = [V.int i] ∧ _) ∨ _); refine AU.intb_ ?_) | ((with_reducible show (∃ i, [V.int _] = [V.int i] ∧ _) ∨ _); refine AU.inti_ ?_) | ((with_reducible show tYes _ _ _); refine AU.yes_ ?_) | ((with_reducible show ∃ p ys, [V.ref _] = [V.ref p] ∧ (SqL _ _ p ys ∨ SqT _ _ p ys) ∧ _); first | refine AU.listof_ (by walk_at "sl") ?_ | refine AU.listofT_ (by walk_at "tl") ?_) | ((with_reducible show ∃ p ys, [V.ref _] = [V.ref p] ∧ ((SqL _ _ p ys ∧ _) ∨ (SqT _ _ p ys ∧ _))); first | refine AU.tupleof_ (by walk_at "sl") ?_ | refine AU.tupleofT_ (by walk_at "tl") ?_) | ((with_reducible show V.non = V.non ∧ _); refine ⟨rfl, ?_⟩) | ((with_reducible show OT.rIsX _ _ _ _ [V.ref _, _] _ _); refine OT.isX_ (by walk_at "hh") (by first | exact .own _ | exact .ty _) (by assumption) ?_) | ((with_reducible show OT.tFA _ _ _ _ _ _ _ _ _); refine OT.fA_ ?_) | ((with_reducible show OT.tCallE _ _ _ _ _ _ _ _); refine OT.callE_ ?_) | ((with_reducible show rIsi _ [_, _] _ _); refine OT.isi_ (by first | exact .own _ | exact .ty _) (by walk_at "tyx") (by first | assumption | exact kit_ty OT.kq_int_int | exact kit_ty OT.kq_int_bool | exact kit_ty OT.kq_bool_bool | exact kit_ty OT.kq_bool_int | exact kit_ty OT.kq_str_str | exact kit_ty OT.kq_tuple_tuple | exact kit_ty OT.kq_list_list | exact kit_ty OT.kq_list_tuple | exact kit_ty OT.kq_tuple_list | exact kit_ty OT.kq_list_int | exact kit_ty OT.kq_tuple_int | exact kit_ty OT.kq_list_bool | exact kit_ty OT.kq_tuple_bool | exact kit_ty OT.kq_str_int | exact kit_ty OT.kq_int_str | exact kit_ty OT.kq_int_list | exact kit_ty OT.kq_int_tuple | exact kit_ty OT.kq_bool_list | exact kit_ty OT.kq_bool_tuple) ?_) | ((with_reducible show ∃ k, V.bl _ = V.bl k ∧ _); refine AU.bool_ ?_) | ((with_reducible show tSl _ _ _ _ _ _ _); refine AU.sl_ ?_) | ((with_reducible show tNoPart _ _ _); refine AU.npart_ ?_) | ((with_reducible show tPart _ _ _ _); refine AU.part_ ?_) | ((with_reducible show ∃ k, V.int _ = V.int k ∧ rSlL _ _ _ (some k) _ _); refine AU.int1_ ?_) | ((with_reducible show rSlL _ (V.ref _) _ _ _ _); refine AU.slL_ (by walk_at "sl") ?_) | ((with_reducible refine AU.trueT ?_)) | ((with_reducible refine AU.refNon ?_)) | ((with_reducible refine AU.nonNon ?_)) | ((with_reducible refine AU.trueN ?_)) | ((with_reducible refine AU.falseN ?_)) | ((with_reducible refine AU.falseF ?_)) | fail)
local macro_rules | `(tactic| walk_at "st") => `(tactic| repeat walk_at "st1")
theorem DueD.ok {door n i : Int} {ess : List (List Ent)} {st : Str} (h : DueD door n ess st i) : PyData.strOk st = true := by
  have e1 : PyData.strOk "OneDirectionOnly" = true := by decide +kernel
  have e2 : PyData.strOk "MixedDimensions" = true := by decide +kernel
  rcases h with ⟨_, rfl, _⟩ | ⟨_, _, _, ⟨_, rfl, _⟩ | ⟨_, rfl, _⟩⟩ | ⟨_, _, rfl, _⟩
  · exact e1
  · exact e2
  · exact e1
  · exact e2
theorem shaped_si {st : Str} (h : PyData.strOk st = true) (i : Int) : SeqAt.shaped (.tuple [.str st, .int i]) = true := by
  unfold SeqAt.shaped
  have h1 : (PyData.tuple [.str st, .int i]).canLay0 = true := by simp [PyData.canLay0, PyData.canLayAll0, h]
  rw [h1, Bool.true_and]
  refine decide_eq_true ?_
  simp only [PyData.depth, PyData.depthAll]
  omega
theorem box2 {k : Nat} (h : k = 2 ∨ k = 3) : BoxOk 2 (List.replicate k 2) ∧ pr (List.replicate k 2) ≤ 8 := by
  rcases h with rfl | rfl
  · refine ⟨⟨by decide, fun n hn => by rw [List.eq_of_mem_replicate hn]; exact Nat.le_refl _, fun i => ?_⟩, by decide⟩
    match i with
    | 0 => decide
    | 1 => decide
    | i + 2 =>
      rw [List.take_of_length_le (by rw [List.length_replicate]; omega)]
      decide
  · refine ⟨⟨by decide, fun n hn => by rw [List.eq_of_mem_replicate hn]; exact Nat.le_refl _, fun i => ?_⟩, by decide⟩
    match i with
    | 0 => decide
    | 1 => decide
    | 2 => decide
    | i + 3 =>
      rw [List.take_of_length_le (by rw [List.length_replicate]; omega)]
      decide
section
variable {P : Program} {w : World} {K : PySem.W.Frag} {mg : Str → Option Value} {base : Heap}
def spZero : Sp := fun vs H Q _ => ∃ n : Nat, vs = [.int (n : Int)] ∧ n ≤ 3 ∧ ∀ p H', Same H H' → H' p = some (.tup ((zeros n).map V.int)) → Q (.ref p) H'
theorem c__law_zero {f : Addr} {fd : FuncData} (D : C8.Def K mg "_law_zero" s__law_zero f fd) (b : Binds K fd ["_law_count"] []) (T : Bi mg) : C8.Cal P w K mg base 1 "_law_zero" spZero [] := by
  refine C8.cal0 D b .nil sc__law_zero (fun vs H Q E h => ?_) (fun cdv A outer s H vs Q E hr h => ?_)
  · obtain ⟨n, rfl, _⟩ := h
    rfl
  · obtain ⟨n, rfl, h3, q⟩ := h
    refine ⟨_, (pss_one (ps_ret (pe_callTy call_tuple_of (by rfl) T.n_tuple OT.b_tuple (pa_cons (pe_lc (own := [("_law_k", 1)]) (g := (gName 1)) (tt := tYes) rfl sc__law_zero.nd (pi_range1 rfl T.n_range (pa_cons (pv 0) pa_nil)) (blkOk_by (N := ["_law_count", "_law_k"]) (sc := C8.fnScope s__law_zero) (by decide +kernel)) (fun _ _ _ _ _ => (pg_name (i := 1) sc__law_zero.nd rfl (Or.inl rfl))) (fun _ _ _ _ _ => pts_nil) (fun _ _ _ _ _ => pe_int)) pa_nil)))), ?_⟩
    refine ⟨_, rfl, _, rfl, by omega, by omega, fun p np => ?_⟩
    rw [Int.toNat_natCast]
    refine lc_range (lo := 0) (n := n) (fun i H3 => Same H H3 ∧ H3 p = some (.lst (List.replicate i (V.int 0)))) ⟨same_upd np, upd_same⟩ ?_ ?_
    · rintro i H3 hi ⟨sm, hD⟩
      refine ⟨rfl, tYes_of ?_⟩
      refine ⟨_, hD, ?_, same_mut sm np, ?_⟩
      · rw [List.length_replicate]
        exact small1000 (by omega)
      · rw [upd_same, List.replicate_succ']
    · rintro H3 ⟨sm, hD⟩
      refine ⟨p, _, rfl, .inl ⟨.inl (.inl hD), fun l nl => ?_⟩⟩
      refine q l _ (sm.trans (same_upd nl)) ?_
      rw [upd_same]
      unfold zeros
      rw [List.map_replicate]

/-- a row in more than one direction -/
structure WRow (k : Nat) (es : List Ent) : Prop where
  v : Valid es
  d : DimN k es
  z : es.length ≤ 8
  ne : es ≠ []
def spWide : Sp := fun vs H Q _ => ∃ (c : Int) (k : Nat), vs = [.int c, .int (k : Int)] ∧ (k = 2 ∨ k = 3) ∧ ∀ p ws r H', Same H H' → H' p = some (.lst ws) → Ents H' ws r → WRow k r → Q (.ref p) H'
theorem c__law_wide {f : Addr} {fd : FuncData} (D : C8.Def K mg "_law_wide" s__law_wide f fd) (b : Binds K fd ["_law_cell_here", "_law_size"] []) (T : Bi mg) (c__law_drawn : C8.Cal P w K mg base 3 "_law_drawn" (spDrawn K) []) (c__law_zero : C8.Cal P w K mg base 1 "_law_zero" spZero []) : C8.Cal P w K mg base 4 "_law_wide" spWide [] := by
  refine C8.cal0 D b .nil sc__law_wide (fun vs H Q E h => ?_) (fun cdv A outer s H vs Q E hr h => ?_)
  · obtain ⟨c, k, rfl, _⟩ := h
    rfl
  · obtain ⟨c, k, rfl, hk, q⟩ := h
    refine ⟨_, (pss_cons (ps_set (i := 2) sc__law_wide.nd rfl (Or.inl rfl) (C8.pe_c c__law_drawn hr (by decide) (by rfl) (pa_cons (pv 0) (pa_cons (pe_lc (own := [("_law_k", 3)]) (g := (gName 3)) (tt := tYes) rfl sc__law_wide.nd (pi_range1 rfl T.n_range (pa_cons (pv 1) pa_nil)) (blkOk_by (N := ["_law_cell_here", "_law_size", "_law_row_here", "_law_k"]) (sc := C8.fnScope s__law_wide) (by decide +kernel)) (fun _ _ _ _ _ => (pg_name (i := 3) sc__law_wide.nd rfl (Or.inl rfl))) (fun _ _ _ _ _ => pts_nil) (fun _ _ _ _ _ => pe_int)) (pa_cons pe_int (pa_cons pe_int pa_nil))))))
  (pss_cons (ps_if (pt_cmpR op_eq (pe_callB call_len_seq (by rfl) T.n_len OT.b_len (pa_cons (pv 2) pa_nil)) pe_int (nomark _)) (pss_one (ps_ret (pe_lst (pa_cons (pe_tup (pa_cons (C8.pe_c c__law_zero hr (by decide) (by rfl) (pa_cons (pv 1) pa_nil)) (pa_cons pe_int pa_nil))) pa_nil)))) pss_nil)
  (pss_one (ps_ret (pv 2))))), ?_⟩
    obtain ⟨ok, hpr⟩ := box2 hk
    walk_at "st"
    refine ⟨_, rfl, by omega, by omega, fun D1 nD1 => ?_⟩
    rw [Int.toNat_natCast]
    refine lc_range (lo := 0) (n := k) (fun i G => Same H G ∧ G D1 = some (.lst (List.replicate i (V.int 2)))) ⟨same_upd nD1, upd_same⟩ ?_ ?_
    · rintro i G hi ⟨sm, hD⟩
      refine ⟨rfl, tYes_of ?_⟩
      refine ⟨_, hD, by rw [List.length_replicate]; exact small1000 (by omega), same_mut sm nD1, ?_⟩
      rw [upd_same, List.replicate_succ']
    rintro H1 ⟨s1, hD⟩
    walk_at "st"
    refine ⟨c, D1, List.replicate k 2, 2, 3, 2, rfl, AU.sqL (by rw [hD, List.map_replicate]; rfl), ok, by decide, by rw [List.length_replicate]; omega, by omega, by decide, by decide, fun p ws r H2 s2 np hp hE hdr _ => ?_⟩
    have hwl := hE.len
    have hdn := hdr.n
    rw [List.length_replicate] at hdn
    walk_at "st"
    refine iteD (fun z => ?_) (fun z => ?_)
    · walk_at "st"
      refine ⟨k, rfl, by omega, fun t3 H3 s3 ht3 => ?_⟩
      walk_at "st"
      refine ⟨by walk_at "sz", fun t4 nt4 => ?_⟩; generalize eH4 : upd _ t4 _ = H4; have s4 := AU.newS nt4 eH4; have ht4 := AU.newH eH4; clear eH4
      walk_at "st"
      refine ⟨by walk_at "sz", fun l5 nl5 => ?_⟩; generalize eH5 : upd _ l5 _ = H5; have s5 := AU.newS nl5 eH5; have hl5 := AU.newH eH5; clear eH5
      refine q l5 _ [(zeros k, 1)] H5 (s1.trans (s2.trans (s3.trans (s4.trans s5)))) hl5 (.cons ⟨t4, t3, rfl, s5 _ _ ht4, s5 _ _ (s4 _ _ ht3)⟩ .nil) ⟨⟨List.pairwise_singleton _ _, fun e he => ?_⟩, fun e he => ?_, by simp, fun z => by cases z⟩
      · rw [List.mem_singleton.mp he]
        intro z
        cases z
      · rw [List.mem_singleton.mp he]
        exact List.length_replicate
    · walk_at "st"
      refine q p ws r H2 (s1.trans s2) hp hE ⟨hdr.v, hdn, by have := hdr.m; omega, fun y => z ?_⟩
      rw [hwl, y]
      rfl
def spRefused : Sp := fun vs H Q _ => ∃ (door n : Int) (a t : Addr) (us : List V) (ess : List (List Ent)) (st : Str) (i : Int), vs = [.int door, .ref a, .int n, .ref t] ∧ H a = some (.lst us) ∧ RowsAt H us ess ∧ H t = some (.tup [.str st, .int i]) ∧ ess.length ≤ 1000 ∧ DueD door n ess st i ∧
  (∀ es ∈ ess, (∃ k, RowN k es) ∧ es.length ≤ 100000) ∧ ∀ H', Same H H' → Q (.bl true) H'
theorem c__law_refused {f : Addr} {fd : FuncData} (D : C8.Def K mg "_law_refused" s__law_refused f fd) (b : Binds K fd ["_law_door", "_law_rows_here", "_law_count", "_law_due"] []) (T : Bi mg) (c__law_copies : C8.Cal P w K mg base 1 "_law_copies" spCopies []) (c__law_refusal : C8.Cal P w K mg base 8 "_law_refusal" spRefusal []) (c__law_same_list : C8.Cal P w K mg base 5 "_law_same_list" spSameL []) : C8.Cal P w K mg base 9 "_law_refused" spRefused [] := by
  refine C8.cal0 D b .nil sc__law_refused (fun vs H Q E h => ?_) (fun cdv A outer s H vs Q E hr h => ?_)
  · obtain ⟨door, n, a, t, us, ess, st, i, rfl, _⟩ := h
    rfl
  · obtain ⟨door, n, a, t, us, ess, st, i, rfl, ha, hR, ht, hz, hd, hg, q⟩ := h
    refine ⟨_, (pss_cons (ps_set (i := 4) sc__law_refused.nd rfl (Or.inl rfl) (C8.pe_c c__law_copies hr (by decide) (by rfl) (pa_cons (pv 1) pa_nil)))
  (pss_cons (ps_for PassesOwn.never rfl (pi_range1 rfl T.n_range (pa_cons pe_int pa_nil)) (pg_name (i := 5) sc__law_refused.nd rfl (Or.inl rfl)) (pss_one (ps_if (PW.pt (pw_or (pt_cmpR (op_neD hr.units) (C8.pe_c c__law_refusal hr (by decide) (by rfl) (pa_cons (pv 0) (pa_cons (pv 4) (pa_cons (pv 2) pa_nil)))) (pv 3) (nomark _)) (pw_or1 (pt_not (pt_val (C8.pe_c c__law_same_list hr (by decide) (by rfl) (pa_cons (pv 4) (pa_cons (pv 1) pa_nil)))))))) (pss_one (ps_ret pe_bl)) pss_nil)))
  (pss_one (ps_ret pe_bl)))), ?_⟩
    walk_at "st"
    refine ⟨a, us, ess, rfl, ha, hR, hz, fun g as H1 hF => ?_⟩
    have s1 := hF.s
    have hg1 := hF.hp
    have hG1 := hF.at_rows
    have ha1 := s1 _ _ ha
    have hR1 := hR.mono s1
    have ht1 := s1 _ _ ht
    walk_at "st"
    refine ⟨2, rfl, by decide, by decide, ?_⟩
    refine for_range (lo := 0) (n := 2) (fun i σ H2 => ∃ y5, σ = [some (.int door), some (.ref a), some (.int n), some (.ref t), some (.ref g), y5] ∧ Same H1 H2) ⟨none, rfl, Same.refl _⟩ ?_ ?_
    · rintro k σ H2 hi ⟨y5, rfl, s2⟩
      walk_at "st"
      refine ⟨door, n, g, _, ess, st, i, rfl, s2 _ _ hg1, hG1.mono s2, hz, hd, fun t3 H3 s3 ht3 => ?_⟩
      have s23 := s2.trans s3
      have ht23 := s23 _ _ ht1
      walk_at "st"
      refine AU.neD_ (d := .tuple [.str st, .int i]) (e := .tuple [.str st, .int i]) (.tup (AU.sqT ht3) (.cons (.str _) (.cons (.int _) .nil))) (.tup (AU.sqT ht23) (.cons (.str _) (.cons (.int _) .nil))) (shaped_si hd.ok i) (shaped_si hd.ok i) ?_
      rw [eqvD (shaped_si hd.ok i)]
      walk_at "st"
      refine ⟨g, a, _, us, ess, rfl, s23 _ _ hg1, hG1.mono s23, s23 _ _ ha1, hR1.mono s23, hz, hg, ?_⟩
      walk_at "st"
      exact ⟨_, rfl, s23⟩
    · rintro σ H2 ⟨y5, rfl, s2⟩
      walk_at "st"
      exact q _ (s1.trans s2)
end
end OT

set_option Elab.async false
set_option linter.all false
set_option maxRecDepth 100000
set_option maxHeartbeats 4000000
namespace OT
open PySem PySem.Spec PyProof.Rows L2
theorem cut_take2 (xs : List V) (k : Nat) : cutV xs none (some (k : Int)) = xs.take k := by
  unfold cutV
  rw [HT.sIx_none, HT.sIx_nat, List.drop_zero, Nat.sub_zero]
  by_cases h : k ≤ xs.length
  · rw [Nat.min_eq_left h]
  · rw [Nat.min_eq_right (by omega), List.take_of_length_le (Nat.le_refl _), List.take_of_length_le (by omega)]
theorem cut_drop2 (xs : List V) (k : Nat) : cutV xs (some (k : Int)) none = xs.drop k := by
  unfold cutV
  rw [HT.sIx_none, HT.sIx_nat]
  by_cases h : k ≤ xs.length
  · rw [Nat.min_eq_left h, List.take_of_length_le (by rw [List.length_drop]; exact Nat.le_refl _)]
  · rw [Nat.min_eq_right (by omega), List.drop_eq_nil_of_le (by omega), List.drop_eq_nil_of_le (by omega), List.take_nil]
theorem cut_mid2 (xs : List V) (a k : Nat) : cutV xs (some (a : Int)) (some ((a + k : Nat) : Int)) = (xs.drop a).take k := by
  unfold cutV
  rw [HT.sIx_nat, HT.sIx_nat]
  by_cases h : a ≤ xs.length
  · rw [Nat.min_eq_left h]
    by_cases h2 : a + k ≤ xs.length
    · rw [Nat.min_eq_left h2, Nat.add_sub_cancel_left]
    · rw [Nat.min_eq_right (by omega), List.take_of_length_le (by rw [List.length_drop]; omega), List.take_of_length_le (by rw [List.length_drop]; omega)]
  · rw [Nat.min_eq_right (by omega), List.drop_eq_nil_of_le (by omega), List.drop_eq_nil_of_le (by omega), List.take_nil, List.take_nil]
theorem RowsAt.app2 {H : Hp} {us vs : List V} {ess fss : List (List Ent)} (h : RowsAt H us ess) (k : RowsAt H vs fss) : RowsAt H (us ++ vs) (ess ++ fss) := by
  induction h with
  | nil => exact k
  | cons h1 h2 _ ih => exact .cons h1 h2 ih
theorem RowsAt.take2 {H : Hp} {us : List V} {ess : List (List Ent)} (h : RowsAt H us ess) : ∀ k, RowsAt H (us.take k) (ess.take k) := by
  induction h with
  | nil => intro k; rw [List.take_nil, List.take_nil]; exact .nil
  | cons h1 h2 _ ih =>
    intro k
    match k with
    | 0 => exact .nil
    | k + 1 => exact .cons h1 h2 (ih k)
theorem RowsAt.drop2 {H : Hp} {us : List V} {ess : List (List Ent)} (h : RowsAt H us ess) : ∀ k, RowsAt H (us.drop k) (ess.drop k) := by
  induction h with
  | nil => intro k; rw [List.drop_nil, List.drop_nil]; exact .nil
  | cons h1 h2 h3 ih =>
    intro k
    match k with
    | 0 => exact .cons h1 h2 h3
    | k + 1 => exact ih k
theorem RowsAt.set2 {H : Hp} {us : List V} {ess : List (List Ent)} {a : Addr} {xs : List V} {es : List Ent} (h : RowsAt H us ess) (ha : H a = some (.lst xs)) (hE : Ents H xs es) : ∀ k, RowsAt H (us.set k (.ref a)) (ess.set k es) := by
  induction h with
  | nil => intro k; exact .nil
  | cons h1 h2 h3 ih =>
    intro k
    match k with
    | 0 => exact .cons ha hE h3
    | k + 1 => exact .cons h1 h2 (ih k)
theorem RowsAt.upd2 {H : Hp} {us : List V} {ess : List (List Ent)} {D : Addr} {l l' : List V} (h : RowsAt H us ess) (hD : H D = some (.lst l)) (hn : V.ref D ∉ us) : RowsAt (upd H D (.lst l')) us ess := by
  induction h with
  | nil => exact .nil
  | cons h1 h2 h3 ih =>
    rename_i a xs es us' ess'
    refine .cons ?_ (h2.updL hD) (ih fun z => hn (List.mem_cons_of_mem _ z))
    rw [upd_ne (fun z => hn (by rw [← z]; exact List.mem_cons_self))]
    exact h1
theorem mix_two {ess : List (List Ent)} {E1 E2 : List Ent} (h1 : E1 ∈ ess) (h2 : E2 ∈ ess) (n1 : dimE E1 ≠ 0) (n2 : dimE E2 ≠ 0) (ne : dimE E1 ≠ dimE E2) : mixL ((dims ess).filter nz) = true := by
  have m : ∀ {F : List Ent}, F ∈ ess → dimE F ≠ 0 → ((dimE F : Nat) : Int) ∈ (dims ess).filter nz := fun {F} hF hn => List.mem_filter.mpr ⟨List.mem_map.mpr ⟨F, hF, rfl⟩, decide_eq_true (by omega)⟩
  have m1 := m h1 n1
  have m2 := m h2 n2
  generalize (dims ess).filter nz = l at m1 m2
  unfold mixL
  rw [List.any_eq_true]
  by_cases c : ((dimE E1 : Nat) : Int) = l.headD 0
  · refine ⟨_, List.mem_map.mpr ⟨_, m2, rfl⟩, ?_⟩
    rw [decide_eq_false (fun z => ne (by have := V.int.inj z; omega))]
    rfl
  · refine ⟨_, List.mem_map.mpr ⟨_, m1, rfl⟩, ?_⟩
    rw [decide_eq_false (fun z => c (V.int.inj z))]
    rfl
theorem mix_const {k : Nat} {ess : List (List Ent)} (h : ∀ es ∈ ess, dimE es = 0 ∨ dimE es = k) : mixL ((dims ess).filter nz) = false := by
  have all : ∀ m ∈ (dims ess).filter nz, m = (k : Int) := fun m hm => by
    obtain ⟨h1, h2⟩ := List.mem_filter.mp hm
    obtain ⟨es, he, rfl⟩ := List.mem_map.mp h1
    have := h es he
    have : ((dimE es : Nat) : Int) ≠ 0 := of_decide_eq_true h2
    omega
  generalize (dims ess).filter nz = l at all
  unfold mixL
  cases hc : (l.map fun m => !decide (V.int m = V.int (l.headD 0))).any id with
  | false => rfl
  | true =>
    obtain ⟨x, hx, hx2⟩ := List.any_eq_true.mp hc
    obtain ⟨m, hm, rfl⟩ := List.mem_map.mp hx
    have h1 := all m hm
    have h2 : l.headD 0 = (k : Int) := by
      cases l with
      | nil => cases hm
      | cons y r => exact all y List.mem_cons_self
    rw [h1, h2] at hx2
    simp at hx2
theorem wL_len {m n : Nat} : ∀ {ess : List (List Ent)} {i : Nat}, (∀ es ∈ ess, es.length ≤ m) → (wL n i ess).length ≤ ess.length * m
  | [], _, _ => Nat.zero_le _
  | f :: r, i, h => by
    have ih := wL_len (n := n) (i := i + 1) (ess := r) fun es he => h es (List.mem_cons_of_mem _ he)
    have hf := h f List.mem_cons_self
    show (weave n i f ++ wL n (i + 1) r).length ≤ (r.length + 1) * m
    rw [List.length_append, Nat.succ_mul, show (weave n i f).length = f.length from List.length_map _]
    omega
theorem WRow.dim {k : Nat} {es : List Ent} (h : WRow k es) : dimE es = k := dimE_eq h.d h.ne
theorem WRow.row {k : Nat} {es : List Ent} (h : WRow k es) (h1 : 1 ≤ k) (h3 : k ≤ 3) : (∃ m, RowN m es) ∧ es.length ≤ 100000 := ⟨⟨k, h.v, h1, h3, h.d⟩, by have := h.z; omega⟩
theorem nil_row : (∃ m, RowN m []) ∧ ([] : List Ent).length ≤ 100000 := ⟨⟨1, ⟨.nil, fun e h => by cases h⟩, by decide, by decide, fun e h => by cases h⟩, Nat.zero_le _⟩
theorem nil_valid : Valid [] := ⟨.nil, fun e h => by cases h⟩
theorem rep_nil {n : Nat} {es : List Ent} (h : es ∈ List.replicate n ([] : List Ent)) : es = [] := List.eq_of_mem_replicate h
/-- two rows of different dimensions among zero rows -/
theorem due_two {door : Int} (hd : door = 1 ∨ door = 2) {n k1 k2 : Nat} {E1 E2 : List Ent} {A B : List (List Ent)} (m : Nat) (hm : m ≤ A.length) (hm4 : A.length ≤ m + 4) (hA : ∀ es ∈ A, es = []) (hB : ∀ es ∈ B, es = []) (w1 : WRow k1 E1) (w2 : WRow k2 E2) (h1 : 1 ≤ k1) (h13 : k1 ≤ 3) (h2 : 1 ≤ k2) (h23 : k2 ≤ 3) (ne : k1 ≠ k2) :
    DueD door 0 (((A ++ [E1, E2] ++ B).drop m).take 6) "MixedDimensions" 0 ∧ (∀ es ∈ ((A ++ [E1, E2] ++ B).drop m).take 6, (∃ m, RowN m es) ∧ es.length ≤ 100000) := by
  have mem : ∀ es ∈ ((A ++ [E1, E2] ++ B).drop m).take 6, es = [] ∨ es = E1 ∨ es = E2 := fun es h => by
    have h := List.mem_of_mem_drop (List.mem_of_mem_take h)
    rcases List.mem_append.mp h with h | h
    · rcases List.mem_append.mp h with h | h
      · exact .inl (hA es h)
      · rcases List.mem_cons.mp h with h | h
        · exact .inr (.inl h)
        · exact .inr (.inr (List.mem_singleton.mp h))
    · exact .inl (hB es h)
  have e : ((A ++ [E1, E2] ++ B).drop m).take 6 = (A.drop m ++ ([E1, E2] ++ B)).take 6 := by rw [List.append_assoc, List.drop_append_of_le_length hm]
  have hl : (A.drop m).length ≤ 4 := by rw [List.length_drop]; omega
  have i1 : E1 ∈ ((A ++ [E1, E2] ++ B).drop m).take 6 := by
    rw [e]
    refine List.mem_of_getElem? (i := (A.drop m).length) ?_
    rw [List.getElem?_take_of_lt (by omega), List.getElem?_append_right (Nat.le_refl _), Nat.sub_self]
    rfl
  have i2 : E2 ∈ ((A ++ [E1, E2] ++ B).drop m).take 6 := by
    rw [e]
    refine List.mem_of_getElem? (i := (A.drop m).length + 1) ?_
    rw [List.getElem?_take_of_lt (by omega), List.getElem?_append_right (by omega), Nat.add_sub_cancel_left]
    rfl
  have mix := mix_two i1 i2 (by rw [w1.dim]; omega) (by rw [w2.dim]; omega) (by rw [w1.dim, w2.dim]; exact ne)
  refine ⟨?_, fun es he => ?_⟩
  · rcases hd with rfl | rfl
    · refine .inr (.inl ⟨rfl, ?_, fun es he => ?_, .inl ⟨mix, rfl, rfl⟩⟩)
      · refine Nat.le_trans (wL_len (m := 8) fun es he => ?_) (Nat.le_trans (Nat.mul_le_mul_right 8 (show _ ≤ 6 from List.length_take_le _ _)) (by decide))
        rcases mem es he with rfl | rfl | rfl
        · decide
        · exact w1.z
        · exact w2.z
      · rcases mem es he with rfl | rfl | rfl
        · exact nil_valid
        · exact w1.v
        · exact w2.v
    · exact .inr (.inr ⟨rfl, mix, rfl, rfl⟩)
  · rcases mem es he with rfl | rfl | rfl
    · exact nil_row
    · exact w1.row h1 h13
    · exact w2.row h2 h23
/-- one row in more than one direction among zero rows -/
theorem due_one {n at_ k : Nat} {E : List Ent} (w : WRow k E) (hk : 2 ≤ k) (hk3 : k ≤ 3) (ha : at_ < n) (hn : n ≤ 8) : DueD 1 0 ((List.replicate n []).set at_ E) "OneDirectionOnly" (k : Int) ∧ ∀ es ∈ (List.replicate n []).set at_ E, (∃ m, RowN m es) ∧ es.length ≤ 100000 := by
  have mem : ∀ es ∈ (List.replicate n []).set at_ E, es = [] ∨ es = E := fun es h => (List.mem_or_eq_of_mem_set h).imp rep_nil id
  have dk := w.dim
  refine ⟨.inr (.inl ⟨rfl, ?_, fun es he => ?_, .inr ⟨mix_const (k := k) fun es he => ?_, rfl, ⟨E, List.mem_of_getElem? (i := at_) (by rw [List.getElem?_set_self (by rw [List.length_replicate]; exact ha)]), by omega⟩, fun es he h => ?_⟩⟩), fun es he => ?_⟩
  · refine Nat.le_trans (wL_len (m := 8) fun es he => ?_) (Nat.le_trans (Nat.mul_le_mul_right 8 (show _ ≤ 8 by rw [List.length_set, List.length_replicate]; exact hn)) (by decide))
    rcases mem es he with rfl | rfl
    · decide
    · exact w.z
  · rcases mem es he with rfl | rfl
    · exact nil_valid
    · exact w.v
  · rcases mem es he with rfl | rfl
    · exact .inl rfl
    · exact .inr dk
  · rcases mem es he with rfl | rfl
    · exact absurd h (by decide)
    · rw [dk]
  · rcases mem es he with rfl | rfl
    · exact nil_row
    · exact w.row (by omega) hk3
end OT

set_option Elab.async false
set_option linter.all false
set_option maxRecDepth 100000
set_option maxHeartbeats 4000000
namespace OT
open PySem PySem.Spec PyProof.Rows L2
local macro_rules | `(tactic| walk_at "sm") => `(tactic| first | assumption | ((with_reducible show Same _ (upd _ _ _)); (refine' AU.mutS ?s ?h; (case h => assumption); (case s => walk_at "sm"))) | fail)
local macro_rules | `(tactic| walk_at "le") => `(tactic| first | (refine Nat.le_of_lt (AU.line ?_); (try simp only [List.length_append, List.length_map, List.length_cons, List.length_nil, List.length_take, List.length_replicate]); omega) | fail)
local macro_rules | `(tactic| walk_at "ll") => `(tactic| first | (show 0 < sizeLine; decide) | (show 1 < sizeLine; decide) | (show 2 < sizeLine; decide) | (show 3 < sizeLine; decide) | (refine AU.line ?_; (try simp only [List.length_append, List.length_map, List.length_cons, List.length_nil, List.length_take, List.length_replicate]); omega) | fail)
local macro_rules | `(tactic| walk_at "hl") => `(tactic| first | assumption | exact upd_same | (refine' AU.climb ?s ?h; (case s => walk_at "sm"); (case h => walk_at "hl")) | fail)
local macro_rules | `(tactic| walk_at "sl") => `(tactic| first | assumption | (refine' AU.sqL ?h; (case h => walk_at "hl")) | (refine' AU.sqLS ?s ?h; (case s => walk_at "sm"); (case h => walk_at "sl")) | fail)
local macro_rules | `(tactic| walk_at "tl") => `(tactic| first | assumption | (refine' AU.sqT ?h; (case h => walk_at "hl")) | (refine' AU.sqTS ?s ?h; (case s => walk_at "sm"); (case h => walk_at "tl")) | fail)
local macro_rules | `(tactic| walk_at "sz") => `(tactic| first | (show 0 ≤ sizeLine; decide) | (show 1 ≤ sizeLine; decide) | (show 2 ≤ sizeLine; decide) | (show 3 ≤ sizeLine; decide) | (show 4 ≤ sizeLine; decide) | (show 5 ≤ sizeLine; decide) | (show 6 ≤ sizeLine; decide) | (show 7 ≤ sizeLine; decide) | (show 8 ≤ sizeLine; decide) | (show 9 ≤ sizeLine; decide) | (show 10 ≤ sizeLine; decide) | fail)
local macro_rules | `(tactic| walk_at "ci") => `(tactic| first | exact trivial | omega | (show (0 : Int) < _; omega) | (show CMul _ _; exact .inl ⟨by omega, by omega⟩) | (show CMul _ _; exact .inr ⟨by omega, by omega⟩) | (show CMul _ _; exact .inr (AU.b01 _)) | (show CMul _ _; exact .inl (AU.b01 _)) | (show CDiv _ _; exact ⟨by omega, by omega⟩) | (show _ ≠ (0 : Int); omega) | (show CDiv _ _; exact ⟨by decide, by decide⟩) | fail)
local macro_rules | `(tactic| walk_at "hh") => `(tactic| first | assumption | (refine' OT.HeldF.mono ?s ?h; (case s => walk_at "sm"); (case h => walk_at "hh")) | fail)
local macro_rules | `(tactic| walk_at "tyx") => `(tactic| first | exact .base (.int _) | exact .base (.bl _) | exact .base (.str _) | exact .base (.lst (by walk_at "hl")) | exact .base (.tup (by walk_at "hl")) | fail)
local macro_rules | `(tactic| walk_at "st1") => `(tactic| first | ((with_reducible show tSeq _ _ _ _ _); (try simp only [List.set_cons_zero, List.set_cons_succ]); refine AU.seq_ ?_) | ((with_reducible show tAsg _ _ _ _ _); refine AU.asg_ ?_) | ((with_reducible show gName _ _ _ _ _); refine AU.name_ ?_) | ((with_reducible show tDrop _ _ _ _); refine AU.drop_ ?_) | ((with_reducible show tRet _ _ _ _); refine AU.ret_ ?_) | ((with_reducible show tRetN _ _ _); refine AU.retN_ ?_) | ((with_reducible show tNext _ _ _); refine AU.next_ ?_) | ((with_reducible show tBreak _ _ _); refine AU.brk_ ?_) | ((with_reducible show tCont _ _ _); refine AU.cont_ ?_) | ((with_reducible show tIfS _ _ _ _ _ _); refine AU.ifs_ ?_) | ((with_reducible show tAug _ _ _ _ _ _); refine AU.aug_ rfl ?_) | ((with_reducible show Ends.nx (Ends.mk _ _ _ _) _ _); refine AU.nxm ?_) | ((with_reducible show Ends.rt (Ends.mk _ _ _ _) _ _); refine AU.rtm ?_) | ((with_reducible show Ends.bk (Ends.mk _ _ _ _) _ _); refine AU.bkm ?_) | ((with_reducible show Ends.ct (Ends.mk _ _ _ _) _ _); refine AU.ctm ?_) | ((with_reducible show tVar _ _ _ _); refine AU.var_ rfl ?_) | ((with_reducible show tC _ _ _ _); refine AU.c_ ?_) | ((with_reducible show tOp _ _ _ _ _ _); refine AU.op_ ?_) | ((with_reducible show tUn _ _ _ _ _); refine AU.un_ ?_) | ((with_reducible show rU _ _ _ _); refine AU.u_ ?_) | ((with_reducible show rI0 _ _ _ _ _); refine AU.i0_ ?_) | ((with_reducible show rI _ _ _ _ _ _); refine AU.i_ (by walk_at "ci") ?_) | ((with_reducible show rEq (V.int _) (V.int _) _ _); first | (with_reducible refine AU.eqr_ ?_) | refine AU.eqi_ ?_) | ((with_reducible show rEq (V.str _) (V.str _) _ _); (with_reducible refine AU.eqs_ ?_)) | ((with_reducible show rNe (V.int _) (V.int _) _ _); refine AU.nei_ ?_) | ((with_reducible show rEq _ _ _ _); refine AU.eq_ rfl ?_) | ((with_reducible show rNe _ _ _ _); refine AU.ne_ rfl ?_) | ((with_reducible show tTest _ _ _ _); refine AU.test_ ?_) | ((with_reducible show tB _ _ _ _); refine AU.b_ ?_) | ((with_reducible show tAnd _ _ _ _ _); refine AU.and_ ?_) | ((with_reducible show tOr _ _ _ _ _); refine AU.or_ ?_) | ((with_reducible show tNot _ _ _ _); refine AU.not_ ?_) | ((with_reducible show tAndV _ _ _ _ _); refine AU.andV_ ?_) | ((with_reducible show tOrV _ _ _ _ _); refine AU.orV_ ?_) | ((with_reducible show tNotV _ _ _ _); refine AU.notV_ ?_) | ((with_reducible show tIf _ _ _ _ _ _); refine AU.if_ ?_) | ((with_reducible show tNil _ _ _); refine AU.nil_ ?_) | ((with_reducible show tCons _ _ _ _ _); refine AU.cons_ ?_) | ((with_reducible show tLst _ _ _ _); refine AU.lst_ ?_) | ((with_reducible show tTup _ _ _ _); refine AU.tup_ ?_) | ((with_reducible show tCall _ _ _ _ _ _ _); refine AU.call_ ?_) | ((with_reducible show tCallS _ _ _ _ _ _); refine AU.callS_ ?_) | ((with_reducible show tCB _ _ _ _ _); refine AU.cb_ ?_) | ((with_reducible show tBM _ _ _ _ _ _ _ _); refine AU.bm_ ?_) | ((with_reducible show rIxL _ _ _ _ _); refine AU.ixL_ (by walk_at "sl") (by first | assumption | rfl) ?_) | ((with_reducible show rIxT _ _ _ _ _); refine AU.ixT_ (by walk_at "tl") (by first | assumption | rfl) ?_) | ((with_reducible show Evl.rLenS _ _ _ _); first | refine AU.lenL_ (by walk_at "sl") ?_ | refine AU.lenT_ (by walk_at "tl") ?_) | ((with_reducible show rAppend (V.ref _) [_] _ _); refine AU.app_ (by walk_at "hl") (by walk_at "ll") ?_) | ((with_reducible show tyV _ _ (V.ref _) _ ∧ _); refine AU.tyl_ (by walk_at "sl") ?_) | ((with_reducible show rCat (V.ref _) (V.ref _) _ _); refine AU.cat_ (by walk_at "hl") (by walk_at "hl") (by walk_at "le") ?_) | ((with_reducible show tFor _ _ _ _ _ _); refine AU.for_ ?_) | ((with_reducible show tLc _ _ _ _ _ _ _ _); refine AU.lc_ ?_) | ((with_reducible show iRng1 _ _ _ _); refine AU.rng1_ ?_) | ((with_reducible show iList _ _ _ _ _); refine AU.list_ ?_) | ((with_reducible show iTup _ _ _ _ _); refine AU.itup_ ?_) | ((with_reducible show (∃ i, [V.bl _] = [V.int i] ∧ _) ∨ _); refine AU.intb_ ?_) | ((with_reducible show (∃ i, [V.int _] = [V.int i] ∧ _) ∨ _); refine AU.inti_ ?_) | ((with_reducible show tYes _ _ _); refine AU.yes_ ?_) | ((with_reducible show ∃ p ys, [V.ref _] = [V.ref p] ∧ (SqL _ _ p ys ∨ SqT _ _ p ys) ∧ _); first | refine AU.listof_ (by walk_at "sl") ?_ | refine AU.listofT_ (by walk_at "tl") ?_) | ((with_reducible show ∃ p ys, [V.ref _] = [V.ref p] ∧ ((SqL _ _ p ys ∧ _) ∨ (SqT _ _ p ys ∧ _))); first | refine AU.tupleof_ (by walk_at "sl") ?_ | refine AU.tupleofT_ (by walk_at "tl") ?_) | ((with_reducible show V.non = V.non ∧ _); refine ⟨rfl, ?_⟩) | ((with_reducible show OT.rIsX _ _ _ _ [V.ref _, _] _ _); refine OT.isX_ (by walk_at "hh") (by first | exact .own _ | exact .ty _) (by assumption) ?_) | ((with_reducible show OT.tFA _ _ _ _ _ _ _ _ _); refine OT.fA_ ?_) | ((with_reducible show OT.tCallE _ _ _ _ _ _ _ _); refine OT.callE_ ?_) | ((with_reducible show rIsi _ [_, _] _ _); refine OT.isi_ (by first | exact .own _ | exact .ty _) (by walk_at "tyx") (by first | assumption | exact kit_ty OT.kq_int_int | exact kit_ty OT.kq_int_bool | exact kit_ty OT.kq_bool_bool | exact kit_ty OT.kq_bool_int | exact kit_ty OT.kq_str_str | exact kit_ty OT.kq_tuple_tuple | exact kit_ty OT.kq_list_list | exact kit_ty OT.kq_list_tuple | exact kit_ty OT.kq_tuple_list | exact kit_ty OT.kq_list_int | exact kit_ty OT.kq_tuple_int | exact kit_ty OT.kq_list_bool | exact kit_ty OT.kq_tuple_bool | exact kit_ty OT.kq_str_int | exact kit_ty OT.kq_int_str | exact kit_ty OT.kq_int_list | exact kit_ty OT.kq_int_tuple | exact kit_ty OT.kq_bool_list | exact kit_ty OT.kq_bool_tuple) ?_) | ((with_reducible show ∃ k, V.bl _ = V.bl k ∧ _); refine AU.bool_ ?_) | ((with_reducible show tSl _ _ _ _ _ _ _); refine AU.sl_ ?_) | ((with_reducible show tNoPart _ _ _); refine AU.npart_ ?_) | ((with_reducible show tPart _ _ _ _); refine AU.part_ ?_) | ((with_reducible show ∃ k, V.int _ = V.int k ∧ rSlL _ _ _ (some k) _ _); refine AU.int1_ ?_) | ((with_reducible show rSlL _ (V.ref _) _ _ _ _); refine AU.slL_ (by walk_at "sl") ?_) | ((with_reducible refine AU.trueT ?_)) | ((with_reducible refine AU.refNon ?_)) | ((with_reducible refine AU.nonNon ?_)) | ((with_reducible refine AU.trueN ?_)) | ((with_reducible refine AU.falseN ?_)) | ((with_reducible refine AU.falseF ?_)) | fail)
local macro_rules | `(tactic| walk_at "st") => `(tactic| repeat walk_at "st1")
section
variable {P : Program} {w : World} {K : PySem.W.Frag} {mg : Str → Option Value} {base : Heap}
def spDoors (K : PySem.W.Frag) : Sp := fun vs H Q _ => ∃ (a b c : Addr) (ns : List Int) (us : List V) (d0 d1 d2 : Int), vs = [.ref a, .ref b, .ref c] ∧ SqL K H a (ns.map V.int) ∧ H b = some (.lst us) ∧ 1 ≤ us.length ∧ us.length ≤ 8 ∧ H c = some (.lst [.int d0, .int d1, .int d2]) ∧ 0 ≤ d0 ∧ d0 < 2 ∧ 0 ≤ d1 ∧ d1 < 8 ∧ 0 ≤ d2 ∧ d2 < 8 ∧ ∀ H', Same H H' → Q (.bl true) H'
theorem c__law_doors {f : Addr} {fd : FuncData} (D : C8.Def K mg "_law_doors" s__law_doors f fd) (b : Binds K fd ["_law_script", "_law_rows_here", "_law_draws_here"] []) (T : Bi mg) (c__law_cell : C8.Cal P w K mg base 1 "_law_cell" (spCell K) []) (c__law_wide : C8.Cal P w K mg base 4 "_law_wide" spWide []) (c__law_refused : C8.Cal P w K mg base 9 "_law_refused" spRefused [])
    (c__law_uncombs : C8.Cal P w K mg base 7 "_law_uncombs" spUncs []) (c__law_copies : C8.Cal P w K mg base 1 "_law_copies" spCopies []) (c__law_whole : C8.Cal P w K mg base 2 "_law_whole" spWhole []) : C8.Cal P w K mg base 10 "_law_doors" (spDoors K) [] := by
  refine C8.cal0 D b .nil sc__law_doors (fun vs H Q E h => ?_) (fun cdv A outer s H vs Q E hr h => ?_)
  · obtain ⟨a, b, c, ns, us, d0, d1, d2, rfl, _⟩ := h
    rfl
  · obtain ⟨a, b, c, ns, us, d0, d1, d2, rfl, ha, hb, hu1, hu8, hc, a0, b0, a1, b1, a2, b2, q⟩ := h
    refine ⟨_, (pss_cons (ps_set (i := 3) sc__law_doors.nd rfl (Or.inl rfl) (pe_op op_add pe_int (pe_ix ix_list (pv 2) pe_int (fun _ _ => rfl))))
  (pss_cons (ps_set (i := 4) sc__law_doors.nd rfl (Or.inl rfl) (C8.pe_c c__law_wide hr (by decide) (by rfl) (pa_cons (C8.pe_c c__law_cell hr (by decide) (by rfl) (pa_cons (pv 0) (pa_cons pe_int pa_nil))) (pa_cons (pv 3) pa_nil))))
  (pss_cons (ps_set (i := 5) sc__law_doors.nd rfl (Or.inl rfl) (C8.pe_c c__law_wide hr (by decide) (by rfl) (pa_cons (C8.pe_c c__law_cell hr (by decide) (by rfl) (pa_cons (pv 0) (pa_cons pe_int pa_nil))) (pa_cons (pe_op op_sub pe_int (pv 3)) pa_nil))))
  (pss_cons (ps_set (i := 6) sc__law_doors.nd rfl (Or.inl rfl) (pe_op op_mod (pe_callTy call_int1 (by rfl) T.n_int OT.b_int (pa_cons (pe_ix ix_list (pv 2) pe_int (fun _ _ => rfl)) pa_nil)) (pe_callB call_len_seq (by rfl) T.n_len OT.b_len (pa_cons (pv 1) pa_nil))))
  (pss_cons (ps_setLc (i := 7) (own := [("_law_row_here", 13)]) (g := (gName 13)) (tt := tYes) rfl sc__law_doors.nd rfl rfl (sw_true rfl rfl rfl rfl) (pi_list (pv 1)) (blkOk_by (N := ["_law_script", "_law_rows_here", "_law_draws_here", "_law_size", "_law_wide_here", "_law_other", "_law_at", "_law_alone", "_law_narrow", "_law_line_here", "_law_beside", "_law_near", "_law_pair", "_law_row_here", "_law_mixed", "_law_door"]) (sc := C8.fnScope s__law_doors) (by decide +kernel)) (fun _ _ _ _ _ => (pg_name (i := 13) sc__law_doors.nd rfl (Or.inl rfl))) (fun _ _ _ _ _ => pts_nil) (fun _ _ _ _ _ => (pe_lst pa_nil)))
  (pss_cons (ps_asg (pv 4) (pg_sub (pv 7) (pv 6) set_list))
  (pss_cons (ps_set (i := 8) sc__law_doors.nd rfl (Or.inl rfl) (pe_tup (pa_cons pe_str (pa_cons (pv 3) pa_nil))))
  (pss_cons (ps_if (PW.pt (pw_or (pt_not (pt_val (C8.pe_c c__law_refused hr (by decide) (by rfl) (pa_cons pe_int (pa_cons (pe_lst (pa_cons (pv 4) pa_nil)) (pa_cons (pe_op op_add pe_int (pe_ix ix_list (pv 2) pe_int (fun _ _ => rfl))) (pa_cons (pv 8) pa_nil))))))) (pw_or1 (pt_not (pt_val (C8.pe_c c__law_refused hr (by decide) (by rfl) (pa_cons pe_int (pa_cons (pv 7) (pa_cons pe_int (pa_cons (pv 8) pa_nil)))))))))) (pss_one (ps_ret pe_bl)) pss_nil)
  (pss_cons (ps_set (i := 9) sc__law_doors.nd rfl (Or.inl rfl) (pe_lst (pa_cons (pe_tup (pa_cons (pe_tup (pa_cons (pe_op op_sub (pe_ix ix_list (pv 2) pe_int (fun _ _ => rfl)) pe_int) pa_nil)) (pa_cons (pe_op op_add pe_int (pe_ix ix_list (pv 2) pe_int (fun _ _ => rfl))) pa_nil))) pa_nil)))
  (pss_cons (ps_for PassesOwn.never rfl (pi_list (pe_lst (pa_cons (pv 9) (pa_cons (pv 5) pa_nil)))) (pg_name (i := 10) sc__law_doors.nd rfl (Or.inl rfl)) (pss_one (ps_for PassesOwn.never rfl (pi_list (pe_lst (pa_cons (pe_lst (pa_cons (pv 4) (pa_cons (pv 10) pa_nil))) (pa_cons (pe_lst (pa_cons (pv 10) (pa_cons (pv 4) pa_nil))) pa_nil)))) (pg_name (i := 12) sc__law_doors.nd rfl (Or.inl rfl)) (pss_cons (ps_set (i := 14) sc__law_doors.nd rfl (Or.inl rfl) (pe_op op_cat (pe_op op_cat (pe_slice sl_list (pv 7) po_none (po_some (pv 6))) (pv 12)) (pe_slice sl_list (pv 7) (po_some (pe_op op_add (pv 6) pe_int)) po_none)))
  (pss_cons (ps_set (i := 14) sc__law_doors.nd rfl (Or.inl rfl) (pe_slice sl_list (pv 14) (po_some (pe_callB (call_max2 rfl) (by rfl) T.n_max OT.b_max (pa_cons pe_int (pa_cons (pe_op op_sub (pv 6) pe_int) pa_nil)))) (po_some (pe_op op_add (pe_callB (call_max2 rfl) (by rfl) T.n_max OT.b_max (pa_cons pe_int (pa_cons (pe_op op_sub (pv 6) pe_int) pa_nil))) pe_int))))
  (pss_one (ps_for PassesOwn.never rfl (pi_list (pe_lst (pa_cons pe_int (pa_cons pe_int pa_nil)))) (pg_name (i := 15) sc__law_doors.nd rfl (Or.inl rfl)) (pss_one (ps_if (pt_not (pt_val (C8.pe_c c__law_refused hr (by decide) (by rfl) (pa_cons (pv 15) (pa_cons (pv 14) (pa_cons pe_int (pa_cons (pe_tup (pa_cons pe_str (pa_cons pe_int pa_nil))) pa_nil))))))) (pss_one (ps_ret pe_bl)) pss_nil)))))))))
  (pss_cons (ps_set (i := 11) sc__law_doors.nd rfl (Or.inl rfl) (pe_op op_cat (pe_op op_cat (pe_slice sl_list (pv 7) po_none (po_some (pv 6))) (pe_lst (pa_cons (pv 9) pa_nil))) (pe_slice sl_list (pv 7) (po_some (pe_op op_add (pv 6) pe_int)) po_none)))
  (pss_one (ps_ret (C8.pe_c c__law_uncombs hr (by decide) (by rfl) (pa_cons (pv 11) (pa_cons (C8.pe_c c__law_copies hr (by decide) (by rfl) (pa_cons (pv 11) pa_nil)) (pa_cons (C8.pe_c c__law_whole hr (by decide) (by rfl) (pa_cons (pv 11) pa_nil)) pa_nil))))))))))))))))), ?_⟩
    have i0 : atI [V.int d0, V.int d1, V.int d2] 0 = some (.int d0) := AU.atN (j := 0) rfl rfl
    have i1 : atI [V.int d0, V.int d1, V.int d2] 1 = some (.int d1) := AU.atN (j := 1) rfl rfl
    have i2 : atI [V.int d0, V.int d1, V.int d2] 2 = some (.int d2) := AU.atN (j := 2) rfl rfl
    walk_at "st"
    refine ⟨a, ns, 12, rfl, ha, by decide, fun c12 => ?_⟩
    obtain ⟨k, hk⟩ : ∃ k : Nat, 2 + d0 = (k : Int) := ⟨(2 + d0).toNat, by omega⟩
    have hk2 : k = 2 ∨ k = 3 := by omega
    walk_at "st"
    rw [hk]
    refine ⟨c12, k, rfl, hk2, fun p1 ws1 W1 H1 s1 hp1 hE1 w1 => ?_⟩
    have ha1 := s1.seq ha
    walk_at "st"
    refine ⟨a, ns, 13, rfl, ha1, by decide, fun c13 => ?_⟩
    obtain ⟨k2, hk2e⟩ : ∃ k2 : Nat, 5 - (k : Int) = (k2 : Int) := ⟨(5 - (k : Int)).toNat, by omega⟩
    have hk22 : k2 = 2 ∨ k2 = 3 := by omega
    have hkk : k ≠ k2 := by omega
    walk_at "st"
    rw [hk2e]
    refine ⟨c13, k2, rfl, hk22, fun p2 ws2 W2 H2 s2 hp2 hE2 w2 => ?_⟩
    have hc2 := (s1.trans s2) _ _ hc
    have hb2 := (s1.trans s2) _ _ hb
    have hp12 := s2 _ _ hp1
    have hE12 := hE1.mono s2
    walk_at "st"
    obtain ⟨m, hm⟩ : ∃ m : Nat, d1 % (us.length : Int) = (m : Int) := ⟨(d1 % (us.length : Int)).toNat, by have := Int.emod_nonneg d1 (show (us.length : Int) ≠ 0 by omega); omega⟩
    have hmn : m < us.length := by have := Int.emod_lt_of_pos d1 (show (0 : Int) < (us.length : Int) by omega); omega
    rw [hm]
    walk_at "st"
    refine ⟨b, rfl, ⟨_, AU.sqL hb2⟩, fun D0 nD => ?_⟩
    refine lc_list (K := K) (xs := us) (fun j F => ∃ as, FrL H2 F D0 as (List.replicate j [])) ⟨[], FrL.start nD⟩ ?_ ?_ ?_
    · rintro j F _ ⟨as, hF⟩
      exact AU.sqL (hF.s _ _ hb2)
    · rintro j x F hx2 ⟨as, hF⟩
      have hjl := (List.getElem?_eq_some_iff.mp hx2).1
      have hl := hF.l
      rw [List.length_replicate] at hl
      refine ⟨rfl, ?_⟩
      walk_at "st"
      refine ⟨Nat.zero_le _, fun q1 nq1 => ?_⟩
      have sq1 : Same F (upd F q1 (.lst [])) := same_upd nq1
      refine ⟨_, sq1 _ _ hF.hp, by rw [List.length_map]; exact small1000 (by omega), as ++ [q1], ?_⟩
      rw [List.replicate_succ']
      exact hF.push nq1
    rintro H3 ⟨as, hF⟩
    have hD3 := hF.hp
    have hal := hF.l
    rw [List.length_replicate] at hal
    have hRA := (hF.at_rows).upd2 (l' := (as.map V.ref).set m (.ref p1)) hD3 fun z => by
      obtain ⟨x, hx, e⟩ := List.mem_map.mp z
      exact hF.pn (by rw [← V.ref.inj e]; exact hx)
    have s4 : Same H2 (upd H3 D0 (.lst ((as.map V.ref).set m (.ref p1)))) := AU.mutS hF.s nD
    have hD4 : (upd H3 D0 (.lst ((as.map V.ref).set m (.ref p1)))) D0 = some (.lst ((as.map V.ref).set m (.ref p1))) := upd_same
    walk_at "st"
    refine gsub_ ?_
    walk_at "st"
    refine setL_ hD3 (j := m) (ixN_nat2 rfl (by rw [List.length_map]; omega)) ?_
    generalize upd H3 D0 (.lst ((as.map V.ref).set m (.ref p1))) = H4 at hRA s4 hD4 ⊢
    clear hD3 hF
    have hRS := hRA.set2 (s4 _ _ hp12) (hE12.mono s4) m
    have hc4 := s4 _ _ hc2
    have hp14 := s4 _ _ hp12
    have hp24 := s4 _ _ hp2
    have hE14 := hE12.mono s4
    have hE24 := hE2.mono s4
    have s04 := (s1.trans s2).trans s4
    clear s1 s2 s4 hp12 hp1 hp2 hE1 hE2 hE12 hc2 hb2 ha1
    walk_at "st"
    refine ⟨by walk_at "sz", fun nt nnt => ?_⟩; generalize eH5 : upd _ nt _ = H5; have s5 := AU.newS nnt eH5; have hnt := AU.newH eH5; clear eH5
    walk_at "st"
    refine ⟨by walk_at "sz", fun l6 nl6 => ?_⟩; generalize eH6 : upd _ l6 _ = H6; have s6 := AU.newS nl6 eH6; have hl6 := AU.newH eH6; clear eH6
    walk_at "st"
    obtain ⟨n1, hn1⟩ : ∃ n1 : Nat, 1 + d2 = (n1 : Int) := ⟨(1 + d2).toNat, by omega⟩
    rw [hn1]
    refine ⟨0, (n1 : Int), l6, nt, [.ref p1], [W1], "OneDirectionOnly", (k : Int), rfl, hl6, .cons ((s5.trans s6) _ _ hp14) (hE14.mono (s5.trans s6)) .nil, s6 _ _ hnt, by simp, .inl ⟨rfl, rfl, W1, rfl, by rw [w1.dim]; omega, by have := w1.z; omega, by rw [w1.dim], by omega, by omega⟩, fun es he => by rw [List.mem_singleton.mp he]; exact w1.row (by omega) (by omega), fun H7 s7 => ?_⟩
    obtain ⟨dd1, dd2⟩ := due_one w1 (by omega) (by omega) hmn hu8
    have s47 := (s5.trans s6).trans s7
    have hD7 := s47 _ _ hD4
    have hnt7 := (s6.trans s7) _ _ hnt
    walk_at "st"
    refine ⟨1, 0, D0, nt, _, _, "OneDirectionOnly", (k : Int), rfl, hD7, hRS.mono s47, hnt7, by rw [List.length_set, List.length_replicate]; omega, dd1, dd2, fun H8 s8 => ?_⟩
    have s48 := s47.trans s8
    have hc8 := s48 _ _ hc4
    clear s5 s6 s7 s8 hD7 hl6 hnt
    walk_at "st"
    refine ⟨by walk_at "sz", fun t9 nt9 => ?_⟩; generalize eH9 : upd _ t9 _ = H9; have s9 := AU.newS nt9 eH9; have ht9 := AU.newH eH9; clear eH9
    walk_at "st"
    refine ⟨by walk_at "sz", fun t10 nt10 => ?_⟩; generalize eH10 : upd _ t10 _ = H10; have s10 := AU.newS nt10 eH10; have ht10 := AU.newH eH10; clear eH10
    walk_at "st"
    refine ⟨by walk_at "sz", fun L nL => ?_⟩; generalize eH11 : upd _ L _ = H11; have s11 := AU.newS nL eH11; have hL := AU.newH eH11; clear eH11
    have hEL : Ents H11 [.ref t10] [([d2 - 3], 1 + d1)] := .cons ⟨t10, t9, rfl, s11 _ _ ht10, (s10.trans s11) _ _ ht9⟩ .nil
    have wL1 : WRow 1 [([d2 - 3], 1 + d1)] := ⟨⟨List.pairwise_singleton _ _, fun e he => by rw [List.mem_singleton.mp he]; show 1 + d1 ≠ 0; omega⟩, fun e he => by rw [List.mem_singleton.mp he]; rfl, by simp, fun z => by cases z⟩
    generalize ([([d2 - 3], 1 + d1)] : List Ent) = EL at hEL wL1
    have s8b := (s9.trans s10).trans s11
    have s4b := s48.trans s8b
    have hRAb := hRA.mono s4b
    have hDb := s4b _ _ hD4
    have hp1b := s4b _ _ hp14
    have hE1b := hE14.mono s4b
    have hp2b := s4b _ _ hp24
    have hE2b := hE24.mono s4b
    have s0b := s04.trans s4b
    have hA : RowsAt H11 (((as.map V.ref).set m (.ref p1)).take m) ((List.replicate us.length []).take m) := by
      rw [List.take_set_of_le (Nat.le_refl _)]
      exact hRAb.take2 m
    have hB : RowsAt H11 (((as.map V.ref).set m (.ref p1)).drop (m + 1)) ((List.replicate us.length []).drop (m + 1)) := by
      rw [List.drop_set_of_lt (Nat.lt_succ_self _)]
      exact hRAb.drop2 (m + 1)
    have hvl : ((as.map V.ref).set m (.ref p1)).length = us.length := by rw [List.length_set, List.length_map, hal]
    generalize (as.map V.ref).set m (.ref p1) = vA at hA hB hvl hDb hD4 hRS
    have hAl : ((List.replicate us.length ([] : List Ent)).take m).length = m := by rw [List.length_take, List.length_replicate]; omega
    have hAn : ∀ es ∈ (List.replicate us.length ([] : List Ent)).take m, es = [] := fun es he => rep_nil (List.mem_of_mem_take he)
    have hBn : ∀ es ∈ (List.replicate us.length ([] : List Ent)).drop (m + 1), es = [] := fun es he => rep_nil (List.mem_of_mem_drop he)
    have hBl : ((List.replicate us.length ([] : List Ent)).drop (m + 1)).length ≤ 8 := by rw [List.length_drop, List.length_replicate]; omega
    generalize (List.replicate us.length ([] : List Ent)).take m = lA at hA hAl hAn
    generalize (List.replicate us.length ([] : List Ent)).drop (m + 1) = lB at hB hBn hBl
    clear s9 s10 s11 s48 s8b s4b ht9 nt9 ht10 nt10 nL hRA hp14 hE14 hp24 hE24 s04 dd1 dd2 hRS hc8 hc4
    walk_at "st"
    refine ⟨by walk_at "sz", fun ll nll => ?_⟩; generalize eH12 : upd _ ll _ = H12; have s12 := AU.newS nll eH12; have hll := AU.newH eH12; clear eH12
    walk_at "st"
    refine ⟨ll, rfl, ⟨_, AU.sqL hll⟩, ?_⟩
    refine for_list (K := K) (xs := [.ref L, .ref p2]) (fun j σ G => ∃ y10 y12 y14 y15 : Option V, σ = [some (.ref a), some (.ref b), some (.ref c), some (.int (k : Int)), some (.ref p1), some (.ref p2), some (.int (m : Int)), some (.ref D0), some (.ref nt), some (.ref L), y10, none, y12, none, y14, y15] ∧ Same H12 G) ⟨none, none, none, none, rfl, Same.refl _⟩ ?_ ?_ ?_
    · rintro j σ G _ ⟨_, _, _, _, _, sG⟩
      exact AU.sqL (sG _ _ hll)
    · rintro j x σ G hx ⟨y10, y12, y14, y15, rfl, sG⟩
      have sG0 := s12.trans sG
      obtain ⟨qb, wsb, EB, kb, rfl, hqb, hEb, wb, hkb1, hkb3, hkbne⟩ : ∃ (qb : Addr) (wsb : List V) (EB : List Ent) (kb : Nat), x = .ref qb ∧ H11 qb = some (.lst wsb) ∧ Ents H11 wsb EB ∧ WRow kb EB ∧ 1 ≤ kb ∧ kb ≤ 3 ∧ k ≠ kb := by
        match j, hx with
        | 0, hx =>
          cases hx
          exact ⟨L, _, EL, 1, rfl, hL, hEL, wL1, by decide, by decide, by omega⟩
        | 1, hx =>
          cases hx
          exact ⟨p2, _, W2, k2, rfl, hp2b, hE2b, w2, by omega, by omega, hkk⟩
        | j + 2, hx => cases hx
      walk_at "st"
      refine ⟨by walk_at "sz", fun e1 ne1 => ?_⟩; generalize eG1 : upd _ e1 _ = G1; have t1 := AU.newS ne1 eG1; have he1 := AU.newH eG1; clear eG1
      walk_at "st"
      refine ⟨by walk_at "sz", fun e2 ne2 => ?_⟩; generalize eG2 : upd _ e2 _ = G2; have t2 := AU.newS ne2 eG2; have he2 := AU.newH eG2; clear eG2
      walk_at "st"
      refine ⟨by walk_at "sz", fun e3 ne3 => ?_⟩; generalize eG3 : upd _ e3 _ = G3; have t3 := AU.newS ne3 eG3; have he3 := AU.newH eG3; clear eG3
      have sB := sG0.trans ((t1.trans t2).trans t3)
      have he1 := (t2.trans t3) _ _ he1
      have he2 := t3 _ _ he2
      have sC := sG.trans ((t1.trans t2).trans t3)
      clear t1 t2 t3 ne1 ne2 ne3
      walk_at "st"
      refine ⟨e3, rfl, ⟨_, AU.sqL he3⟩, ?_⟩
      refine for_list (K := K) (xs := [.ref e1, .ref e2]) (fun j σ G => ∃ y12 y14 y15 : Option V, σ = [some (.ref a), some (.ref b), some (.ref c), some (.int (k : Int)), some (.ref p1), some (.ref p2), some (.int (m : Int)), some (.ref D0), some (.ref nt), some (.ref L), some (.ref qb), none, y12, none, y14, y15] ∧ Same G3 G) ⟨_, _, _, rfl, Same.refl _⟩ ?_ ?_ ?_
      · rintro j σ G _ ⟨_, _, _, _, sG⟩
        exact AU.sqL (sG _ _ he3)
      · rintro j x σ F hx ⟨y12, y14, y15, rfl, sF⟩
        obtain ⟨pp, u1, u2, v1, v2, E1, E2, n1, n2, rfl, hpp, hu1, hE1, hu2, hE2, w1', w2', h11, h13, h21, h23, hne⟩ : ∃ (pp u1 u2 : Addr) (v1 v2 : List V) (E1 E2 : List Ent) (n1 n2 : Nat), x = .ref pp ∧ G3 pp = some (.lst [.ref u1, .ref u2]) ∧ H11 u1 = some (.lst v1) ∧ Ents H11 v1 E1 ∧ H11 u2 = some (.lst v2) ∧ Ents H11 v2 E2 ∧ WRow n1 E1 ∧ WRow n2 E2 ∧ 1 ≤ n1 ∧ n1 ≤ 3 ∧ 1 ≤ n2 ∧ n2 ≤ 3 ∧ n1 ≠ n2 := by
          match j, hx with
          | 0, hx =>
            cases hx
            exact ⟨e1, p1, qb, _, _, W1, EB, k, kb, rfl, he1, hp1b, hE1b, hqb, hEb, w1, wb, by omega, by omega, hkb1, hkb3, hkbne⟩
          | 1, hx =>
            cases hx
            exact ⟨e2, qb, p1, _, _, EB, W1, kb, k, rfl, he2, hqb, hEb, hp1b, hE1b, wb, w1, hkb1, hkb3, by omega, by omega, hkbne.symm⟩
          | j + 2, hx => cases hx
        have sF0 := sB.trans sF
        have hDF := sF0 _ _ hDb
        have hpF := sF _ _ hpp
        walk_at "st"
        intro c1 nc1; generalize eF1 : upd _ c1 _ = F1; have r1 := AU.newS nc1 eF1; have hc1 := AU.newH eF1; clear eF1
        rw [cut_take2] at hc1
        walk_at "st"
        intro c2 nc2; generalize eF2 : upd _ c2 _ = F2; have r2 := AU.newS nc2 eF2; have hc2 := AU.newH eF2; clear eF2
        walk_at "st"
        refine ⟨_, rfl, ?_⟩
        walk_at "st"
        intro c3 nc3; generalize eF3 : upd _ c3 _ = F3; have r3 := AU.newS nc3 eF3; have hc3 := AU.newH eF3; clear eF3
        rw [show (m : Int) + 1 = ((m + 1 : Nat) : Int) by omega, cut_drop2] at hc3
        have hc2 := r3 _ _ hc2
        walk_at "st"
        refine AU.cat_ hc2 hc3 (Nat.le_of_lt (AU.line (by simp only [List.length_append, List.length_take, List.length_drop, List.length_cons, List.length_nil]; omega))) ?_
        intro c4 nc4; generalize eF4 : upd _ c4 _ = F4; have r4 := AU.newS nc4 eF4; have hc4 := AU.newH eF4; clear eF4
        have hm4 : (if (m : Int) - 4 > 0 then (m : Int) - 4 else 0) = ((m - 4 : Nat) : Int) := by
          by_cases z : (m : Int) - 4 > 0
          · rw [if_pos z]
            omega
          · rw [if_neg z]
            omega
        walk_at "st"
        refine ⟨_, _, rfl, ?_⟩
        rw [hm4]
        refine ⟨_, rfl, ?_⟩
        walk_at "st"
        refine ⟨_, _, rfl, ?_⟩
        rw [hm4]
        walk_at "st"
        intro c5 nc5; generalize eF5 : upd _ c5 _ = F5; have r5 := AU.newS nc5 eF5; have hc5 := AU.newH eF5; clear eF5
        rw [show ((m - 4 : Nat) : Int) + 6 = ((m - 4 + 6 : Nat) : Int) by omega, cut_mid2] at hc5
        have rr := ((((r1.trans r2).trans r3).trans r4).trans r5)
        have sF5 := sF0.trans rr
        have sE := sF.trans rr
        obtain ⟨due1, rows1⟩ : (∀ door : Int, door = 1 ∨ door = 2 → DueD door 0 (((lA ++ [E1, E2] ++ lB).drop (m - 4)).take 6) "MixedDimensions" 0) ∧ ∀ es ∈ ((lA ++ [E1, E2] ++ lB).drop (m - 4)).take 6, (∃ m, RowN m es) ∧ es.length ≤ 100000 :=
          ⟨fun door hd => (due_two hd (n := 0) (m - 4) (by omega) (by omega) hAn hBn w1' w2' h11 h13 h21 h23 hne).1, (due_two (.inl rfl) (n := 0) (m - 4) (by omega) (by omega) hAn hBn w1' w2' h11 h13 h21 h23 hne).2⟩
        have hRc : RowsAt F5 (((vA.take m ++ [V.ref u1, V.ref u2] ++ vA.drop (m + 1)).drop (m - 4)).take 6) (((lA ++ [E1, E2] ++ lB).drop (m - 4)).take 6) :=
          ((((hA.app2 (.cons hu1 hE1 (.cons hu2 hE2 .nil))).app2 hB).drop2 (m - 4)).take2 6).mono sF5
        have hcl : ((((lA ++ [E1, E2] ++ lB).drop (m - 4)).take 6)).length ≤ 1000 := Nat.le_trans (List.length_take_le _ _) (by decide)
        generalize ((lA ++ [E1, E2] ++ lB).drop (m - 4)).take 6 = eC at due1 rows1 hRc hcl
        generalize ((vA.take m ++ [V.ref u1, V.ref u2] ++ vA.drop (m + 1)).drop (m - 4)).take 6 = vC at hc5 hRc
        clear r1 r2 r3 r4 r5 hc1 hc2 hc3 hc4 nc1 nc2 nc3 nc4 nc5 rr hm4
        walk_at "st"
        refine ⟨by walk_at "sz", fun l7 nl7 => ?_⟩; generalize eF7 : upd _ l7 _ = F7; have r7 := AU.newS nl7 eF7; have hl7 := AU.newH eF7; clear eF7
        walk_at "st"
        refine ⟨l7, rfl, ⟨_, AU.sqL hl7⟩, ?_⟩
        refine for_list (K := K) (xs := [.int 1, .int 2]) (fun j σ G => ∃ y15 : Option V, σ = [some (.ref a), some (.ref b), some (.ref c), some (.int (k : Int)), some (.ref p1), some (.ref p2), some (.int (m : Int)), some (.ref D0), some (.ref nt), some (.ref L), some (.ref qb), none, some (.ref pp), none, some (.ref c5), y15] ∧ Same F7 G) ⟨_, rfl, Same.refl _⟩ ?_ ?_ ?_
        · rintro j σ G _ ⟨_, _, sG⟩
          exact AU.sqL (sG _ _ hl7)
        · rintro j x σ F8 hx ⟨y15, rfl, s8⟩
          obtain ⟨door, rfl, hdoor⟩ : ∃ door : Int, x = .int door ∧ (door = 1 ∨ door = 2) := by
            match j, hx with
            | 0, hx => cases hx; exact ⟨1, rfl, .inl rfl⟩
            | 1, hx => cases hx; exact ⟨2, rfl, .inr rfl⟩
            | j + 2, hx => cases hx
          walk_at "st"
          refine ⟨by walk_at "sz", fun t9 nt9 => ?_⟩; generalize eF9 : upd _ t9 _ = F9; have s9 := AU.newS nt9 eF9; have ht9 := AU.newH eF9; clear eF9
          walk_at "st"
          have s79 := r7.trans (s8.trans s9)
          refine ⟨door, 0, c5, t9, vC, eC, "MixedDimensions", 0, rfl, s79 _ _ hc5, hRc.mono s79, ht9, hcl, due1 door hdoor, rows1, fun F10 s10 => ?_⟩
          walk_at "st"
          exact ⟨_, rfl, s8.trans (s9.trans s10)⟩
        · rintro σ F8 ⟨y15, rfl, s8⟩
          exact ⟨_, _, _, rfl, sE.trans (r7.trans s8)⟩
      · rintro σ F ⟨y12, y14, y15, rfl, sF⟩
        exact ⟨_, _, _, _, rfl, sC.trans sF⟩
    · rintro σ G ⟨y10, y12, y14, y15, rfl, sG⟩
      have sG0 := s12.trans sG
      have hDG := sG0 _ _ hDb
      walk_at "st"
      intro c1 nc1; generalize eF1 : upd _ c1 _ = F1; have r1 := AU.newS nc1 eF1; have hc1 := AU.newH eF1; clear eF1
      rw [cut_take2] at hc1
      walk_at "st"
      refine ⟨by walk_at "sz", fun l2 nl2 => ?_⟩; generalize eF2 : upd _ l2 _ = F2; have r2 := AU.newS nl2 eF2; have hl2 := AU.newH eF2; clear eF2
      have hc1 := r2 _ _ hc1
      walk_at "st"
      intro c3 nc3; generalize eF3 : upd _ c3 _ = F3; have r3 := AU.newS nc3 eF3; have hc3 := AU.newH eF3; clear eF3
      walk_at "st"
      refine ⟨_, rfl, ?_⟩
      walk_at "st"
      intro c4 nc4; generalize eF4 : upd _ c4 _ = F4; have r4 := AU.newS nc4 eF4; have hc4 := AU.newH eF4; clear eF4
      rw [show (m : Int) + 1 = ((m + 1 : Nat) : Int) by omega, cut_drop2] at hc4
      have hc3 := r4 _ _ hc3
      walk_at "st"
      refine AU.cat_ hc3 hc4 (Nat.le_of_lt (AU.line (by simp only [List.length_append, List.length_take, List.length_drop, List.length_cons, List.length_nil]; omega))) ?_
      intro c5 nc5; generalize eF5 : upd _ c5 _ = F5; have r5 := AU.newS nc5 eF5; have hc5 := AU.newH eF5; clear eF5
      have rr := ((((r1.trans r2).trans r3).trans r4).trans r5)
      have sF5 := sG0.trans rr
      have hRc : RowsAt F5 (vA.take m ++ [V.ref L] ++ vA.drop (m + 1)) (lA ++ [EL] ++ lB) := ((hA.app2 (.cons hL hEL .nil)).app2 hB).mono sF5
      have mem : ∀ es ∈ lA ++ [EL] ++ lB, es = [] ∨ es = EL := fun es h => by
        rcases List.mem_append.mp h with h | h
        · rcases List.mem_append.mp h with h | h
          · exact .inl (hAn es h)
          · exact .inr (List.mem_singleton.mp h)
        · exact .inl (hBn es h)
      have hNl : (lA ++ [EL] ++ lB).length ≤ 20 := by simp only [List.length_append, List.length_cons, List.length_nil]; omega
      have hN8 : ∀ es ∈ lA ++ [EL] ++ lB, es.length ≤ 8 := fun es he => by
        rcases mem es he with rfl | rfl
        · decide
        · exact wL1.z
      have hNd : ∀ es ∈ lA ++ [EL] ++ lB, DimN 1 es := fun es he => by
        rcases mem es he with rfl | rfl
        · exact dim1_nil
        · exact wL1.d
      have hNv : ∀ es ∈ lA ++ [EL] ++ lB, Valid es := fun es he => by
        rcases mem es he with rfl | rfl
        · exact nil_valid
        · exact wL1.v
      have hw : (wL (lA ++ [EL] ++ lB).length 0 (lA ++ [EL] ++ lB)).length ≤ 160 := Nat.le_trans (wL_len hN8) (Nat.mul_le_mul_right 8 hNl)
      generalize lA ++ [EL] ++ lB = eN at hRc mem hNl hN8 hNd hNv hw
      generalize vA.take m ++ [V.ref L] ++ vA.drop (m + 1) = vN at hc5 hRc
      have s0F := s0b.trans sF5
      clear r1 r2 r3 r4 r5 hc1 hc3 hc4 nc1 nl2 nc3 nc4 nc5 rr
      walk_at "st"
      refine ⟨c5, vN, eN, rfl, hc5, hRc, by omega, fun g gs F6 hF6 => ?_⟩
      have s6 := hF6.s
      have hc6 := s6 _ _ hc5
      walk_at "st"
      refine ⟨c5, vN, eN, rfl, hc6, hRc.mono s6, by omega, by omega, hNd, fun r pr wsr F7 hr7 s7 np7 hp7 hE7 => ?_⟩
      walk_at "st"
      refine ⟨c5, g, pr, vN, _, wsr, eN, r, rfl, s7 _ _ hc6, (hRc.mono s6).mono s7, s7 _ _ hF6.hp, hF6.at_rows.mono s7, hp7, hE7, hr7, by omega, by omega, fun es he => ⟨hNv es he, by have := hN8 es he; omega⟩, hNd, fun F8 s8 => ?_⟩
      walk_at "st"
      exact q _ (s0F.trans (s6.trans (s7.trans s8)))
end
end OT

set_option Elab.async false
set_option linter.all false
set_option maxRecDepth 100000
set_option maxHeartbeats 4000000
namespace OT
open PySem PySem.Spec PyProof.Rows L2
local macro_rules | `(tactic| walk_at "sm") => `(tactic| first | assumption | ((with_reducible show Same _ (upd _ _ _)); (refine' AU.mutS ?s ?h; (case h => assumption); (case s => walk_at "sm"))) | fail)
local macro_rules | `(tactic| walk_at "le") => `(tactic| first | (refine Nat.le_of_lt (AU.line ?_); (try simp only [List.length_append, List.length_map, List.length_cons, List.length_nil, List.length_take, List.length_replicate]); omega) | fail)
local macro_rules | `(tactic| walk_at "ll") => `(tactic| first | (show 0 < sizeLine; decide) | (show 1 < sizeLine; decide) | (show 2 < sizeLine; decide) | (show 3 < sizeLine; decide) | (refine AU.line ?_; (try simp only [List.length_append, List.length_map, List.length_cons, List.length_nil, List.length_take, List.length_replicate]); omega) | fail)
local macro_rules | `(tactic| walk_at "hl") => `(tactic| first | assumption | exact upd_same | (refine' AU.climb ?s ?h; (case s => walk_at "sm"); (case h => walk_at "hl")) | fail)
local macro_rules | `(tactic| walk_at "sl") => `(tactic| first | assumption | (refine' AU.sqL ?h; (case h => walk_at "hl")) | (refine' AU.sqLS ?s ?h; (case s => walk_at "sm"); (case h => walk_at "sl")) | fail)
local macro_rules | `(tactic| walk_at "tl") => `(tactic| first | assumption | (refine' AU.sqT ?h; (case h => walk_at "hl")) | (refine' AU.sqTS ?s ?h; (case s => walk_at "sm"); (case h => walk_at "tl")) | fail)
local macro_rules | `(tactic| walk_at "sz") => `(tactic| first | (show 0 ≤ sizeLine; decide) | (show 1 ≤ sizeLine; decide) | (show 2 ≤ sizeLine; decide) | (show 3 ≤ sizeLine; decide) | (show 4 ≤ sizeLine; decide) | (show 5 ≤ sizeLine; decide) | (show 6 ≤ sizeLine; decide) | (show 7 ≤ sizeLine; decide) | (show 8 ≤ sizeLine; decide) | (show 9 ≤ sizeLine; decide) | (show 10 ≤ sizeLine; decide) | fail)
local macro_rules | `(tactic| walk_at "ci") => `(tactic| first | exact trivial | omega | (show (0 : Int) < _; omega) | (show CMul _ _; exact .inl ⟨by omega, by omega⟩) | (show CMul _ _; exact .inr ⟨by omega, by omega⟩) | (show CMul _ _; exact .inr (AU.b01 _)) | (show CMul _ _; exact .inl (AU.b01 _)) | (show CDiv _ _; exact ⟨by omega, by omega⟩) | (show _ ≠ (0 : Int); omega) | (show CDiv _ _; exact ⟨by decide, by decide⟩) | fail)
local macro_rules | `(tactic| walk_at "hh") => `(tactic| first | assumption | (refine' OT.HeldF.mono ?s ?h; (case s => walk_at "sm"); (case h => walk_at "hh")) | fail)
local macro_rules | `(tactic| walk_at "tyx") => `(tactic| first | exact .base (.int _) | exact .base (.bl _) | exact .base (.str _) | exact .base (.lst (by walk_at "hl")) | exact .base (.tup (by walk_at "hl")) | fail)
local macro_rules | `(tactic| walk_at "st1") => `(tactic| first | ((with_reducible show tSeq _ _ _ _ _); (try simp only [List.set_cons_zero, List.set_cons_succ]); refine AU.seq_ ?_) | ((with_reducible show tAsg _ _ _ _ _); refine AU.asg_ ?_) | ((with_reducible show gName _ _ _ _ _); refine AU.name_ ?_) | ((with_reducible show tDrop _ _ _ _); refine AU.drop_ ?_) | ((with_reducible show tRet _ _ _ _); refine AU.ret_ ?_) | ((with_reducible show tRetN _ _ _); refine AU.retN_ ?_) | ((with_reducible show tNext _ _ _); refine AU.next_ ?_) | ((with_reducible show tBreak _ _ _); refine AU.brk_ ?_) | ((with_reducible show tCont _ _ _); refine AU.cont_ ?_) | ((with_reducible show tIfS _ _ _ _ _ _); refine AU.ifs_ ?_) | ((with_reducible show tAug _ _ _ _ _ _); refine AU.aug_ rfl ?_) | ((with_reducible show Ends.nx (Ends.mk _ _ _ _) _ _); refine AU.nxm ?_) | ((with_reducible show Ends.rt (Ends.mk _ _ _ _) _ _); refine AU.rtm ?_) | ((with_reducible show Ends.bk (Ends.mk _ _ _ _) _ _); refine AU.bkm ?_) | ((with_reducible show Ends.ct (Ends.mk _ _ _ _) _ _); refine AU.ctm ?_) | ((with_reducible show tVar _ _ _ _); refine AU.var_ rfl ?_) | ((with_reducible show tC _ _ _ _); refine AU.c_ ?_) | ((with_reducible show tOp _ _ _ _ _ _); refine AU.op_ ?_) | ((with_reducible show tUn _ _ _ _ _); refine AU.un_ ?_) | ((with_reducible show rU _ _ _ _); refine AU.u_ ?_) | ((with_reducible show rI0 _ _ _ _ _); refine AU.i0_ ?_) | ((with_reducible show rI _ _ _ _ _ _); refine AU.i_ (by walk_at "ci") ?_) | ((with_reducible show rEq (V.int _) (V.int _) _ _); first | (with_reducible refine AU.eqr_ ?_) | refine AU.eqi_ ?_) | ((with_reducible show rEq (V.str _) (V.str _) _ _); (with_reducible refine AU.eqs_ ?_)) | ((with_reducible show rNe (V.int _) (V.int _) _ _); refine AU.nei_ ?_) | ((with_reducible show rEq _ _ _ _); refine AU.eq_ rfl ?_) | ((with_reducible show rNe _ _ _ _); refine AU.ne_ rfl ?_) | ((with_reducible show tTest _ _ _ _); refine AU.test_ ?_) | ((with_reducible show tB _ _ _ _); refine AU.b_ ?_) | ((with_reducible show tAnd _ _ _ _ _); refine AU.and_ ?_) | ((with_reducible show tOr _ _ _ _ _); refine AU.or_ ?_) | ((with_reducible show tNot _ _ _ _); refine AU.not_ ?_) | ((with_reducible show tAndV _ _ _ _ _); refine AU.andV_ ?_) | ((with_reducible show tOrV _ _ _ _ _); refine AU.orV_ ?_) | ((with_reducible show tNotV _ _ _ _); refine AU.notV_ ?_) | ((with_reducible show tIf _ _ _ _ _ _); refine AU.if_ ?_) | ((with_reducible show tNil _ _ _); refine AU.nil_ ?_) | ((with_reducible show tCons _ _ _ _ _); refine AU.cons_ ?_) | ((with_reducible show tLst _ _ _ _); refine AU.lst_ ?_) | ((with_reducible show tTup _ _ _ _); refine AU.tup_ ?_) | ((with_reducible show tCall _ _ _ _ _ _ _); refine AU.call_ ?_) | ((with_reducible show tCallS _ _ _ _ _ _); refine AU.callS_ ?_) | ((with_reducible show tCB _ _ _ _ _); refine AU.cb_ ?_) | ((with_reducible show tBM _ _ _ _ _ _ _ _); refine AU.bm_ ?_) | ((with_reducible show rIxL _ _ _ _ _); refine AU.ixL_ (by walk_at "sl") (by first | assumption | rfl) ?_) | ((with_reducible show rIxT _ _ _ _ _); refine AU.ixT_ (by walk_at "tl") (by first | assumption | rfl) ?_) | ((with_reducible show Evl.rLenS _ _ _ _); first | refine AU.lenL_ (by walk_at "sl") ?_ | refine AU.lenT_ (by walk_at "tl") ?_) | ((with_reducible show rAppend (V.ref _) [_] _ _); refine AU.app_ (by walk_at "hl") (by walk_at "ll") ?_) | ((with_reducible show tyV _ _ (V.ref _) _ ∧ _); refine AU.tyl_ (by walk_at "sl") ?_) | ((with_reducible show rCat (V.ref _) (V.ref _) _ _); refine AU.cat_ (by walk_at "hl") (by walk_at "hl") (by walk_at "le") ?_) | ((with_reducible show tFor _ _ _ _ _ _); refine AU.for_ ?_) | ((with_reducible show tLc _ _ _ _ _ _ _ _); refine AU.lc_ ?_) | ((with_reducible show iRng1 _ _ _ _); refine AU.rng1_ ?_) | ((with_reducible show iList _ _ _ _ _); refine AU.list_ ?_) | ((with_reducible show iTup _ _ _ _ _); refine AU.itup_ ?_) | ((with_reducible show (∃ i, [V.bl _] = [V.int i] ∧ _) ∨ _); refine AU.intb_ ?_) | ((with_reducible show (∃ i, [V.int _] = [V.int i] ∧ _) ∨ _); refine AU.inti_ ?_) | ((with_reducible show tYes _ _ _); refine AU.yes_ ?_) | ((with_reducible show ∃ p ys, [V.ref _] = [V.ref p] ∧ (SqL _ _ p ys ∨ SqT _ _ p ys) ∧ _); first | refine AU.listof_ (by walk_at "sl") ?_ | refine AU.listofT_ (by walk_at "tl") ?_) | ((with_reducible show ∃ p ys, [V.ref _] = [V.ref p] ∧ ((SqL _ _ p ys ∧ _) ∨ (SqT _ _ p ys ∧ _))); first | refine AU.tupleof_ (by walk_at "sl") ?_ | refine AU.tupleofT_ (by walk_at "tl") ?_) | ((with_reducible show V.non = V.non ∧ _); refine ⟨rfl, ?_⟩) | ((with_reducible show OT.rIsX _ _ _ _ [V.ref _, _] _ _); refine OT.isX_ (by walk_at "hh") (by first | exact .own _ | exact .ty _) (by assumption) ?_) | ((with_reducible show OT.tFA _ _ _ _ _ _ _ _ _); refine OT.fA_ ?_) | ((with_reducible show OT.tCallE _ _ _ _ _ _ _ _); refine OT.callE_ ?_) | ((with_reducible show rIsi _ [_, _] _ _); refine OT.isi_ (by first | exact .own _ | exact .ty _) (by walk_at "tyx") (by first | assumption | exact kit_ty OT.kq_int_int | exact kit_ty OT.kq_int_bool | exact kit_ty OT.kq_bool_bool | exact kit_ty OT.kq_bool_int | exact kit_ty OT.kq_str_str | exact kit_ty OT.kq_tuple_tuple | exact kit_ty OT.kq_list_list | exact kit_ty OT.kq_list_tuple | exact kit_ty OT.kq_tuple_list | exact kit_ty OT.kq_list_int | exact kit_ty OT.kq_tuple_int | exact kit_ty OT.kq_list_bool | exact kit_ty OT.kq_tuple_bool | exact kit_ty OT.kq_str_int | exact kit_ty OT.kq_int_str | exact kit_ty OT.kq_int_list | exact kit_ty OT.kq_int_tuple | exact kit_ty OT.kq_bool_list | exact kit_ty OT.kq_bool_tuple) ?_) | ((with_reducible show ∃ k, V.bl _ = V.bl k ∧ _); refine AU.bool_ ?_) | ((with_reducible show tSl _ _ _ _ _ _ _); refine AU.sl_ ?_) | ((with_reducible show tNoPart _ _ _); refine AU.npart_ ?_) | ((with_reducible show tPart _ _ _ _); refine AU.part_ ?_) | ((with_reducible show ∃ k, V.int _ = V.int k ∧ rSlL _ _ _ (some k) _ _); refine AU.int1_ ?_) | ((with_reducible show rSlL _ (V.ref _) _ _ _ _); refine AU.slL_ (by walk_at "sl") ?_) | ((with_reducible refine AU.trueT ?_)) | ((with_reducible refine AU.refNon ?_)) | ((with_reducible refine AU.nonNon ?_)) | ((with_reducible refine AU.trueN ?_)) | ((with_reducible refine AU.falseN ?_)) | ((with_reducible refine AU.falseF ?_)) | fail)
local macro_rules | `(tactic| walk_at "st") => `(tactic| repeat walk_at "st1")
theorem wL_c {n C : Nat} {e : Ent} : ∀ {ess : List (List Ent)} {i : Nat}, (∀ es ∈ ess, DimN 1 es ∧ ∀ e ∈ es, ∀ x ∈ e.1, x.natAbs ≤ C) → e ∈ wL n i ess → ∀ x ∈ e.1, x.natAbs ≤ n * C + (i + ess.length)
  | [], i, _, h => by cases h
  | f :: r, i, hg, h => fun x hx => by
    rw [List.length_cons]
    rcases List.mem_append.mp h with h | h
    · obtain ⟨g, hgm, rfl⟩ := List.mem_map.mp h
      obtain ⟨y, hy⟩ := pl_one ((hg f List.mem_cons_self).1 g hgm)
      have hc := (hg f List.mem_cons_self).2 g hgm y (by rw [hy]; exact List.mem_cons_self)
      have hx2 : x ∈ [(n : Int) * g.1.headD 0 + (i : Int)] := hx
      rw [List.mem_singleton.mp hx2, hy]
      show ((n : Int) * y + (i : Int)).natAbs ≤ _
      have h1 : ((n : Int) * y).natAbs ≤ n * C := by rw [Int.natAbs_mul, Int.natAbs_natCast]; exact Nat.mul_le_mul_left _ hc
      omega
    · have := wL_c (ess := r) (fun es he => hg es (List.mem_cons_of_mem _ he)) h x hx
      omega
theorem wL_u {n : Nat} {R : Int → Prop} {e : Ent} : ∀ {ess : List (List Ent)} {i : Nat}, (∀ es ∈ ess, ∀ e ∈ es, R e.2) → e ∈ wL n i ess → R e.2
  | [], i, _, h => by cases h
  | f :: r, i, hg, h => by
    rcases List.mem_append.mp h with h | h
    · obtain ⟨g, hgm, rfl⟩ := List.mem_map.mp h
      exact hg f List.mem_cons_self g hgm
    · exact wL_u (ess := r) (fun es he => hg es (List.mem_cons_of_mem _ he)) h
theorem wd24 {n : Nat} (h : n ≤ 8) : n * wdN n ≤ 24 := by
  unfold wdN
  split
  · omega
  · omega
theorem LRow.scale {w C u k : Nat} {es : List Ent} {m : Int} {r : List Ent} (h : LRow w C u es) (hm : m.natAbs ≤ k) (hr : RowIs r (scaleL es m)) : LRow w C (w * (u * k)) r := by
  have hmem : ∀ e ∈ r, ∃ g ∈ es, g.1 = e.1 := fun e he => by
    obtain ⟨x, hx, ex⟩ := hr.mem he
    obtain ⟨g, hg, rfl⟩ := List.mem_map.mp hx
    exact ⟨g, hg, ex⟩
  have hl : (scaleL es m).length = es.length := List.length_map _
  have hz := h.z
  refine ⟨hr.v, fun e he => ?_, by have := hr.len; omega, fun e he x hx => ?_, fun e he => ?_⟩
  · obtain ⟨g, hg, e1⟩ := hmem e he
    rw [← e1]
    exact h.d g hg
  · obtain ⟨g, hg, e1⟩ := hmem e he
    rw [← e1] at hx
    exact h.c g hg x hx
  · refine Nat.le_trans (hr.bound (m := u * k) (fun y hy => ?_) e he) (Nat.mul_le_mul_right _ (by omega))
    obtain ⟨g, hg, rfl⟩ := List.mem_map.mp hy
    show (g.2 * m).natAbs ≤ u * k
    rw [Int.natAbs_mul]
    exact Nat.mul_le_mul (h.u g hg) hm
theorem mirL_dim {n : Nat} {es : List Ent} (h : DimN n es) : DimN n (mirL es) := fun e he => by
  obtain ⟨g, hg, rfl⟩ := List.mem_map.mp he
  exact (negP_len g.1).trans (h g hg)
theorem cross_dim {n : Nat} {a b : List Ent} (h : DimN n a) (k : DimN n b) : DimN n (crossL a b) := DimN.times h (mirL_dim k)
theorem cross_len (a b : List Ent) : (crossL a b).length = a.length * b.length := by
  unfold crossL
  rw [timesL_len]
  exact congrArg _ (List.length_map _)
theorem LRow.more {w C u v : Nat} {es : List Ent} (h : LRow w C u es) (l : u ≤ v) : LRow w C v es := ⟨h.v, h.d, h.z, h.c, fun e he => Nat.le_trans (h.u e he) l⟩
section
variable {P : Program} {w : World} {K : PySem.W.Frag} {mg : Str → Option Value} {base : Heap}
def spLaw (K : PySem.W.Frag) : Sp := fun vs H Q _ => ∃ (a : Addr) (ns : List Int), vs = [.ref a] ∧ SqL K H a (ns.map V.int) ∧ ns.length ≤ 63 ∧ ∀ H', Q (.bl true) H'
def cntL : List Nat := [1, 1, 2, 2, 2, 2, 3, 3, 3, 3, 4, 4, 5, 6, 7, 8]
theorem cnt_at {j : Nat} (h : j < 16) : ∃ n : Nat, 1 ≤ n ∧ n ≤ 8 ∧ (cntL.map fun n : Nat => V.int n)[j]? = some (.int (n : Int)) := by
  have hl : j < cntL.length := h
  have hm : ∀ x ∈ cntL, 1 ≤ x ∧ x ≤ 8 := by decide
  obtain ⟨h1, h2⟩ := hm _ (List.getElem_mem hl)
  refine ⟨cntL[j], h1, h2, ?_⟩
  rw [List.getElem?_map, List.getElem?_eq_getElem hl]
  rfl
theorem c_law {f : Addr} {fd : FuncData} (D : C8.Def K mg "law" s_law f fd) (b : Binds K fd ["_law_script"] []) (T : Bi mg) (c__law_cell : C8.Cal P w K mg base 1 "_law_cell" (spCell K) []) (c__law_draws : C8.Cal P w K mg base 1 "_law_draws" (spDraws K) []) (c__law_rows : C8.Cal P w K mg base 4 "_law_rows" (spRows K) []) (c__law_scaled : C8.Cal P w K mg base 2 "_law_scaled" spScaled [])
    (c__law_copies : C8.Cal P w K mg base 1 "_law_copies" spCopies []) (c__law_whole : C8.Cal P w K mg base 2 "_law_whole" spWhole []) (c__law_uncombs : C8.Cal P w K mg base 7 "_law_uncombs" spUncs []) (c__law_combs : C8.Cal P w K mg base 7 "_law_combs" spCombs []) (c__law_tables : C8.Cal P w K mg base 4 "_law_tables" spTables []) (c__law_sum : C8.Cal P w K mg base 3 "_law_sum" (spSum K) [])
    (c_own_table : C8.Cal P w K mg base 7 "own_table" (spOwT K) []) (c__law_same : C8.Cal P w K mg base 4 "_law_same" (spSame K) []) (c__law_tables_told : C8.Cal P w K mg base 8 "_law_tables_told" (spTold K) []) (c__law_line : C8.Cal P w K mg base 2 "_law_line" spLine []) (c__law_combed : C8.Cal P w K mg base 1 "_law_combed" spCombed []) (c__law_doors : C8.Cal P w K mg base 10 "_law_doors" (spDoors K) []) : FnOk P w K mg base L2.CX0 11 f fd ["_law_script"] (spLaw K) := by
  refine C8.fn0 D.fn sc_law (fun vs H Q E h => ?_) (fun cdv A outer s H vs Q E hr h => ?_)
  · obtain ⟨a, ns, rfl, _⟩ := h
    rfl
  · obtain ⟨a, ns, rfl, hS, hl, q⟩ := h
    refine ⟨_, (pss_cons (ps_set (i := 1) sc_law.nd rfl (Or.inl rfl) (C8.pe_c c__law_draws hr (by decide) (by rfl) (pa_cons (C8.pe_c c__law_cell hr (by decide) (by rfl) (pa_cons (pv 0) (pa_cons pe_int pa_nil))) (pa_cons (pe_lst (pa_cons pe_int (pa_cons pe_int (pa_cons pe_int (pa_cons pe_int (pa_cons pe_int (pa_cons pe_int (pa_cons pe_int (pa_cons pe_int (pa_cons pe_int (pa_cons pe_int (pa_cons pe_int (pa_cons pe_int pa_nil))))))))))))) pa_nil))))
  (pss_cons (ps_set (i := 2) sc_law.nd rfl (Or.inl rfl) (pe_ix ix_list (pe_lst (pa_cons pe_int (pa_cons pe_int (pa_cons pe_int (pa_cons pe_int (pa_cons pe_int (pa_cons pe_int (pa_cons pe_int (pa_cons pe_int (pa_cons pe_int (pa_cons pe_int (pa_cons pe_int (pa_cons pe_int (pa_cons pe_int (pa_cons pe_int (pa_cons pe_int (pa_cons pe_int pa_nil))))))))))))))))) (pe_ix ix_list (pv 1) pe_int (fun _ _ => rfl)) (fun _ _ => rfl)))
  (pss_cons (ps_set (i := 3) sc_law.nd rfl (Or.inl rfl) (C8.pe_c c__law_rows hr (by decide) (by rfl) (pa_cons (pv 0) (pa_cons (pv 2) (pa_cons (pe_op op_mul (pe_callTy call_int1 (by rfl) T.n_int OT.b_int (pa_cons (pe_cmpR op_eq (pe_ix ix_list (pv 1) pe_int (fun _ _ => rfl)) pe_int (nomark _)) pa_nil)) (pe_op op_sub (pe_ix ix_list (pv 1) pe_int (fun _ _ => rfl)) pe_int)) pa_nil)))))
  (pss_cons (ps_set (i := 4) sc_law.nd rfl (Or.inl rfl) (pe_op op_mod (pe_callTy call_int1 (by rfl) T.n_int OT.b_int (pa_cons (pe_ix ix_list (pv 1) pe_int (fun _ _ => rfl)) pa_nil)) (pv 2)))
  (pss_cons (ps_set (i := 5) sc_law.nd rfl (Or.inl rfl) (pe_op op_mod (pe_callTy call_int1 (by rfl) T.n_int OT.b_int (pa_cons (pe_ix ix_list (pv 1) pe_int (fun _ _ => rfl)) pa_nil)) (pv 2)))
  (C8.pss_cut (ps_if (pt_cmpR op_eq (pe_ix ix_list (pv 1) pe_int (fun _ _ => rfl)) pe_int (nomark _)) (pss_one (ps_asg (C8.pe_c c__law_scaled hr (by decide) (by rfl) (pa_cons (pe_ix ix_list (pv 3) (pv 4) (fun _ _ => rfl)) (pa_cons (pe_op op_add pe_int (pe_ix ix_list (C8.pe_c c__law_draws hr (by decide) (by rfl) (pa_cons (C8.pe_c c__law_cell hr (by decide) (by rfl) (pa_cons (pv 0) (pa_cons pe_int pa_nil))) (pa_cons (pe_lst (pa_cons (pe_op op_pow pe_int pe_int) pa_nil)) pa_nil))) pe_int (fun _ _ => rfl))) pa_nil))) (pg_sub (pv 3) (pv 4) set_list))) pss_nil)
  (pss_cons (ps_set (i := 6) sc_law.nd rfl (Or.inl rfl) (C8.pe_c c__law_copies hr (by decide) (by rfl) (pa_cons (pv 3) pa_nil)))
  (C8.pss_cut (ps_if (pt_cmpR op_eq (pe_ix ix_list (pv 1) pe_int (fun _ _ => rfl)) pe_int (nomark _)) (pss_cons (ps_asg (pe_ix ix_list (pv 3) (pv 4) (fun _ _ => rfl)) (pg_sub (pv 3) (pv 5) set_list))
  (pss_one (ps_asg (pe_ix ix_list (pv 6) (pv 4) (fun _ _ => rfl)) (pg_sub (pv 6) (pv 5) set_list)))) pss_nil)
  (pss_cons (ps_set (i := 7) sc_law.nd rfl (Or.inl rfl) (C8.pe_c c__law_whole hr (by decide) (by rfl) (pa_cons (pv 3) pa_nil)))
  (pss_cons (ps_if (PW.pt (pw_or (pt_not (pt_val (C8.pe_c c__law_uncombs hr (by decide) (by rfl) (pa_cons (pv 3) (pa_cons (pv 6) (pa_cons (pv 7) pa_nil)))))) (pw_or1 (pt_not (pt_val (C8.pe_c c__law_combs hr (by decide) (by rfl) (pa_cons (pv 7) (pa_cons (pv 3) pa_nil)))))))) (pss_one (ps_ret pe_bl)) pss_nil)
  (pss_cons (ps_set (i := 8) sc_law.nd rfl (Or.inr rfl) (C8.pe_c c__law_tables hr (by decide) (by rfl) (pa_cons (pv 3) pa_nil)))
  (pss_cons (ps_setLc (i := 9) (own := [("_law_r", 13)]) (g := (gName 13)) (tt := tYes) rfl sc_law.nd rfl rfl (sw_true rfl rfl rfl rfl) (pi_range1 rfl T.n_range (pa_cons (pv 2) pa_nil)) (blkOk_by (N := ["_law_script", "_law_head", "_law_count", "_law_rows_here", "_law_one", "_law_other", "_law_given", "_law_whole_here", "_law_tables_here", "_law_sums", "_law_own", "_law_line_here", "_law_parts", "_law_r"]) (sc := C8.fnScope s_law) (by decide +kernel)) (fun _ _ _ _ _ => (pg_name (i := 13) sc_law.nd rfl (Or.inl rfl))) (fun _ _ _ _ _ => pts_nil) (fun _ _ _ _ _ => (C8.pe_c c__law_sum hr (by decide) (by rfl) (pa_cons (pv 8) (pa_cons (pv 13) pa_nil)))))
  (pss_cons (ps_set (i := 10) sc_law.nd rfl (Or.inl rfl) (C8.pe_c c_own_table hr (by decide) (by rfl) (pa_cons (pe_callTy call_list_of (by rfl) T.n_list OT.b_list (pa_cons (pv 7) pa_nil)) pa_nil)))
  (pss_cons (ps_if (PW.pt (pw_or (pt_not (pt_val (C8.pe_c c__law_same hr (by decide) (by rfl) (pa_cons (pv 10) (pa_cons (C8.pe_c c__law_whole hr (by decide) (by rfl) (pa_cons (pv 9) pa_nil)) pa_nil))))) (pw_or1 (pt_not (pt_val (C8.pe_c c__law_combs hr (by decide) (by rfl) (pa_cons (pv 10) (pa_cons (pv 9) pa_nil)))))))) (pss_one (ps_ret pe_bl)) pss_nil)
  (C8.pss_cut (ps_if (PW.pt (pw_and (pt_cmpR op_le (pv 2) pe_int (nomark _)) (pw_and1 (pt_not (pt_val (C8.pe_c c__law_tables_told hr (by decide) (by rfl) (pa_cons (pv 3) (pa_cons (pv 6) (pa_cons (pv 8) pa_nil))))))))) (pss_one (ps_ret pe_bl)) pss_nil)
  (pss_cons (ps_set (i := 11) sc_law.nd rfl (Or.inl rfl) (C8.pe_c c__law_line hr (by decide) (by rfl) (pa_cons (C8.pe_c c__law_cell hr (by decide) (by rfl) (pa_cons (pv 0) (pa_cons pe_int pa_nil))) (pa_cons (pe_ix ix_list (pe_lst (pa_cons pe_int (pa_cons pe_int pa_nil))) (pe_ix ix_list (pv 1) pe_int (fun _ _ => rfl)) (fun _ _ => rfl)) pa_nil))))
  (pss_cons (ps_set (i := 12) sc_law.nd rfl (Or.inl rfl) (C8.pe_c c__law_combed hr (by decide) (by rfl) (pa_cons (pv 11) (pa_cons (pe_op op_add pe_int (pe_ix ix_list (pv 1) pe_int (fun _ _ => rfl))) pa_nil))))
  (pss_cons (ps_if (PW.pt (pw_or (pt_not (pt_val (C8.pe_c c__law_combs hr (by decide) (by rfl) (pa_cons (pv 11) (pa_cons (pv 12) pa_nil))))) (pw_or1 (pt_not (pt_val (C8.pe_c c__law_uncombs hr (by decide) (by rfl) (pa_cons (pv 12) (pa_cons (C8.pe_c c__law_copies hr (by decide) (by rfl) (pa_cons (pv 12) pa_nil)) (pa_cons (pv 11) pa_nil))))))))) (pss_one (ps_ret pe_bl)) pss_nil)
  (pss_one (ps_ret (pe_or (pe_cmpR op_ne (pe_ix ix_list (pv 1) pe_int (fun _ _ => rfl)) pe_int (nomark _)) (pe_one (C8.pe_c c__law_doors hr (by decide) (by rfl) (pa_cons (pv 0) (pa_cons (pv 3) (pa_cons (pe_lst (pa_cons (pe_ix ix_list (pv 1) pe_int (fun _ _ => rfl)) (pa_cons (pe_ix ix_list (pv 1) pe_int (fun _ _ => rfl)) (pa_cons (pe_ix ix_list (pv 1) pe_int (fun _ _ => rfl)) pa_nil)))) pa_nil)))))))))))))))))))))))))), ?_⟩
    walk_at "st"
    refine ⟨a, ns, 0, rfl, hS, by decide, fun c0 => ?_⟩
    walk_at "st"
    refine ⟨by show 12 ≤ sizeLine; decide, fun lz nlz => ?_⟩
    have s1 : Same H (upd H lz (.lst ([16, 8, 221, 6, 8, 8, 8, 8, 2, 8, 2, 8].map V.int))) := same_upd nlz
    have hlz : (upd H lz (.lst ([16, 8, 221, 6, 8, 8, 8, 8, 2, 8, 2, 8].map V.int))) lz = some (.lst ([16, 8, 221, 6, 8, 8, 8, 8, 2, 8, 2, 8].map V.int)) := upd_same
    change tNil _ (upd H lz (.lst ([16, 8, 221, 6, 8, 8, 8, 8, 2, 8, 2, 8].map V.int))) _
    generalize upd H lz (.lst ([16, 8, 221, 6, 8, 8, 8, 8, 2, 8, 2, 8].map V.int)) = H1 at s1 hlz ⊢
    walk_at "st"
    refine ⟨lz, _, c0, rfl, AU.sqL hlz, by decide, by decide, fun ds H2 hd hin s2 nhd hhd => ?_⟩
    obtain ⟨h0, h1, h2, h3, h4, h5, h6, h7, h8, h9, h10, h11, rfl⟩ : ∃ h0 h1 h2 h3 h4 h5 h6 h7 h8 h9 h10 h11, ds = [h0, h1, h2, h3, h4, h5, h6, h7, h8, h9, h10, h11] := by
      have hln := hin.1
      match ds, hln with
      | [h0, h1, h2, h3, h4, h5, h6, h7, h8, h9, h10, h11], _ => exact ⟨_, _, _, _, _, _, _, _, _, _, _, _, rfl⟩
    obtain ⟨a0, b0⟩ := hin.2 0 h0 16 rfl rfl
    obtain ⟨a1, b1⟩ := hin.2 1 h1 8 rfl rfl
    obtain ⟨a2, b2⟩ := hin.2 2 h2 221 rfl rfl
    obtain ⟨a4, b4⟩ := hin.2 4 h4 8 rfl rfl
    obtain ⟨a5, b5⟩ := hin.2 5 h5 8 rfl rfl
    obtain ⟨a8, b8⟩ := hin.2 8 h8 2 rfl rfl
    obtain ⟨a9, b9⟩ := hin.2 9 h9 8 rfl rfl
    obtain ⟨a10, b10⟩ := hin.2 10 h10 2 rfl rfl
    obtain ⟨a11, b11⟩ := hin.2 11 h11 8 rfl rfl
    have i0 : atI ([h0, h1, h2, h3, h4, h5, h6, h7, h8, h9, h10, h11].map V.int) 0 = some (.int h0) := AU.atN (j := 0) rfl rfl
    have i1 : atI ([h0, h1, h2, h3, h4, h5, h6, h7, h8, h9, h10, h11].map V.int) 1 = some (.int h1) := AU.atN (j := 1) rfl rfl
    have i2 : atI ([h0, h1, h2, h3, h4, h5, h6, h7, h8, h9, h10, h11].map V.int) 2 = some (.int h2) := AU.atN (j := 2) rfl rfl
    have i3 : atI ([h0, h1, h2, h3, h4, h5, h6, h7, h8, h9, h10, h11].map V.int) 3 = some (.int h3) := AU.atN (j := 3) rfl rfl
    have i4 : atI ([h0, h1, h2, h3, h4, h5, h6, h7, h8, h9, h10, h11].map V.int) 4 = some (.int h4) := AU.atN (j := 4) rfl rfl
    have i5 : atI ([h0, h1, h2, h3, h4, h5, h6, h7, h8, h9, h10, h11].map V.int) 5 = some (.int h5) := AU.atN (j := 5) rfl rfl
    have i6 : atI ([h0, h1, h2, h3, h4, h5, h6, h7, h8, h9, h10, h11].map V.int) 6 = some (.int h6) := AU.atN (j := 6) rfl rfl
    have i7 : atI ([h0, h1, h2, h3, h4, h5, h6, h7, h8, h9, h10, h11].map V.int) 7 = some (.int h7) := AU.atN (j := 7) rfl rfl
    have i8 : atI ([h0, h1, h2, h3, h4, h5, h6, h7, h8, h9, h10, h11].map V.int) 8 = some (.int h8) := AU.atN (j := 8) rfl rfl
    have i9 : atI ([h0, h1, h2, h3, h4, h5, h6, h7, h8, h9, h10, h11].map V.int) 9 = some (.int h9) := AU.atN (j := 9) rfl rfl
    have i10 : atI ([h0, h1, h2, h3, h4, h5, h6, h7, h8, h9, h10, h11].map V.int) 10 = some (.int h10) := AU.atN (j := 10) rfl rfl
    have i11 : atI ([h0, h1, h2, h3, h4, h5, h6, h7, h8, h9, h10, h11].map V.int) 11 = some (.int h11) := AU.atN (j := 11) rfl rfl
    generalize [h0, h1, h2, h3, h4, h5, h6, h7, h8, h9, h10, h11].map V.int = hs at hhd i0 i1 i2 i3 i4 i5 i6 i7 i8 i9 i10 i11
    have hS2 := (s1.trans s2).seq hS
    clear s1 s2 hlz nlz hin nhd
    walk_at "st"
    refine ⟨by show 16 ≤ sizeLine; decide, fun lc nlc => ?_⟩
    change tOp _ _ _ _ (upd H2 lc (.lst (cntL.map fun n : Nat => V.int n))) _
    have s3 : Same H2 (upd H2 lc (.lst (cntL.map fun n : Nat => V.int n))) := same_upd nlc
    have hlc : (upd H2 lc (.lst (cntL.map fun n : Nat => V.int n))) lc = some (.lst (cntL.map fun n : Nat => V.int n)) := upd_same
    generalize upd H2 lc (.lst (cntL.map fun n : Nat => V.int n)) = H3 at s3 hlc ⊢
    obtain ⟨j0, hj0⟩ : ∃ j0 : Nat, h0 = (j0 : Int) := ⟨h0.toNat, by omega⟩
    obtain ⟨n, hn1, hn8, hcn⟩ := cnt_at (show j0 < 16 by omega)
    have atc : atI (cntL.map fun n : Nat => V.int n) h0 = some (.int (n : Int)) := AU.atN (j := j0) hj0 hcn
    walk_at "st"
    have hst : ((if decide (h1 = 0) = true then (1 : Int) else 0) * (h2 - 110)).natAbs ≤ 200 := by
      split
      · omega
      · omega
    generalize (if decide (h1 = 0) = true then (1 : Int) else 0) * (h2 - 110) = st at hst ⊢
    have hS3 := s3.seq hS2
    have hh3 := s3 _ _ hhd
    clear s3 hlc nlc hhd
    refine ⟨a, ns, n, st, rfl, hS3, hn1, hn8, hst, fun p as ess H4 hF hel hrows => ?_⟩
    have hS4 := hF.s.seq hS3
    have hh4 := hF.s _ _ hh3
    obtain ⟨x1, hx1⟩ : ∃ x1 : Nat, h4 % (n : Int) = (x1 : Int) := ⟨(h4 % (n : Int)).toNat, by have := Int.emod_nonneg h4 (show (n : Int) ≠ 0 by omega); omega⟩
    have hx1n : x1 < n := by have := Int.emod_lt_of_pos h4 (show (0 : Int) < (n : Int) by omega); omega
    obtain ⟨x2, hx2⟩ : ∃ x2 : Nat, h5 % (n : Int) = (x2 : Int) := ⟨(h5 % (n : Int)).toNat, by have := Int.emod_nonneg h5 (show (n : Int) ≠ 0 by omega); omega⟩
    have hx2n : x2 < n := by have := Int.emod_lt_of_pos h5 (show (0 : Int) < (n : Int) by omega); omega
    walk_at "st"
    rw [hx1]
    walk_at "st"
    rw [hx2]
    walk_at "st"
    refine ⟨fun σ' H' => ∃ (us : List V) (ess : List (List Ent)), σ' = [some (.ref a), some (.ref hd), some (.int (n : Int)), some (.ref p), some (.int (x1 : Int)), some (.int (x2 : Int)), none, none, none, none, none, none, none, none] ∧ Same H3 H' ∧ H' p = some (.lst us) ∧ RowsAt H' us ess ∧ us.length = n ∧ V.ref p ∉ us ∧ ∀ es ∈ ess, LRow (wdN n) 1000 (10 ^ 12) es, ?_, ?_⟩
    · have hp4 := hF.hp
      have hR4 := hF.at_rows
      have hal := hF.l
      have hpn : V.ref p ∉ as.map V.ref := fun z => by
        obtain ⟨x, hx, e⟩ := List.mem_map.mp z
        exact hF.pn (by rw [← V.ref.inj e]; exact hx)
      walk_at "st"
      refine iteD (fun z => ?_) (fun z => ?_)
      · obtain ⟨r, xs, e1, e2, e3⟩ := hR4.at_ (show x1 < ess.length by omega)
        have atr : atI (as.map V.ref) (x1 : Int) = some (.ref r) := AU.atN (j := x1) rfl e1
        have hg := hrows _ (List.getElem_mem (show x1 < ess.length by omega))
        generalize ess[x1]'(by omega) = es at e3 hg
        walk_at "st"
        refine ⟨a, ns, 10, rfl, hS4, by decide, fun c10 => ?_⟩
        walk_at "st"
        refine AU.i_ (by exact ⟨by decide, by decide, by decide⟩) ?_
        walk_at "st"
        refine ⟨by walk_at "sz", fun l5 nl5 => ?_⟩; generalize eH5 : upd _ l5 _ = H5; have s5 := AU.newS nl5 eH5; have hl5 := AU.newH eH5; clear eH5
        walk_at "st"
        refine ⟨l5, [1000000000], c10, rfl, AU.sqL hl5, by decide, by decide, fun ds6 H6 hd6 hin6 s6 nd6 hhd6 => ?_⟩
        obtain ⟨v, rfl⟩ : ∃ v, ds6 = [v] := by
          have hln := hin6.1
          match ds6, hln with
          | [v], _ => exact ⟨_, rfl⟩
        obtain ⟨av, bv⟩ := hin6.2 0 v 1000000000 rfl rfl
        have atv : atI ([v].map V.int) 0 = some (.int v) := AU.atN (j := 0) rfl rfl
        walk_at "st"
        have s46 := s5.trans s6
        have hg64 : (2 : Int) ^ 64 = 18446744073709551616 := by decide
        refine ⟨r, xs, es, 1 + v, rfl, ⟨s46 _ _ e2, e3.mono s46, by have := hg.z; have := wd24 hn8; have : wdN n ≤ 4 := (by unfold wdN; split <;> omega); omega, fun e he z => by have := hg.d e he; rw [z] at this; cases this⟩, ⟨by omega, by omega⟩, fun rr q7 ws7 H7 hrr s7 nq7 hq7 hE7 => ?_⟩
        have s47 := s46.trans s7
        have hp7 := s47 _ _ hp4
        have qp : V.ref q7 ≠ V.ref p := fun z => by
          rw [V.ref.inj z] at nq7
          rw [s46 _ _ hp4] at nq7
          cases nq7
        have hR7 := (((hR4.mono s47).set2 hq7 hE7 x1).upd2 (l' := (as.map V.ref).set x1 (.ref q7)) hp7 fun z => by
          rcases List.mem_or_eq_of_mem_set z with z | z
          · exact hpn z
          · exact qp z.symm)
        have hrl := hg.scale (k := 1000000000) (m := 1 + v) (by omega) hrr
        walk_at "st"
        refine gsub_ ?_
        walk_at "st"
        refine setL_ hp7 (j := x1) (ixN_nat2 rfl (by rw [List.length_map]; omega)) ?_
        refine ⟨_, _, rfl, AU.mutS (hF.s.trans s47) hF.np, upd_same, hR7, by rw [List.length_set, List.length_map]; omega, fun z => ?_, fun es he => ?_⟩
        · rcases List.mem_or_eq_of_mem_set z with z | z
          · exact hpn z
          · exact qp z.symm
        · rcases List.mem_or_eq_of_mem_set he with he | rfl
          · exact (hrows es he).more (by decide)
          · refine hrl.more ?_
            have : wdN n ≤ 4 := by unfold wdN; split <;> omega
            exact Nat.le_trans (Nat.mul_le_mul_right _ this) (by decide)
      · walk_at "st"
        exact ⟨_, ess, rfl, hF.s, hp4, hR4, by rw [List.length_map]; omega, hpn, fun es he => (hrows es he).more (by decide)⟩
    rintro σ' H5 ⟨us, ess, rfl, s5, hp5, hR5, hul, hpu, hg5⟩
    clear hrows hS4 hh4
    have hS5 := s5.seq hS3
    have hh5 := s5 _ _ hh3
    walk_at "st"
    have hel5 : ess.length = n := by rw [← hR5.len]; exact hul
    refine ⟨p, us, ess, rfl, hp5, hR5, by omega, fun gp gas H6 hF6 => ?_⟩
    have s6 := hF6.s
    have hh6 := s6 _ _ hh5
    have hp6 := s6 _ _ hp5
    have hgp6 := hF6.hp
    have hR6 := hR5.mono s6
    have hG6 := hF6.at_rows
    have hgl := hF6.l
    have pg : p ≠ gp := ne_of_none hp5 hF6.np
    have hpg : V.ref p ∉ gas.map V.ref := fun z => by
      obtain ⟨x, hx, e⟩ := List.mem_map.mp z
      have := hF6.na x hx
      rw [V.ref.inj e, hp5] at this
      cases this
    have hgu : V.ref gp ∉ us := fun z => by
      obtain ⟨i, hi⟩ := List.getElem?_of_mem z
      obtain ⟨_, _, _, e, _, h2, _⟩ := hR5.get hi
      rw [← V.ref.inj e, hF6.np] at h2
      cases h2
    have hgg : V.ref gp ∉ gas.map V.ref := fun z => by
      obtain ⟨x, hx, e⟩ := List.mem_map.mp z
      exact hF6.pn (by rw [← V.ref.inj e]; exact hx)
    walk_at "st"
    refine ⟨fun σ' H' => ∃ (us gs : List V) (ess : List (List Ent)), σ' = [some (.ref a), some (.ref hd), some (.int (n : Int)), some (.ref p), some (.int (x1 : Int)), some (.int (x2 : Int)), some (.ref gp), none, none, none, none, none, none, none] ∧ Same H3 H' ∧ H' p = some (.lst us) ∧ RowsAt H' us ess ∧ H' gp = some (.lst gs) ∧ RowsAt H' gs ess ∧ ess.length = n ∧ ∀ es ∈ ess, LRow (wdN n) 1000 (10 ^ 12) es, ?_, ?_⟩
    · walk_at "st"
      refine iteD (fun z => ?_) (fun z => ?_)
      · obtain ⟨r, xs, e1, e2, e3⟩ := hR6.at_ (show x1 < ess.length by omega)
        obtain ⟨r', xs', e1', e2', e3'⟩ := hG6.at_ (show x1 < ess.length by omega)
        have atr : atI us (x1 : Int) = some (.ref r) := AU.atN (j := x1) rfl e1
        have atr' : atI (gas.map V.ref) (x1 : Int) = some (.ref r') := AU.atN (j := x1) rfl e1'
        have hg := hg5 _ (List.getElem_mem (show x1 < ess.length by omega))
        have rm := List.mem_of_getElem? e1
        have rm' := List.mem_of_getElem? e1'
        generalize ess[x1]'(by omega) = es at e3 e3' hg
        have gs2 : V.ref gp ∉ us.set x2 (.ref r) := fun z => by
          rcases List.mem_or_eq_of_mem_set z with z | z
          · exact hgu z
          · exact hgu (by rw [z]; exact rm)
        have h1 := (hR6.set2 e2 e3 x2).upd2 (l' := us.set x2 (.ref r)) hp6 fun z => by
          rcases List.mem_or_eq_of_mem_set z with z | z
          · exact hpu z
          · exact hpu (by rw [z]; exact rm)
        have h2 := (hG6.set2 e2' e3' x2).upd2 (l' := us.set x2 (.ref r)) hp6 fun z => by
          rcases List.mem_or_eq_of_mem_set z with z | z
          · exact hpg z
          · exact hpg (by rw [z]; exact rm')
        have hgp7 : (upd H6 p (.lst (us.set x2 (.ref r)))) gp = some (.lst (gas.map V.ref)) := by rw [upd_ne pg.symm]; exact hgp6
        have s7 : Same H3 (upd H6 p (.lst (us.set x2 (.ref r)))) := AU.mutS (s5.trans s6) hF.np
        have hp7 : (upd H6 p (.lst (us.set x2 (.ref r)))) p = some (.lst (us.set x2 (.ref r))) := upd_same
        walk_at "st"
        refine gsub_ ?_
        walk_at "st"
        refine setL_ hp6 (j := x2) (ixN_nat2 rfl (by omega)) ?_
        generalize upd H6 p (.lst (us.set x2 (.ref r))) = H7 at h1 h2 hgp7 s7 hp7 ⊢
        walk_at "st"
        refine gsub_ ?_
        walk_at "st"
        refine setL_ hgp7 (j := x2) (ixN_nat2 rfl (by rw [List.length_map]; omega)) ?_
        have h3 := h1.upd2 (l' := (gas.map V.ref).set x2 (.ref r')) hgp7 gs2
        have h4 := h2.upd2 (l' := (gas.map V.ref).set x2 (.ref r')) hgp7 fun z => by
          rcases List.mem_or_eq_of_mem_set z with z | z
          · exact hgg z
          · exact hgg (by rw [z]; exact rm')
        refine ⟨_, _, _, rfl, AU.mutS s7 (AU.back s5 hF6.np), by rw [upd_ne pg]; exact hp7, h3, upd_same, h4, by rw [List.length_set]; exact hel5, fun fs he => ?_⟩
        rcases List.mem_or_eq_of_mem_set he with he | rfl
        · exact hg5 fs he
        · exact hg
      · walk_at "st"
        exact ⟨us, _, ess, rfl, s5.trans s6, hp6, hR6, hgp6, hG6, hel5, hg5⟩
    clear hF6 hgg hgu hpg hG6 hR6 hgp6 hp6 hh6 s6 hh5 hS5 hR5 hp5 hg5 hpu hul hel5 hgl s5 ess
    rintro σ' H7 ⟨us, gs, ess, rfl, s7, hp7, hR7, hg7, hG7, hel, hrow⟩
    have hS7 := s7.seq hS3
    have hh7 := s7 _ _ hh3
    walk_at "st"
    have hw24 := wd24 hn8
    have hwz : ∀ es ∈ ess, es.length ≤ wdN n := fun es he => (hrow es he).z
    have hwl : (wL ess.length 0 ess).length ≤ 24 := Nat.le_trans (wL_len hwz) (by rw [hel]; exact hw24)
    have hv : ∀ es ∈ ess, Valid es := fun es he => (hrow es he).v
    have hd1 : ∀ es ∈ ess, DimN 1 es := fun es he => (hrow es he).d
    have hw4 : wdN n ≤ 4 := by unfold wdN; split <;> omega
    have p64 : (2 : Int) ^ 64 = 18446744073709551616 := by decide
    have p12 : 10 ^ 12 = 1000000000000 := by decide
    have hsr : ∀ es ∈ ess, SRow es := fun es he => ⟨hv es he, hd1 es he, by have := hwz es he; omega, fun e hm x hx => Nat.le_trans ((hrow es he).c e hm x hx) (by decide), fun e hm => by have := (hrow es he).u e hm; rw [p12] at this; omega⟩
    refine ⟨p, us, ess, rfl, hp7, hR7, by omega, by omega, hd1, fun r pw ws H8 hr s8 np8 hpw hEw => ?_⟩
    have drr : DimN 1 r := DimN.of hr wL_dim
    have hrl : r.length ≤ 24 := Nat.le_trans hr.len hwl
    have hcm := whole_comb hr hv hd1
    have hp8 := s8 _ _ hp7
    have hR8 := hR7.mono s8
    have hg8 := s8 _ _ hg7
    have hG8 := hG7.mono s8
    walk_at "st"
    refine ⟨p, gp, pw, us, gs, ws, ess, r, rfl, hp8, hR8, hg8, hG8, hpw, hEw, hr, by omega, by omega, fun es he => ⟨hv es he, by have := hwz es he; omega⟩, hd1, fun H9 s9 => ?_⟩
    walk_at "st"
    refine ⟨pw, p, ws, us, r, n, rfl, s9 _ _ hpw, hEw.mono s9, hr.v, drr, by omega, hn1, by omega, s9 _ _ hp8, by rw [← hel, hcm]; exact hR8.mono s9, fun H10 s10 => ?_⟩
    have s810 := s9.trans s10
    have hp10 := s810 _ _ hp8
    have hR10 := hR8.mono s810
    have hg10 := s810 _ _ hg8
    have hG10 := hG8.mono s810
    have hpw10 := s810 _ _ hpw
    have hEw10 := hEw.mono s810
    have hS10 := (s8.trans s810).seq hS7
    have hh10 := (s8.trans s810) _ _ hh7
    clear s7 s8 s9 s10 s810 hp8 hR8 hg8 hG8 hpw hEw hp7 hR7 hg7 hG7 hS7 hh7
    walk_at "st"
    refine ⟨p, us, ess, rfl, hp10, hR10, by omega, fun es he => ⟨hv es he, hd1 es he, (hsr es he).z, (hsr es he).u⟩, fun D8 tp tr TT H11 hTb hTT => ?_⟩
    rw [hel] at hTb hTT
    have s11 := hTb.s
    walk_at "st"
    refine ⟨_, rfl, by omega, by omega, fun D9 nD9 => ?_⟩
    rw [Int.toNat_natCast]
    have hTd : ∀ i j, i < ess.length → j < ess.length → DimN 1 (TT i j) ∧ ∀ q, numAt (TT i j) q = numAt (crossL (ess.getD i []) (ess.getD j [])) q := fun i j hi hj => by
      have h := hTT i j (by omega) (by omega)
      exact ⟨DimN.of h (cross_dim (getD_all dim1_nil hd1 i) (getD_all dim1_nil hd1 j)), h.s⟩
    have hTl : ∀ i j, i < n → j < n → DimN 1 (TT i j) ∧ (TT i j).length ≤ 100 := fun i j hi hj => by
      refine ⟨(hTd i j (by omega) (by omega)).1, Nat.le_trans (hTT i j hi hj).len ?_⟩
      rw [cross_len]
      have h1 : (ess.getD i []).length ≤ 4 := getD_all (P := fun l => l.length ≤ 4) (by decide) (fun es he => by have := hwz es he; omega) i
      have h2 : (ess.getD j []).length ≤ 4 := getD_all (P := fun l => l.length ≤ 4) (by decide) (fun es he => by have := hwz es he; omega) j
      exact Nat.le_trans (Nat.mul_le_mul h1 h2) (by decide)
    have ho := rowOf_is (crossL (wL ess.length 0 ess) (wL ess.length 0 ess))
    have hod : DimN 1 (rowOf (crossL (wL ess.length 0 ess) (wL ess.length 0 ess))) := DimN.of ho (cross_dim wL_dim wL_dim)
    have hol : (rowOf (crossL (wL ess.length 0 ess) (wL ess.length 0 ess))).length ≤ 576 := Nat.le_trans ho.len (by rw [cross_len]; exact Nat.mul_le_mul hwl hwl)
    have hown : ∀ t, RowIs t (timesL r (mirP r)) → t = rowOf (crossL (wL ess.length 0 ess) (wL ess.length 0 ess)) := fun t ht => by
      refine RowIs.one ⟨ht.v, fun q => ?_⟩ ho
      rw [ht.s, timesL_eq2 r (b := mirL r) (fun q => (mirP_is hr.v drr).s q)]
      exact cross_congr hr.s hr.s q
    have hsum : ∀ s, s < n → ∀ t, RowIs t (prI TT n s n) → t = tooth (rowOf (crossL (wL ess.length 0 ess) (wL ess.length 0 ess))) n s := fun s hs t ht => by
      have h := sums_comb (s := s) (t := t) hd1 hTd ho.v ho.s hod (by omega)
      rw [hel] at h ⊢
      exact h ht
    have hov := ho.v
    generalize rowOf (crossL (wL ess.length 0 ess) (wL ess.length 0 ess)) = o at hov hod hol hown hsum
    clear ho
    have hcl := combS_len o n
    refine lc_range (lo := 0) (n := n) (fun i G => ∃ as : List Addr, FrL H11 G D9 as ((combS o n).take i)) ⟨[], FrL.start nD9⟩ ?_ ?_
    · rintro i G hi ⟨as9, hF⟩
      refine ⟨rfl, ?_⟩
      walk_at "st"
      rw [Int.zero_add]
      refine ⟨H10, D8, n, i, tp, tr, TT, rfl, hTb.mono hF.s, hi, hn8, hTl, fun t q7 ws7 H7 ht s7 nq7 hq7 hE7 => ?_⟩
      have hl := hF.l
      rw [List.length_take, hcl] at hl
      have qa : q7 ∉ as9 := fun z => by
        obtain ⟨_, _, _, _, _, e, _⟩ := hF.at_ z
        rw [nq7] at e
        cases e
      refine ⟨_, s7 _ _ hF.hp, by rw [List.length_map]; exact small1000 (by omega), as9 ++ [q7], ?_⟩
      rw [take_snocL (combS_at o hi), ← hsum i hi t ht]
      exact (hF.mono s7).pushR (AU.back hF.s nq7) hq7 hE7 qa (ne_of_none hF.hp nq7).symm
    rintro H12 ⟨as9, hF⟩
    rw [List.take_of_length_le (by omega)] at hF
    have s12 := hF.s
    have h9p := hF.hp
    have h9R := hF.at_rows
    have hpw12 := s12 _ _ (s11 _ _ hpw10)
    have hTb12 := hTb.mono s12
    clear hF
    walk_at "st"
    intro lw nlw; generalize eH13 : upd _ lw _ = H13; have s13 := AU.newS nlw eH13; have hlw := AU.newH eH13; clear eH13
    have hEw13 := hEw10.mono ((s11.trans s12).trans s13)
    have hcr : ∀ e ∈ r, ∀ x ∈ e.1, x.natAbs ≤ 1000000 := fun e he x hx => by
      obtain ⟨y, hy, ey⟩ := hr.mem he
      rw [← ey] at hx
      have := wL_c (C := 1000) (fun es hes => ⟨hd1 es hes, (hrow es hes).c⟩) hy x hx
      rw [hel] at this
      have h2 : n * 1000 ≤ 8 * 1000 := Nat.mul_le_mul_right _ hn8
      omega
    have hur : ∀ e ∈ r, -(2 ^ 64) < e.2 ∧ e.2 < 2 ^ 64 := fun e he => by
      have h := hr.bound (m := 10 ^ 12) (fun y hy => wL_u (R := fun z => z.natAbs ≤ 10 ^ 12) (fun es hes => (hrow es hes).u) hy) e he
      have h2 : (wL ess.length 0 ess).length * 10 ^ 12 ≤ 24 * 10 ^ 12 := Nat.mul_le_mul_right _ hwl
      rw [p12] at h h2
      omega
    walk_at "st"
    refine ⟨lw, ws, r, 1, 1000000, rfl, ⟨hlw, hlw, hEw13, hEw13, by omega, by omega, drr, drr, by decide, by decide, hcr, hcr, by decide⟩, Nat.lt_of_le_of_lt (Nat.mul_le_mul hrl hrl) (by decide), hur, fun t10 q14 ws14 H14 ht14 s14 nq14 hq14 hE14 => ?_⟩
    have hto := hown t10 ht14
    subst hto
    have s1214 := s13.trans s14
    have h9p14 := s1214 _ _ h9p
    have h9R14 := h9R.mono s1214
    walk_at "st"
    refine ⟨D9, _, combS t10 n, rfl, h9p14, h9R14, by omega, Nat.le_trans (wL_len (m := 576) fun es he => ?_) (by rw [hcl]; exact Nat.le_trans (Nat.mul_le_mul_right _ hn8) (by decide)), fun es he => by obtain ⟨j, rfl⟩ := combS_mem he; exact tooth_dim, fun r15 q15 ws15 H15 hr15 s15 np15 hq15 hE15 => ?_⟩
    · obtain ⟨j, rfl⟩ := combS_mem he
      exact Nat.le_trans (tooth_len _ _ _) hol
    rw [hcl] at hr15
    have e15 : r15 = t10 := hr15.one (comb_whole hov hod hn1)
    subst e15
    walk_at "st"
    refine ⟨q14, q15, ws14, ws15, _, 1, rfl, s15 _ _ hq14, hE14.mono s15, hq15, hE15, ⟨hov, by decide, by decide, hod⟩, by omega, ?_⟩
    walk_at "st"
    refine ⟨q14, D9, ws14, _, r15, n, rfl, s15 _ _ hq14, hE14.mono s15, hov, hod, by omega, hn1, by omega, s15 _ _ h9p14, h9R14.mono s15, fun H16 s16 => ?_⟩
    have s1016 := (s11.trans s12).trans (s1214.trans (s15.trans s16))
    have hp16 := s1016 _ _ hp10
    have hR16 := hR10.mono s1016
    have hg16 := s1016 _ _ hg10
    have hG16 := hG10.mono s1016
    have hTb16 := hTb.mono (s12.trans (s1214.trans (s15.trans s16)))
    have hS16 := s1016.seq hS10
    have hh16 := s1016 _ _ hh10
    clear s11 s12 s13 s14 s1214 s15 s16 s1016 hp10 hR10 hg10 hG10 hTb hTb12 hS10 hh10 h9p h9R h9p14 h9R14 hq14 hE14 hq15 hE15 hlw hpw12 hpw10 hEw10 hEw13
    walk_at "st"
    refine ⟨fun σ' H' => σ' = [some (.ref a), some (.ref hd), some (.int (n : Int)), some (.ref p), some (.int (x1 : Int)), some (.int (x2 : Int)), some (.ref gp), some (.ref pw), some (.ref D8), some (.ref D9), some (.ref q14), none, none, none] ∧ Same H16 H', ?_, ?_⟩
    · walk_at "st"
      refine iteD (fun z => ?_) (fun z => ?_)
      · walk_at "st"
        refine ⟨p, gp, D8, us, gs, ess, H10, tp, tr, TT, rfl, hp16, hR16, hg16, hG16, by rw [hel]; exact hTb16, by rw [hel]; exact hTT, by omega, hsr, fun H17 s17 => ?_⟩
        walk_at "st"
        exact ⟨rfl, s17⟩
      · walk_at "st"
        exact ⟨rfl, Same.refl _⟩
    rintro σ' H17 ⟨rfl, s17⟩
    have hp17 := s17 _ _ hp16
    have hR17 := hR16.mono s17
    have hS17 := s17.seq hS16
    have hh17 := s17 _ _ hh16
    clear s17 hp16 hR16 hg16 hG16 hTb16 hS16 hh16
    walk_at "st"
    refine ⟨a, ns, 11, rfl, hS17, by decide, fun c11 => ?_⟩
    walk_at "st"
    refine ⟨by walk_at "sz", fun l18 nl18 => ?_⟩; generalize eH18 : upd _ l18 _ = H18; have s18 := AU.newS nl18 eH18; have hl18 := AU.newH eH18; clear eH18
    obtain ⟨rc, hrc, atrc⟩ : ∃ rc : Nat, rc ≤ 1000 ∧ atI [V.int 20, V.int 1000] h8 = some (.int (rc : Int)) := by
      rcases (show h8 = 0 ∨ h8 = 1 by omega) with rfl | rfl
      · exact ⟨20, by decide, AU.atN (j := 0) rfl rfl⟩
      · exact ⟨1000, by decide, AU.atN (j := 1) rfl rfl⟩
    have hh18 := s18 _ _ hh17
    walk_at "st"
    refine ⟨c11, rc, rfl, by omega, fun ql wsl rl H19 s19 hql hEl vl dl ll _ => ?_⟩
    have hh19 := s19 _ _ hh18
    obtain ⟨n2, hn2⟩ : ∃ n2 : Nat, 1 + h9 = (n2 : Int) := ⟨(1 + h9).toNat, by omega⟩
    have hp19 := s19 _ _ (s18 _ _ hp17)
    have hS19 := (s18.trans s19).seq hS17
    have hul19 : us.length = n := by rw [hR17.len]; exact hel
    clear s18 s19 hh18 hh17 hl18 hp17 hR17 hS17
    walk_at "st"
    rw [hn2]
    refine ⟨ql, wsl, rl, n2, rfl, hql, hEl, by omega, by omega, by omega, dl, fun pc cas H20 hF20 => ?_⟩
    have s20 := hF20.s
    have hpc := hF20.hp
    have hRc := hF20.at_rows
    have hcl2 := combS_len rl n2
    walk_at "st"
    refine ⟨ql, pc, wsl, _, rl, n2, rfl, s20 _ _ hql, hEl.mono s20, vl, dl, by omega, by omega, by omega, hpc, hRc, fun H21 s21 => ?_⟩
    have hpc21 := s21 _ _ hpc
    have hRc21 := hRc.mono s21
    walk_at "st"
    refine ⟨pc, _, combS rl n2, rfl, hpc21, hRc21, by omega, fun gc gcas H22 hF22 => ?_⟩
    have s22 := hF22.s
    have s2022 := (s20.trans s21).trans s22
    walk_at "st"
    refine ⟨pc, gc, ql, _, _, wsl, combS rl n2, rl, rfl, s22 _ _ hpc21, hRc21.mono s22, hF22.hp, hF22.at_rows, s2022 _ _ hql, hEl.mono s2022, by rw [hcl2]; exact comb_whole vl dl (by omega), by omega, Nat.le_trans (wL_len (m := 8) fun es he => ?_) (by rw [hcl2]; omega), fun es he => ?_, fun es he => ?_, fun H23 s23 => ?_⟩
    · obtain ⟨j, rfl⟩ := combS_mem he
      exact Nat.le_trans (tooth_len _ _ _) ll
    · obtain ⟨j, rfl⟩ := combS_mem he
      exact ⟨tooth_valid vl dl (by omega) j, by have := tooth_len rl n2 j; omega⟩
    · obtain ⟨j, rfl⟩ := combS_mem he
      exact tooth_dim
    have s1923 := s2022.trans s23
    have hh23 := s1923 _ _ hh19
    have hp23 := s1923 _ _ hp19
    have hS23 := s1923.seq hS19
    clear s20 s21 s22 s2022 s23 s1923 hpc21 hRc21 hpc hRc hF20 hF22 hql hEl hh19 hp19 hS19
    walk_at "st"
    refine iteND (fun _ => ?_) (fun _ => ?_)
    · exact q H23
    · walk_at "st"
      refine ⟨by walk_at "sz", fun l24 nl24 => ?_⟩; generalize eH24 : upd _ l24 _ = H24; have s24 := AU.newS nl24 eH24; have hl24 := AU.newH eH24; clear eH24
      refine ⟨a, p, l24, ns, us, h10, h11, h9, rfl, s24.seq hS23, s24 _ _ hp23, by omega, by omega, hl24, a10, b10, a11, b11, a9, b9, fun H25 _ => ?_⟩
      exact q H25
end
end OT

set_option Elab.async false
set_option linter.all false
set_option maxRecDepth 100000
set_option maxHeartbeats 4000000
namespace OT
open PySem PySem.Spec PyProof.Rows L2
theorem quiet {P : Program} {w : World} {K : PySem.W.Frag} {mg : Str → Option Value} {base : Heap} {k : Nat} {f : Addr} {fd : FuncData} {ps : List Str} {sp sp' : Sp} (F : FnOk P w K mg base (L2.CX P w) k f fd ps sp') (h : ∀ vs H Q E, sp vs H Q E → sp' vs H Q E0) : FnOk P w K mg base CX0 k f fd ps sp := by
  refine ⟨fun vs H Q E q => F.len _ _ _ _ (h _ _ _ _ q), fun A outer s H args us vs Q E hr he hb hv q => ?_⟩
  refine codeAny_mono (F.run A outer s H args us vs Q E0 hr he hb hv (h _ _ _ _ q)) fun r s' z => ?_
  cases r with
  | ok fl => cases fl with
    | ret u => exact z
    | next => exact z
    | brk => exact z
    | cont => exact z
  | error e =>
    obtain ⟨_, _, _, _, _, _, _, _, _, _, _, _, q⟩ := z
    exact q.elim
theorem quietC {P : Program} {w : World} {K : PySem.W.Frag} {mg : Str → Option Value} {base : Heap} {k : Nat} {x : Str} {st : Stmt} {f : Addr} {fd : FuncData} {ps : List Str} {ds : List Value} {dvs : List V} {sp sp' : Sp} (D : C8.Def K mg x st f fd) (b : Binds K fd ps ds) (hd : Vals dvs ds) (F : FnOk P w K mg base (L2.CX P w) k f fd ps sp') (h : ∀ vs H Q E, sp vs H Q E → sp' vs H Q E0) : C8.Cal P w K mg base k x sp dvs :=
  ⟨f, fd, ps, ds, quiet F h, D.mgf, D.kp, b, hd⟩
theorem all_mk {l : PySem.W.OpenLaw} {w : World} {K : PySem.W.Frag} {h : Heap} {mg : Str → Option Value} {fa : Addr} {f_places_length f_same_lengths f_same_dimension f_one_direction f_bounds f_product_sizes f_longest f_digit_bits f_is_crowded f_digit_at f_place_at f_joined_digits f_low_digit f_split_digits f_great_integer f_crowded_product f_row_of f_reach f_key_base f_key_of f_place_of f_keyed f_unkeyed f_multiply f_mirror f_comb f_uncomb f_cross_table f_own_table f_list_tables f__law_cell f__law_draws f__law_is_integer f__law_is_place f__law_is_row f__law_same f__law_is_error f__law_plus f__law_back f__law_row f__law_scaled f__law_times f__law_mirror f__law_moved f__law_cross f__law_zero f__law_places f__law_drawn f__law_copies f__law_same_list f__law_apart f__law_rows f__law_line f__law_whole f__law_combed f__law_tables f__law_sum f__law_uncombs f__law_combs f__law_tables_told f__law_refusal f__law_refused f__law_wide f__law_doors f_law f_te f_oe B M O Z C : Addr} (X : K.In h) (G : h.Ns mainGlobals mg) (hfa : mg "law" = some (.ref fa))
    {tk_FEW : Tok}
    {od_places_length an_places_length : Option Addr} {sl_places_length : Array (Option Value)} {oc_places_length kV_places_length dc_places_length pm_places_length cd_places_length ct_places_length : Value}
    {od_same_lengths an_same_lengths : Option Addr} {sl_same_lengths : Array (Option Value)} {oc_same_lengths kV_same_lengths dc_same_lengths pm_same_lengths cd_same_lengths ct_same_lengths : Value}
    {od_same_dimension an_same_dimension : Option Addr} {sl_same_dimension : Array (Option Value)} {oc_same_dimension kV_same_dimension dc_same_dimension pm_same_dimension cd_same_dimension ct_same_dimension : Value}
    {TD_same_dimension A0_same_dimension : Addr} {to_same_dimension uo_same_dimension : Option Addr} {tn_same_dimension un_same_dimension : Nat} {ts_same_dimension us_same_dimension : Array (Option Value)}
    {tc_same_dimension : Value}
    {od_one_direction an_one_direction : Option Addr} {sl_one_direction : Array (Option Value)} {oc_one_direction kV_one_direction dc_one_direction pm_one_direction cd_one_direction ct_one_direction : Value}
    {od_bounds an_bounds : Option Addr} {sl_bounds : Array (Option Value)} {oc_bounds kV_bounds dc_bounds pm_bounds cd_bounds ct_bounds : Value}
    {od_product_sizes an_product_sizes : Option Addr} {sl_product_sizes : Array (Option Value)} {oc_product_sizes kV_product_sizes dc_product_sizes pm_product_sizes cd_product_sizes ct_product_sizes : Value}
    {od_longest an_longest : Option Addr} {sl_longest : Array (Option Value)} {oc_longest kV_longest dc_longest pm_longest cd_longest ct_longest : Value}
    {od_digit_bits an_digit_bits : Option Addr} {sl_digit_bits : Array (Option Value)} {oc_digit_bits kV_digit_bits dc_digit_bits pm_digit_bits cd_digit_bits ct_digit_bits : Value}
    {od_is_crowded an_is_crowded : Option Addr} {sl_is_crowded : Array (Option Value)} {oc_is_crowded kV_is_crowded dc_is_crowded pm_is_crowded cd_is_crowded ct_is_crowded : Value}
    {od_digit_at an_digit_at : Option Addr} {sl_digit_at : Array (Option Value)} {oc_digit_at kV_digit_at dc_digit_at pm_digit_at cd_digit_at ct_digit_at : Value}
    {od_place_at an_place_at : Option Addr} {sl_place_at : Array (Option Value)} {oc_place_at kV_place_at dc_place_at pm_place_at cd_place_at ct_place_at : Value}
    {od_joined_digits an_joined_digits : Option Addr} {sl_joined_digits : Array (Option Value)} {oc_joined_digits kV_joined_digits dc_joined_digits pm_joined_digits cd_joined_digits ct_joined_digits : Value}
    {od_low_digit an_low_digit : Option Addr} {sl_low_digit : Array (Option Value)} {oc_low_digit kV_low_digit dc_low_digit pm_low_digit cd_low_digit ct_low_digit : Value}
    {od_split_digits an_split_digits : Option Addr} {sl_split_digits : Array (Option Value)} {oc_split_digits kV_split_digits dc_split_digits pm_split_digits cd_split_digits ct_split_digits : Value}
    {od_great_integer an_great_integer : Option Addr} {sl_great_integer : Array (Option Value)} {oc_great_integer kV_great_integer dc_great_integer pm_great_integer cd_great_integer ct_great_integer : Value}
    {od_crowded_product an_crowded_product : Option Addr} {sl_crowded_product : Array (Option Value)} {oc_crowded_product kV_crowded_product dc_crowded_product pm_crowded_product cd_crowded_product ct_crowded_product : Value}
    {od_row_of an_row_of : Option Addr} {sl_row_of : Array (Option Value)} {oc_row_of kV_row_of dc_row_of pm_row_of cd_row_of ct_row_of : Value}
    {od_reach an_reach : Option Addr} {sl_reach : Array (Option Value)} {oc_reach kV_reach dc_reach pm_reach cd_reach ct_reach : Value}
    {od_key_base an_key_base : Option Addr} {sl_key_base : Array (Option Value)} {oc_key_base kV_key_base dc_key_base pm_key_base cd_key_base ct_key_base : Value}
    {od_key_of an_key_of : Option Addr} {sl_key_of : Array (Option Value)} {oc_key_of kV_key_of dc_key_of pm_key_of cd_key_of ct_key_of : Value}
    {od_place_of an_place_of : Option Addr} {sl_place_of : Array (Option Value)} {oc_place_of kV_place_of dc_place_of pm_place_of cd_place_of ct_place_of : Value}
    {od_keyed an_keyed : Option Addr} {sl_keyed : Array (Option Value)} {oc_keyed kV_keyed dc_keyed pm_keyed cd_keyed ct_keyed : Value}
    {od_unkeyed an_unkeyed : Option Addr} {sl_unkeyed : Array (Option Value)} {oc_unkeyed kV_unkeyed dc_unkeyed pm_unkeyed cd_unkeyed ct_unkeyed : Value}
    {od_multiply an_multiply : Option Addr} {sl_multiply : Array (Option Value)} {oc_multiply kV_multiply dc_multiply pm_multiply cd_multiply ct_multiply : Value}
    {od_mirror an_mirror : Option Addr} {sl_mirror : Array (Option Value)} {oc_mirror kV_mirror dc_mirror pm_mirror cd_mirror ct_mirror : Value}
    {od_comb an_comb : Option Addr} {sl_comb : Array (Option Value)} {oc_comb kV_comb dc_comb pm_comb cd_comb ct_comb : Value}
    {od_uncomb an_uncomb : Option Addr} {sl_uncomb : Array (Option Value)} {oc_uncomb kV_uncomb dc_uncomb pm_uncomb cd_uncomb ct_uncomb : Value}
    {od_cross_table an_cross_table : Option Addr} {sl_cross_table : Array (Option Value)} {oc_cross_table kV_cross_table dc_cross_table pm_cross_table cd_cross_table ct_cross_table : Value}
    {od_own_table an_own_table : Option Addr} {sl_own_table : Array (Option Value)} {oc_own_table kV_own_table dc_own_table pm_own_table cd_own_table ct_own_table : Value}
    {od_list_tables an_list_tables : Option Addr} {sl_list_tables : Array (Option Value)} {oc_list_tables kV_list_tables dc_list_tables pm_list_tables cd_list_tables ct_list_tables : Value}
    {od__law_cell an__law_cell : Option Addr} {sl__law_cell : Array (Option Value)} {oc__law_cell kV__law_cell dc__law_cell pm__law_cell cd__law_cell ct__law_cell : Value}
    {od__law_draws an__law_draws : Option Addr} {sl__law_draws : Array (Option Value)} {oc__law_draws kV__law_draws dc__law_draws pm__law_draws cd__law_draws ct__law_draws : Value}
    {od__law_is_integer an__law_is_integer : Option Addr} {sl__law_is_integer : Array (Option Value)} {oc__law_is_integer kV__law_is_integer dc__law_is_integer pm__law_is_integer cd__law_is_integer ct__law_is_integer : Value}
    {od__law_is_place an__law_is_place : Option Addr} {sl__law_is_place : Array (Option Value)} {oc__law_is_place kV__law_is_place dc__law_is_place pm__law_is_place cd__law_is_place ct__law_is_place : Value}
    {od__law_is_row an__law_is_row : Option Addr} {sl__law_is_row : Array (Option Value)} {oc__law_is_row kV__law_is_row dc__law_is_row pm__law_is_row cd__law_is_row ct__law_is_row : Value}
    {od__law_same an__law_same : Option Addr} {sl__law_same : Array (Option Value)} {oc__law_same kV__law_same dc__law_same pm__law_same cd__law_same ct__law_same : Value}
    {od__law_is_error an__law_is_error : Option Addr} {sl__law_is_error : Array (Option Value)} {oc__law_is_error kV__law_is_error dc__law_is_error pm__law_is_error cd__law_is_error ct__law_is_error : Value}
    {od__law_plus an__law_plus : Option Addr} {sl__law_plus : Array (Option Value)} {oc__law_plus kV__law_plus dc__law_plus pm__law_plus cd__law_plus ct__law_plus : Value}
    {od__law_back an__law_back : Option Addr} {sl__law_back : Array (Option Value)} {oc__law_back kV__law_back dc__law_back pm__law_back cd__law_back ct__law_back : Value}
    {od__law_row an__law_row : Option Addr} {sl__law_row : Array (Option Value)} {oc__law_row kV__law_row dc__law_row pm__law_row cd__law_row ct__law_row : Value}
    {od__law_scaled an__law_scaled : Option Addr} {sl__law_scaled : Array (Option Value)} {oc__law_scaled kV__law_scaled dc__law_scaled pm__law_scaled cd__law_scaled ct__law_scaled : Value}
    {od__law_times an__law_times : Option Addr} {sl__law_times : Array (Option Value)} {oc__law_times kV__law_times dc__law_times pm__law_times cd__law_times ct__law_times : Value}
    {od__law_mirror an__law_mirror : Option Addr} {sl__law_mirror : Array (Option Value)} {oc__law_mirror kV__law_mirror dc__law_mirror pm__law_mirror cd__law_mirror ct__law_mirror : Value}
    {od__law_moved an__law_moved : Option Addr} {sl__law_moved : Array (Option Value)} {oc__law_moved kV__law_moved dc__law_moved pm__law_moved cd__law_moved ct__law_moved : Value}
    {od__law_cross an__law_cross : Option Addr} {sl__law_cross : Array (Option Value)} {oc__law_cross kV__law_cross dc__law_cross pm__law_cross cd__law_cross ct__law_cross : Value}
    {od__law_zero an__law_zero : Option Addr} {sl__law_zero : Array (Option Value)} {oc__law_zero kV__law_zero dc__law_zero pm__law_zero cd__law_zero ct__law_zero : Value}
    {od__law_places an__law_places : Option Addr} {sl__law_places : Array (Option Value)} {oc__law_places kV__law_places dc__law_places pm__law_places cd__law_places ct__law_places : Value}
    {od__law_drawn an__law_drawn : Option Addr} {sl__law_drawn : Array (Option Value)} {oc__law_drawn kV__law_drawn dc__law_drawn pm__law_drawn cd__law_drawn ct__law_drawn : Value}
    {od__law_copies an__law_copies : Option Addr} {sl__law_copies : Array (Option Value)} {oc__law_copies kV__law_copies dc__law_copies pm__law_copies cd__law_copies ct__law_copies : Value}
    {od__law_same_list an__law_same_list : Option Addr} {sl__law_same_list : Array (Option Value)} {oc__law_same_list kV__law_same_list dc__law_same_list pm__law_same_list cd__law_same_list ct__law_same_list : Value}
    {od__law_apart an__law_apart : Option Addr} {sl__law_apart : Array (Option Value)} {oc__law_apart kV__law_apart dc__law_apart pm__law_apart cd__law_apart ct__law_apart : Value}
    {od__law_rows an__law_rows : Option Addr} {sl__law_rows : Array (Option Value)} {oc__law_rows kV__law_rows dc__law_rows pm__law_rows cd__law_rows ct__law_rows : Value}
    {od__law_line an__law_line : Option Addr} {sl__law_line : Array (Option Value)} {oc__law_line kV__law_line dc__law_line pm__law_line cd__law_line ct__law_line : Value}
    {od__law_whole an__law_whole : Option Addr} {sl__law_whole : Array (Option Value)} {oc__law_whole kV__law_whole dc__law_whole pm__law_whole cd__law_whole ct__law_whole : Value}
    {od__law_combed an__law_combed : Option Addr} {sl__law_combed : Array (Option Value)} {oc__law_combed kV__law_combed dc__law_combed pm__law_combed cd__law_combed ct__law_combed : Value}
    {od__law_tables an__law_tables : Option Addr} {sl__law_tables : Array (Option Value)} {oc__law_tables kV__law_tables dc__law_tables pm__law_tables cd__law_tables ct__law_tables : Value}
    {od__law_sum an__law_sum : Option Addr} {sl__law_sum : Array (Option Value)} {oc__law_sum kV__law_sum dc__law_sum pm__law_sum cd__law_sum ct__law_sum : Value}
    {od__law_uncombs an__law_uncombs : Option Addr} {sl__law_uncombs : Array (Option Value)} {oc__law_uncombs kV__law_uncombs dc__law_uncombs pm__law_uncombs cd__law_uncombs ct__law_uncombs : Value}
    {od__law_combs an__law_combs : Option Addr} {sl__law_combs : Array (Option Value)} {oc__law_combs kV__law_combs dc__law_combs pm__law_combs cd__law_combs ct__law_combs : Value}
    {od__law_tables_told an__law_tables_told : Option Addr} {sl__law_tables_told : Array (Option Value)} {oc__law_tables_told kV__law_tables_told dc__law_tables_told pm__law_tables_told cd__law_tables_told ct__law_tables_told : Value}
    {od__law_refusal an__law_refusal : Option Addr} {sl__law_refusal : Array (Option Value)} {oc__law_refusal kV__law_refusal dc__law_refusal pm__law_refusal cd__law_refusal ct__law_refusal : Value}
    {od__law_refused an__law_refused : Option Addr} {sl__law_refused : Array (Option Value)} {oc__law_refused kV__law_refused dc__law_refused pm__law_refused cd__law_refused ct__law_refused : Value}
    {od__law_wide an__law_wide : Option Addr} {sl__law_wide : Array (Option Value)} {oc__law_wide kV__law_wide dc__law_wide pm__law_wide cd__law_wide ct__law_wide : Value}
    {od__law_doors an__law_doors : Option Addr} {sl__law_doors : Array (Option Value)} {oc__law_doors kV__law_doors dc__law_doors pm__law_doors cd__law_doors ct__law_doors : Value}
    {od_law an_law : Option Addr} {sl_law : Array (Option Value)} {oc_law kV_law dc_law pm_law cd_law ct_law : Value}
    {od_te an_te : Option Addr} {sl_te : Array (Option Value)} {oc_te kV_te dc_te pm_te cd_te ct_te : Value}
    {od_oe an_oe : Option Addr} {sl_oe : Array (Option Value)} {oc_oe kV_oe dc_oe pm_oe cd_oe ct_oe : Value}
    {nm_M q_M : Str} {N_M : Addr} {bs_M bm_M : List Value} {sn_M : List Str} {sub_M : List Value} {ab_M : Bool} {col_M : Option Bool} {dd_M : Option Addr} {m0_M m1_M m3_M m5_M : Option Value} {tk_M : Tok}
    {nm_O q_O : Str} {N_O : Addr} {bs_O bm_O : List Value} {sn_O : List Str} {sub_O : List Value} {ab_O : Bool} {col_O : Option Bool} {dd_O : Option Addr} {m0_O m1_O m3_O m5_O : Option Value} {tk_O : Tok}
    (z_len : PySem.W.nsIn K mainGlobals "len" = some none)
    (z_int : PySem.W.nsIn K mainGlobals "int" = some none)
    (z_str : PySem.W.nsIn K mainGlobals "str" = some none)
    (z_bool : PySem.W.nsIn K mainGlobals "bool" = some none)
    (z_list : PySem.W.nsIn K mainGlobals "list" = some none)
    (z_tuple : PySem.W.nsIn K mainGlobals "tuple" = some none)
    (z_range : PySem.W.nsIn K mainGlobals "range" = some none)
    (z_enumerate : PySem.W.nsIn K mainGlobals "enumerate" = some none)
    (z_isinstance : PySem.W.nsIn K mainGlobals "isinstance" = some none)
    (z_sorted : PySem.W.nsIn K mainGlobals "sorted" = some none)
    (z_abs : PySem.W.nsIn K mainGlobals "abs" = some none)
    (z_any : PySem.W.nsIn K mainGlobals "any" = some none)
    (z_all : PySem.W.nsIn K mainGlobals "all" = some none)
    (z_sum : PySem.W.nsIn K mainGlobals "sum" = some none)
    (z_min : PySem.W.nsIn K mainGlobals "min" = some none)
    (z_max : PySem.W.nsIn K mainGlobals "max" = some none)
    (z_zip : PySem.W.nsIn K mainGlobals "zip" = some none)
    (z_set : PySem.W.nsIn K mainGlobals "set" = some none)
    (z_ValueError : PySem.W.nsIn K mainGlobals "ValueError" = some none)
    (a_places_length : PySem.W.nsIn K mainGlobals "places_length" = some (some (.ref f_places_length)))
    (l_places_length : K.lookup f_places_length = some ⟨oc_places_length, od_places_length, .func (PySem.W.fnOf "places_length" "places_length" (C8.fnArgs s_places_length) (C8.fnBody s_places_length) (C8.fnScope s_places_length) .none kV_places_length dc_places_length pm_places_length an_places_length cd_places_length ct_places_length), sl_places_length⟩)
    (co_places_length : PySem.W.codeIn K cd_places_length "places_length" = true)
    (k_places_length : PySem.W.keepIn K (.ref f_places_length) = true)
    (a_same_lengths : PySem.W.nsIn K mainGlobals "same_lengths" = some (some (.ref f_same_lengths)))
    (l_same_lengths : K.lookup f_same_lengths = some ⟨oc_same_lengths, od_same_lengths, .func (PySem.W.fnOf "same_lengths" "same_lengths" (C8.fnArgs s_same_lengths) (C8.fnBody s_same_lengths) (C8.fnScope s_same_lengths) .none kV_same_lengths dc_same_lengths pm_same_lengths an_same_lengths cd_same_lengths ct_same_lengths), sl_same_lengths⟩)
    (co_same_lengths : PySem.W.codeIn K cd_same_lengths "same_lengths" = true)
    (k_same_lengths : PySem.W.keepIn K (.ref f_same_lengths) = true)
    (a_same_dimension : PySem.W.nsIn K mainGlobals "same_dimension" = some (some (.ref f_same_dimension)))
    (l_same_dimension : K.lookup f_same_dimension = some ⟨oc_same_dimension, od_same_dimension, .func (PySem.W.fnOf "same_dimension" "same_dimension" (C8.fnArgs s_same_dimension) (C8.fnBody s_same_dimension) (C8.fnScope s_same_dimension) (.ref TD_same_dimension) kV_same_dimension dc_same_dimension pm_same_dimension an_same_dimension cd_same_dimension ct_same_dimension), sl_same_dimension⟩)
    (lt_same_dimension : K.lookup TD_same_dimension = some ⟨tc_same_dimension, to_same_dimension, .seq #[.ref A0_same_dimension] tn_same_dimension, ts_same_dimension⟩)
    (lu_same_dimension : K.lookup A0_same_dimension = some ⟨.type "tuple", uo_same_dimension, .seq #[] un_same_dimension, us_same_dimension⟩)
    (co_same_dimension : PySem.W.codeIn K cd_same_dimension "same_dimension" = true)
    (k_same_dimension : PySem.W.keepIn K (.ref f_same_dimension) = true)
    (a_one_direction : PySem.W.nsIn K mainGlobals "one_direction" = some (some (.ref f_one_direction)))
    (l_one_direction : K.lookup f_one_direction = some ⟨oc_one_direction, od_one_direction, .func (PySem.W.fnOf "one_direction" "one_direction" (C8.fnArgs s_one_direction) (C8.fnBody s_one_direction) (C8.fnScope s_one_direction) .none kV_one_direction dc_one_direction pm_one_direction an_one_direction cd_one_direction ct_one_direction), sl_one_direction⟩)
    (co_one_direction : PySem.W.codeIn K cd_one_direction "one_direction" = true)
    (k_one_direction : PySem.W.keepIn K (.ref f_one_direction) = true)
    (a_bounds : PySem.W.nsIn K mainGlobals "bounds" = some (some (.ref f_bounds)))
    (l_bounds : K.lookup f_bounds = some ⟨oc_bounds, od_bounds, .func (PySem.W.fnOf "bounds" "bounds" (C8.fnArgs s_bounds) (C8.fnBody s_bounds) (C8.fnScope s_bounds) .none kV_bounds dc_bounds pm_bounds an_bounds cd_bounds ct_bounds), sl_bounds⟩)
    (co_bounds : PySem.W.codeIn K cd_bounds "bounds" = true)
    (k_bounds : PySem.W.keepIn K (.ref f_bounds) = true)
    (a_product_sizes : PySem.W.nsIn K mainGlobals "product_sizes" = some (some (.ref f_product_sizes)))
    (l_product_sizes : K.lookup f_product_sizes = some ⟨oc_product_sizes, od_product_sizes, .func (PySem.W.fnOf "product_sizes" "product_sizes" (C8.fnArgs s_product_sizes) (C8.fnBody s_product_sizes) (C8.fnScope s_product_sizes) .none kV_product_sizes dc_product_sizes pm_product_sizes an_product_sizes cd_product_sizes ct_product_sizes), sl_product_sizes⟩)
    (co_product_sizes : PySem.W.codeIn K cd_product_sizes "product_sizes" = true)
    (k_product_sizes : PySem.W.keepIn K (.ref f_product_sizes) = true)
    (a_longest : PySem.W.nsIn K mainGlobals "longest" = some (some (.ref f_longest)))
    (l_longest : K.lookup f_longest = some ⟨oc_longest, od_longest, .func (PySem.W.fnOf "longest" "longest" (C8.fnArgs s_longest) (C8.fnBody s_longest) (C8.fnScope s_longest) .none kV_longest dc_longest pm_longest an_longest cd_longest ct_longest), sl_longest⟩)
    (co_longest : PySem.W.codeIn K cd_longest "longest" = true)
    (k_longest : PySem.W.keepIn K (.ref f_longest) = true)
    (a_digit_bits : PySem.W.nsIn K mainGlobals "digit_bits" = some (some (.ref f_digit_bits)))
    (l_digit_bits : K.lookup f_digit_bits = some ⟨oc_digit_bits, od_digit_bits, .func (PySem.W.fnOf "digit_bits" "digit_bits" (C8.fnArgs s_digit_bits) (C8.fnBody s_digit_bits) (C8.fnScope s_digit_bits) .none kV_digit_bits dc_digit_bits pm_digit_bits an_digit_bits cd_digit_bits ct_digit_bits), sl_digit_bits⟩)
    (co_digit_bits : PySem.W.codeIn K cd_digit_bits "digit_bits" = true)
    (k_digit_bits : PySem.W.keepIn K (.ref f_digit_bits) = true)
    (a_is_crowded : PySem.W.nsIn K mainGlobals "is_crowded" = some (some (.ref f_is_crowded)))
    (l_is_crowded : K.lookup f_is_crowded = some ⟨oc_is_crowded, od_is_crowded, .func (PySem.W.fnOf "is_crowded" "is_crowded" (C8.fnArgs s_is_crowded) (C8.fnBody s_is_crowded) (C8.fnScope s_is_crowded) .none kV_is_crowded dc_is_crowded pm_is_crowded an_is_crowded cd_is_crowded ct_is_crowded), sl_is_crowded⟩)
    (co_is_crowded : PySem.W.codeIn K cd_is_crowded "is_crowded" = true)
    (k_is_crowded : PySem.W.keepIn K (.ref f_is_crowded) = true)
    (a_digit_at : PySem.W.nsIn K mainGlobals "digit_at" = some (some (.ref f_digit_at)))
    (l_digit_at : K.lookup f_digit_at = some ⟨oc_digit_at, od_digit_at, .func (PySem.W.fnOf "digit_at" "digit_at" (C8.fnArgs s_digit_at) (C8.fnBody s_digit_at) (C8.fnScope s_digit_at) .none kV_digit_at dc_digit_at pm_digit_at an_digit_at cd_digit_at ct_digit_at), sl_digit_at⟩)
    (co_digit_at : PySem.W.codeIn K cd_digit_at "digit_at" = true)
    (k_digit_at : PySem.W.keepIn K (.ref f_digit_at) = true)
    (a_place_at : PySem.W.nsIn K mainGlobals "place_at" = some (some (.ref f_place_at)))
    (l_place_at : K.lookup f_place_at = some ⟨oc_place_at, od_place_at, .func (PySem.W.fnOf "place_at" "place_at" (C8.fnArgs s_place_at) (C8.fnBody s_place_at) (C8.fnScope s_place_at) .none kV_place_at dc_place_at pm_place_at an_place_at cd_place_at ct_place_at), sl_place_at⟩)
    (co_place_at : PySem.W.codeIn K cd_place_at "place_at" = true)
    (k_place_at : PySem.W.keepIn K (.ref f_place_at) = true)
    (a_joined_digits : PySem.W.nsIn K mainGlobals "joined_digits" = some (some (.ref f_joined_digits)))
    (l_joined_digits : K.lookup f_joined_digits = some ⟨oc_joined_digits, od_joined_digits, .func (PySem.W.fnOf "joined_digits" "joined_digits" (C8.fnArgs s_joined_digits) (C8.fnBody s_joined_digits) (C8.fnScope s_joined_digits) .none kV_joined_digits dc_joined_digits pm_joined_digits an_joined_digits cd_joined_digits ct_joined_digits), sl_joined_digits⟩)
    (co_joined_digits : PySem.W.codeIn K cd_joined_digits "joined_digits" = true)
    (k_joined_digits : PySem.W.keepIn K (.ref f_joined_digits) = true)
    (a_low_digit : PySem.W.nsIn K mainGlobals "low_digit" = some (some (.ref f_low_digit)))
    (l_low_digit : K.lookup f_low_digit = some ⟨oc_low_digit, od_low_digit, .func (PySem.W.fnOf "low_digit" "low_digit" (C8.fnArgs s_low_digit) (C8.fnBody s_low_digit) (C8.fnScope s_low_digit) .none kV_low_digit dc_low_digit pm_low_digit an_low_digit cd_low_digit ct_low_digit), sl_low_digit⟩)
    (co_low_digit : PySem.W.codeIn K cd_low_digit "low_digit" = true)
    (k_low_digit : PySem.W.keepIn K (.ref f_low_digit) = true)
    (a_split_digits : PySem.W.nsIn K mainGlobals "split_digits" = some (some (.ref f_split_digits)))
    (l_split_digits : K.lookup f_split_digits = some ⟨oc_split_digits, od_split_digits, .func (PySem.W.fnOf "split_digits" "split_digits" (C8.fnArgs s_split_digits) (C8.fnBody s_split_digits) (C8.fnScope s_split_digits) .none kV_split_digits dc_split_digits pm_split_digits an_split_digits cd_split_digits ct_split_digits), sl_split_digits⟩)
    (co_split_digits : PySem.W.codeIn K cd_split_digits "split_digits" = true)
    (k_split_digits : PySem.W.keepIn K (.ref f_split_digits) = true)
    (a_great_integer : PySem.W.nsIn K mainGlobals "great_integer" = some (some (.ref f_great_integer)))
    (l_great_integer : K.lookup f_great_integer = some ⟨oc_great_integer, od_great_integer, .func (PySem.W.fnOf "great_integer" "great_integer" (C8.fnArgs s_great_integer) (C8.fnBody s_great_integer) (C8.fnScope s_great_integer) .none kV_great_integer dc_great_integer pm_great_integer an_great_integer cd_great_integer ct_great_integer), sl_great_integer⟩)
    (co_great_integer : PySem.W.codeIn K cd_great_integer "great_integer" = true)
    (k_great_integer : PySem.W.keepIn K (.ref f_great_integer) = true)
    (a_crowded_product : PySem.W.nsIn K mainGlobals "crowded_product" = some (some (.ref f_crowded_product)))
    (l_crowded_product : K.lookup f_crowded_product = some ⟨oc_crowded_product, od_crowded_product, .func (PySem.W.fnOf "crowded_product" "crowded_product" (C8.fnArgs s_crowded_product) (C8.fnBody s_crowded_product) (C8.fnScope s_crowded_product) .none kV_crowded_product dc_crowded_product pm_crowded_product an_crowded_product cd_crowded_product ct_crowded_product), sl_crowded_product⟩)
    (co_crowded_product : PySem.W.codeIn K cd_crowded_product "crowded_product" = true)
    (k_crowded_product : PySem.W.keepIn K (.ref f_crowded_product) = true)
    (a_row_of : PySem.W.nsIn K mainGlobals "row_of" = some (some (.ref f_row_of)))
    (l_row_of : K.lookup f_row_of = some ⟨oc_row_of, od_row_of, .func (PySem.W.fnOf "row_of" "row_of" (C8.fnArgs s_row_of) (C8.fnBody s_row_of) (C8.fnScope s_row_of) .none kV_row_of dc_row_of pm_row_of an_row_of cd_row_of ct_row_of), sl_row_of⟩)
    (co_row_of : PySem.W.codeIn K cd_row_of "row_of" = true)
    (k_row_of : PySem.W.keepIn K (.ref f_row_of) = true)
    (a_reach : PySem.W.nsIn K mainGlobals "reach" = some (some (.ref f_reach)))
    (l_reach : K.lookup f_reach = some ⟨oc_reach, od_reach, .func (PySem.W.fnOf "reach" "reach" (C8.fnArgs s_reach) (C8.fnBody s_reach) (C8.fnScope s_reach) .none kV_reach dc_reach pm_reach an_reach cd_reach ct_reach), sl_reach⟩)
    (co_reach : PySem.W.codeIn K cd_reach "reach" = true)
    (k_reach : PySem.W.keepIn K (.ref f_reach) = true)
    (a_key_base : PySem.W.nsIn K mainGlobals "key_base" = some (some (.ref f_key_base)))
    (l_key_base : K.lookup f_key_base = some ⟨oc_key_base, od_key_base, .func (PySem.W.fnOf "key_base" "key_base" (C8.fnArgs s_key_base) (C8.fnBody s_key_base) (C8.fnScope s_key_base) .none kV_key_base dc_key_base pm_key_base an_key_base cd_key_base ct_key_base), sl_key_base⟩)
    (co_key_base : PySem.W.codeIn K cd_key_base "key_base" = true)
    (k_key_base : PySem.W.keepIn K (.ref f_key_base) = true)
    (a_key_of : PySem.W.nsIn K mainGlobals "key_of" = some (some (.ref f_key_of)))
    (l_key_of : K.lookup f_key_of = some ⟨oc_key_of, od_key_of, .func (PySem.W.fnOf "key_of" "key_of" (C8.fnArgs s_key_of) (C8.fnBody s_key_of) (C8.fnScope s_key_of) .none kV_key_of dc_key_of pm_key_of an_key_of cd_key_of ct_key_of), sl_key_of⟩)
    (co_key_of : PySem.W.codeIn K cd_key_of "key_of" = true)
    (k_key_of : PySem.W.keepIn K (.ref f_key_of) = true)
    (a_place_of : PySem.W.nsIn K mainGlobals "place_of" = some (some (.ref f_place_of)))
    (l_place_of : K.lookup f_place_of = some ⟨oc_place_of, od_place_of, .func (PySem.W.fnOf "place_of" "place_of" (C8.fnArgs s_place_of) (C8.fnBody s_place_of) (C8.fnScope s_place_of) .none kV_place_of dc_place_of pm_place_of an_place_of cd_place_of ct_place_of), sl_place_of⟩)
    (co_place_of : PySem.W.codeIn K cd_place_of "place_of" = true)
    (k_place_of : PySem.W.keepIn K (.ref f_place_of) = true)
    (a_keyed : PySem.W.nsIn K mainGlobals "keyed" = some (some (.ref f_keyed)))
    (l_keyed : K.lookup f_keyed = some ⟨oc_keyed, od_keyed, .func (PySem.W.fnOf "keyed" "keyed" (C8.fnArgs s_keyed) (C8.fnBody s_keyed) (C8.fnScope s_keyed) .none kV_keyed dc_keyed pm_keyed an_keyed cd_keyed ct_keyed), sl_keyed⟩)
    (co_keyed : PySem.W.codeIn K cd_keyed "keyed" = true)
    (k_keyed : PySem.W.keepIn K (.ref f_keyed) = true)
    (a_unkeyed : PySem.W.nsIn K mainGlobals "unkeyed" = some (some (.ref f_unkeyed)))
    (l_unkeyed : K.lookup f_unkeyed = some ⟨oc_unkeyed, od_unkeyed, .func (PySem.W.fnOf "unkeyed" "unkeyed" (C8.fnArgs s_unkeyed) (C8.fnBody s_unkeyed) (C8.fnScope s_unkeyed) .none kV_unkeyed dc_unkeyed pm_unkeyed an_unkeyed cd_unkeyed ct_unkeyed), sl_unkeyed⟩)
    (co_unkeyed : PySem.W.codeIn K cd_unkeyed "unkeyed" = true)
    (k_unkeyed : PySem.W.keepIn K (.ref f_unkeyed) = true)
    (a_multiply : PySem.W.nsIn K mainGlobals "multiply" = some (some (.ref f_multiply)))
    (l_multiply : K.lookup f_multiply = some ⟨oc_multiply, od_multiply, .func (PySem.W.fnOf "multiply" "multiply" (C8.fnArgs s_multiply) (C8.fnBody s_multiply) (C8.fnScope s_multiply) .none kV_multiply dc_multiply pm_multiply an_multiply cd_multiply ct_multiply), sl_multiply⟩)
    (co_multiply : PySem.W.codeIn K cd_multiply "multiply" = true)
    (k_multiply : PySem.W.keepIn K (.ref f_multiply) = true)
    (a_mirror : PySem.W.nsIn K mainGlobals "mirror" = some (some (.ref f_mirror)))
    (l_mirror : K.lookup f_mirror = some ⟨oc_mirror, od_mirror, .func (PySem.W.fnOf "mirror" "mirror" (C8.fnArgs s_mirror) (C8.fnBody s_mirror) (C8.fnScope s_mirror) .none kV_mirror dc_mirror pm_mirror an_mirror cd_mirror ct_mirror), sl_mirror⟩)
    (co_mirror : PySem.W.codeIn K cd_mirror "mirror" = true)
    (k_mirror : PySem.W.keepIn K (.ref f_mirror) = true)
    (a_comb : PySem.W.nsIn K mainGlobals "comb" = some (some (.ref f_comb)))
    (l_comb : K.lookup f_comb = some ⟨oc_comb, od_comb, .func (PySem.W.fnOf "comb" "comb" (C8.fnArgs s_comb) (C8.fnBody s_comb) (C8.fnScope s_comb) .none kV_comb dc_comb pm_comb an_comb cd_comb ct_comb), sl_comb⟩)
    (co_comb : PySem.W.codeIn K cd_comb "comb" = true)
    (k_comb : PySem.W.keepIn K (.ref f_comb) = true)
    (a_uncomb : PySem.W.nsIn K mainGlobals "uncomb" = some (some (.ref f_uncomb)))
    (l_uncomb : K.lookup f_uncomb = some ⟨oc_uncomb, od_uncomb, .func (PySem.W.fnOf "uncomb" "uncomb" (C8.fnArgs s_uncomb) (C8.fnBody s_uncomb) (C8.fnScope s_uncomb) .none kV_uncomb dc_uncomb pm_uncomb an_uncomb cd_uncomb ct_uncomb), sl_uncomb⟩)
    (co_uncomb : PySem.W.codeIn K cd_uncomb "uncomb" = true)
    (k_uncomb : PySem.W.keepIn K (.ref f_uncomb) = true)
    (a_cross_table : PySem.W.nsIn K mainGlobals "cross_table" = some (some (.ref f_cross_table)))
    (l_cross_table : K.lookup f_cross_table = some ⟨oc_cross_table, od_cross_table, .func (PySem.W.fnOf "cross_table" "cross_table" (C8.fnArgs s_cross_table) (C8.fnBody s_cross_table) (C8.fnScope s_cross_table) .none kV_cross_table dc_cross_table pm_cross_table an_cross_table cd_cross_table ct_cross_table), sl_cross_table⟩)
    (co_cross_table : PySem.W.codeIn K cd_cross_table "cross_table" = true)
    (k_cross_table : PySem.W.keepIn K (.ref f_cross_table) = true)
    (a_own_table : PySem.W.nsIn K mainGlobals "own_table" = some (some (.ref f_own_table)))
    (l_own_table : K.lookup f_own_table = some ⟨oc_own_table, od_own_table, .func (PySem.W.fnOf "own_table" "own_table" (C8.fnArgs s_own_table) (C8.fnBody s_own_table) (C8.fnScope s_own_table) .none kV_own_table dc_own_table pm_own_table an_own_table cd_own_table ct_own_table), sl_own_table⟩)
    (co_own_table : PySem.W.codeIn K cd_own_table "own_table" = true)
    (k_own_table : PySem.W.keepIn K (.ref f_own_table) = true)
    (a_list_tables : PySem.W.nsIn K mainGlobals "list_tables" = some (some (.ref f_list_tables)))
    (l_list_tables : K.lookup f_list_tables = some ⟨oc_list_tables, od_list_tables, .func (PySem.W.fnOf "list_tables" "list_tables" (C8.fnArgs s_list_tables) (C8.fnBody s_list_tables) (C8.fnScope s_list_tables) .none kV_list_tables dc_list_tables pm_list_tables an_list_tables cd_list_tables ct_list_tables), sl_list_tables⟩)
    (co_list_tables : PySem.W.codeIn K cd_list_tables "list_tables" = true)
    (k_list_tables : PySem.W.keepIn K (.ref f_list_tables) = true)
    (a__law_cell : PySem.W.nsIn K mainGlobals "_law_cell" = some (some (.ref f__law_cell)))
    (l__law_cell : K.lookup f__law_cell = some ⟨oc__law_cell, od__law_cell, .func (PySem.W.fnOf "_law_cell" "_law_cell" (C8.fnArgs s__law_cell) (C8.fnBody s__law_cell) (C8.fnScope s__law_cell) .none kV__law_cell dc__law_cell pm__law_cell an__law_cell cd__law_cell ct__law_cell), sl__law_cell⟩)
    (co__law_cell : PySem.W.codeIn K cd__law_cell "_law_cell" = true)
    (k__law_cell : PySem.W.keepIn K (.ref f__law_cell) = true)
    (a__law_draws : PySem.W.nsIn K mainGlobals "_law_draws" = some (some (.ref f__law_draws)))
    (l__law_draws : K.lookup f__law_draws = some ⟨oc__law_draws, od__law_draws, .func (PySem.W.fnOf "_law_draws" "_law_draws" (C8.fnArgs s__law_draws) (C8.fnBody s__law_draws) (C8.fnScope s__law_draws) .none kV__law_draws dc__law_draws pm__law_draws an__law_draws cd__law_draws ct__law_draws), sl__law_draws⟩)
    (co__law_draws : PySem.W.codeIn K cd__law_draws "_law_draws" = true)
    (k__law_draws : PySem.W.keepIn K (.ref f__law_draws) = true)
    (a__law_is_integer : PySem.W.nsIn K mainGlobals "_law_is_integer" = some (some (.ref f__law_is_integer)))
    (l__law_is_integer : K.lookup f__law_is_integer = some ⟨oc__law_is_integer, od__law_is_integer, .func (PySem.W.fnOf "_law_is_integer" "_law_is_integer" (C8.fnArgs s__law_is_integer) (C8.fnBody s__law_is_integer) (C8.fnScope s__law_is_integer) .none kV__law_is_integer dc__law_is_integer pm__law_is_integer an__law_is_integer cd__law_is_integer ct__law_is_integer), sl__law_is_integer⟩)
    (co__law_is_integer : PySem.W.codeIn K cd__law_is_integer "_law_is_integer" = true)
    (k__law_is_integer : PySem.W.keepIn K (.ref f__law_is_integer) = true)
    (a__law_is_place : PySem.W.nsIn K mainGlobals "_law_is_place" = some (some (.ref f__law_is_place)))
    (l__law_is_place : K.lookup f__law_is_place = some ⟨oc__law_is_place, od__law_is_place, .func (PySem.W.fnOf "_law_is_place" "_law_is_place" (C8.fnArgs s__law_is_place) (C8.fnBody s__law_is_place) (C8.fnScope s__law_is_place) .none kV__law_is_place dc__law_is_place pm__law_is_place an__law_is_place cd__law_is_place ct__law_is_place), sl__law_is_place⟩)
    (co__law_is_place : PySem.W.codeIn K cd__law_is_place "_law_is_place" = true)
    (k__law_is_place : PySem.W.keepIn K (.ref f__law_is_place) = true)
    (a__law_is_row : PySem.W.nsIn K mainGlobals "_law_is_row" = some (some (.ref f__law_is_row)))
    (l__law_is_row : K.lookup f__law_is_row = some ⟨oc__law_is_row, od__law_is_row, .func (PySem.W.fnOf "_law_is_row" "_law_is_row" (C8.fnArgs s__law_is_row) (C8.fnBody s__law_is_row) (C8.fnScope s__law_is_row) .none kV__law_is_row dc__law_is_row pm__law_is_row an__law_is_row cd__law_is_row ct__law_is_row), sl__law_is_row⟩)
    (co__law_is_row : PySem.W.codeIn K cd__law_is_row "_law_is_row" = true)
    (k__law_is_row : PySem.W.keepIn K (.ref f__law_is_row) = true)
    (a__law_same : PySem.W.nsIn K mainGlobals "_law_same" = some (some (.ref f__law_same)))
    (l__law_same : K.lookup f__law_same = some ⟨oc__law_same, od__law_same, .func (PySem.W.fnOf "_law_same" "_law_same" (C8.fnArgs s__law_same) (C8.fnBody s__law_same) (C8.fnScope s__law_same) .none kV__law_same dc__law_same pm__law_same an__law_same cd__law_same ct__law_same), sl__law_same⟩)
    (co__law_same : PySem.W.codeIn K cd__law_same "_law_same" = true)
    (k__law_same : PySem.W.keepIn K (.ref f__law_same) = true)
    (a__law_is_error : PySem.W.nsIn K mainGlobals "_law_is_error" = some (some (.ref f__law_is_error)))
    (l__law_is_error : K.lookup f__law_is_error = some ⟨oc__law_is_error, od__law_is_error, .func (PySem.W.fnOf "_law_is_error" "_law_is_error" (C8.fnArgs s__law_is_error) (C8.fnBody s__law_is_error) (C8.fnScope s__law_is_error) .none kV__law_is_error dc__law_is_error pm__law_is_error an__law_is_error cd__law_is_error ct__law_is_error), sl__law_is_error⟩)
    (co__law_is_error : PySem.W.codeIn K cd__law_is_error "_law_is_error" = true)
    (k__law_is_error : PySem.W.keepIn K (.ref f__law_is_error) = true)
    (a__law_plus : PySem.W.nsIn K mainGlobals "_law_plus" = some (some (.ref f__law_plus)))
    (l__law_plus : K.lookup f__law_plus = some ⟨oc__law_plus, od__law_plus, .func (PySem.W.fnOf "_law_plus" "_law_plus" (C8.fnArgs s__law_plus) (C8.fnBody s__law_plus) (C8.fnScope s__law_plus) .none kV__law_plus dc__law_plus pm__law_plus an__law_plus cd__law_plus ct__law_plus), sl__law_plus⟩)
    (co__law_plus : PySem.W.codeIn K cd__law_plus "_law_plus" = true)
    (k__law_plus : PySem.W.keepIn K (.ref f__law_plus) = true)
    (a__law_back : PySem.W.nsIn K mainGlobals "_law_back" = some (some (.ref f__law_back)))
    (l__law_back : K.lookup f__law_back = some ⟨oc__law_back, od__law_back, .func (PySem.W.fnOf "_law_back" "_law_back" (C8.fnArgs s__law_back) (C8.fnBody s__law_back) (C8.fnScope s__law_back) .none kV__law_back dc__law_back pm__law_back an__law_back cd__law_back ct__law_back), sl__law_back⟩)
    (co__law_back : PySem.W.codeIn K cd__law_back "_law_back" = true)
    (k__law_back : PySem.W.keepIn K (.ref f__law_back) = true)
    (a__law_row : PySem.W.nsIn K mainGlobals "_law_row" = some (some (.ref f__law_row)))
    (l__law_row : K.lookup f__law_row = some ⟨oc__law_row, od__law_row, .func (PySem.W.fnOf "_law_row" "_law_row" (C8.fnArgs s__law_row) (C8.fnBody s__law_row) (C8.fnScope s__law_row) .none kV__law_row dc__law_row pm__law_row an__law_row cd__law_row ct__law_row), sl__law_row⟩)
    (co__law_row : PySem.W.codeIn K cd__law_row "_law_row" = true)
    (k__law_row : PySem.W.keepIn K (.ref f__law_row) = true)
    (a__law_scaled : PySem.W.nsIn K mainGlobals "_law_scaled" = some (some (.ref f__law_scaled)))
    (l__law_scaled : K.lookup f__law_scaled = some ⟨oc__law_scaled, od__law_scaled, .func (PySem.W.fnOf "_law_scaled" "_law_scaled" (C8.fnArgs s__law_scaled) (C8.fnBody s__law_scaled) (C8.fnScope s__law_scaled) .none kV__law_scaled dc__law_scaled pm__law_scaled an__law_scaled cd__law_scaled ct__law_scaled), sl__law_scaled⟩)
    (co__law_scaled : PySem.W.codeIn K cd__law_scaled "_law_scaled" = true)
    (k__law_scaled : PySem.W.keepIn K (.ref f__law_scaled) = true)
    (a__law_times : PySem.W.nsIn K mainGlobals "_law_times" = some (some (.ref f__law_times)))
    (l__law_times : K.lookup f__law_times = some ⟨oc__law_times, od__law_times, .func (PySem.W.fnOf "_law_times" "_law_times" (C8.fnArgs s__law_times) (C8.fnBody s__law_times) (C8.fnScope s__law_times) .none kV__law_times dc__law_times pm__law_times an__law_times cd__law_times ct__law_times), sl__law_times⟩)
    (co__law_times : PySem.W.codeIn K cd__law_times "_law_times" = true)
    (k__law_times : PySem.W.keepIn K (.ref f__law_times) = true)
    (a__law_mirror : PySem.W.nsIn K mainGlobals "_law_mirror" = some (some (.ref f__law_mirror)))
    (l__law_mirror : K.lookup f__law_mirror = some ⟨oc__law_mirror, od__law_mirror, .func (PySem.W.fnOf "_law_mirror" "_law_mirror" (C8.fnArgs s__law_mirror) (C8.fnBody s__law_mirror) (C8.fnScope s__law_mirror) .none kV__law_mirror dc__law_mirror pm__law_mirror an__law_mirror cd__law_mirror ct__law_mirror), sl__law_mirror⟩)
    (co__law_mirror : PySem.W.codeIn K cd__law_mirror "_law_mirror" = true)
    (k__law_mirror : PySem.W.keepIn K (.ref f__law_mirror) = true)
    (a__law_moved : PySem.W.nsIn K mainGlobals "_law_moved" = some (some (.ref f__law_moved)))
    (l__law_moved : K.lookup f__law_moved = some ⟨oc__law_moved, od__law_moved, .func (PySem.W.fnOf "_law_moved" "_law_moved" (C8.fnArgs s__law_moved) (C8.fnBody s__law_moved) (C8.fnScope s__law_moved) .none kV__law_moved dc__law_moved pm__law_moved an__law_moved cd__law_moved ct__law_moved), sl__law_moved⟩)
    (co__law_moved : PySem.W.codeIn K cd__law_moved "_law_moved" = true)
    (k__law_moved : PySem.W.keepIn K (.ref f__law_moved) = true)
    (a__law_cross : PySem.W.nsIn K mainGlobals "_law_cross" = some (some (.ref f__law_cross)))
    (l__law_cross : K.lookup f__law_cross = some ⟨oc__law_cross, od__law_cross, .func (PySem.W.fnOf "_law_cross" "_law_cross" (C8.fnArgs s__law_cross) (C8.fnBody s__law_cross) (C8.fnScope s__law_cross) .none kV__law_cross dc__law_cross pm__law_cross an__law_cross cd__law_cross ct__law_cross), sl__law_cross⟩)
    (co__law_cross : PySem.W.codeIn K cd__law_cross "_law_cross" = true)
    (k__law_cross : PySem.W.keepIn K (.ref f__law_cross) = true)
    (a__law_zero : PySem.W.nsIn K mainGlobals "_law_zero" = some (some (.ref f__law_zero)))
    (l__law_zero : K.lookup f__law_zero = some ⟨oc__law_zero, od__law_zero, .func (PySem.W.fnOf "_law_zero" "_law_zero" (C8.fnArgs s__law_zero) (C8.fnBody s__law_zero) (C8.fnScope s__law_zero) .none kV__law_zero dc__law_zero pm__law_zero an__law_zero cd__law_zero ct__law_zero), sl__law_zero⟩)
    (co__law_zero : PySem.W.codeIn K cd__law_zero "_law_zero" = true)
    (k__law_zero : PySem.W.keepIn K (.ref f__law_zero) = true)
    (a__law_places : PySem.W.nsIn K mainGlobals "_law_places" = some (some (.ref f__law_places)))
    (l__law_places : K.lookup f__law_places = some ⟨oc__law_places, od__law_places, .func (PySem.W.fnOf "_law_places" "_law_places" (C8.fnArgs s__law_places) (C8.fnBody s__law_places) (C8.fnScope s__law_places) .none kV__law_places dc__law_places pm__law_places an__law_places cd__law_places ct__law_places), sl__law_places⟩)
    (co__law_places : PySem.W.codeIn K cd__law_places "_law_places" = true)
    (k__law_places : PySem.W.keepIn K (.ref f__law_places) = true)
    (a__law_drawn : PySem.W.nsIn K mainGlobals "_law_drawn" = some (some (.ref f__law_drawn)))
    (l__law_drawn : K.lookup f__law_drawn = some ⟨oc__law_drawn, od__law_drawn, .func (PySem.W.fnOf "_law_drawn" "_law_drawn" (C8.fnArgs s__law_drawn) (C8.fnBody s__law_drawn) (C8.fnScope s__law_drawn) .none kV__law_drawn dc__law_drawn pm__law_drawn an__law_drawn cd__law_drawn ct__law_drawn), sl__law_drawn⟩)
    (co__law_drawn : PySem.W.codeIn K cd__law_drawn "_law_drawn" = true)
    (k__law_drawn : PySem.W.keepIn K (.ref f__law_drawn) = true)
    (a__law_copies : PySem.W.nsIn K mainGlobals "_law_copies" = some (some (.ref f__law_copies)))
    (l__law_copies : K.lookup f__law_copies = some ⟨oc__law_copies, od__law_copies, .func (PySem.W.fnOf "_law_copies" "_law_copies" (C8.fnArgs s__law_copies) (C8.fnBody s__law_copies) (C8.fnScope s__law_copies) .none kV__law_copies dc__law_copies pm__law_copies an__law_copies cd__law_copies ct__law_copies), sl__law_copies⟩)
    (co__law_copies : PySem.W.codeIn K cd__law_copies "_law_copies" = true)
    (k__law_copies : PySem.W.keepIn K (.ref f__law_copies) = true)
    (a__law_same_list : PySem.W.nsIn K mainGlobals "_law_same_list" = some (some (.ref f__law_same_list)))
    (l__law_same_list : K.lookup f__law_same_list = some ⟨oc__law_same_list, od__law_same_list, .func (PySem.W.fnOf "_law_same_list" "_law_same_list" (C8.fnArgs s__law_same_list) (C8.fnBody s__law_same_list) (C8.fnScope s__law_same_list) .none kV__law_same_list dc__law_same_list pm__law_same_list an__law_same_list cd__law_same_list ct__law_same_list), sl__law_same_list⟩)
    (co__law_same_list : PySem.W.codeIn K cd__law_same_list "_law_same_list" = true)
    (k__law_same_list : PySem.W.keepIn K (.ref f__law_same_list) = true)
    (a__law_apart : PySem.W.nsIn K mainGlobals "_law_apart" = some (some (.ref f__law_apart)))
    (l__law_apart : K.lookup f__law_apart = some ⟨oc__law_apart, od__law_apart, .func (PySem.W.fnOf "_law_apart" "_law_apart" (C8.fnArgs s__law_apart) (C8.fnBody s__law_apart) (C8.fnScope s__law_apart) .none kV__law_apart dc__law_apart pm__law_apart an__law_apart cd__law_apart ct__law_apart), sl__law_apart⟩)
    (co__law_apart : PySem.W.codeIn K cd__law_apart "_law_apart" = true)
    (k__law_apart : PySem.W.keepIn K (.ref f__law_apart) = true)
    (a__law_rows : PySem.W.nsIn K mainGlobals "_law_rows" = some (some (.ref f__law_rows)))
    (l__law_rows : K.lookup f__law_rows = some ⟨oc__law_rows, od__law_rows, .func (PySem.W.fnOf "_law_rows" "_law_rows" (C8.fnArgs s__law_rows) (C8.fnBody s__law_rows) (C8.fnScope s__law_rows) .none kV__law_rows dc__law_rows pm__law_rows an__law_rows cd__law_rows ct__law_rows), sl__law_rows⟩)
    (co__law_rows : PySem.W.codeIn K cd__law_rows "_law_rows" = true)
    (k__law_rows : PySem.W.keepIn K (.ref f__law_rows) = true)
    (a__law_line : PySem.W.nsIn K mainGlobals "_law_line" = some (some (.ref f__law_line)))
    (l__law_line : K.lookup f__law_line = some ⟨oc__law_line, od__law_line, .func (PySem.W.fnOf "_law_line" "_law_line" (C8.fnArgs s__law_line) (C8.fnBody s__law_line) (C8.fnScope s__law_line) .none kV__law_line dc__law_line pm__law_line an__law_line cd__law_line ct__law_line), sl__law_line⟩)
    (co__law_line : PySem.W.codeIn K cd__law_line "_law_line" = true)
    (k__law_line : PySem.W.keepIn K (.ref f__law_line) = true)
    (a__law_whole : PySem.W.nsIn K mainGlobals "_law_whole" = some (some (.ref f__law_whole)))
    (l__law_whole : K.lookup f__law_whole = some ⟨oc__law_whole, od__law_whole, .func (PySem.W.fnOf "_law_whole" "_law_whole" (C8.fnArgs s__law_whole) (C8.fnBody s__law_whole) (C8.fnScope s__law_whole) .none kV__law_whole dc__law_whole pm__law_whole an__law_whole cd__law_whole ct__law_whole), sl__law_whole⟩)
    (co__law_whole : PySem.W.codeIn K cd__law_whole "_law_whole" = true)
    (k__law_whole : PySem.W.keepIn K (.ref f__law_whole) = true)
    (a__law_combed : PySem.W.nsIn K mainGlobals "_law_combed" = some (some (.ref f__law_combed)))
    (l__law_combed : K.lookup f__law_combed = some ⟨oc__law_combed, od__law_combed, .func (PySem.W.fnOf "_law_combed" "_law_combed" (C8.fnArgs s__law_combed) (C8.fnBody s__law_combed) (C8.fnScope s__law_combed) .none kV__law_combed dc__law_combed pm__law_combed an__law_combed cd__law_combed ct__law_combed), sl__law_combed⟩)
    (co__law_combed : PySem.W.codeIn K cd__law_combed "_law_combed" = true)
    (k__law_combed : PySem.W.keepIn K (.ref f__law_combed) = true)
    (a__law_tables : PySem.W.nsIn K mainGlobals "_law_tables" = some (some (.ref f__law_tables)))
    (l__law_tables : K.lookup f__law_tables = some ⟨oc__law_tables, od__law_tables, .func (PySem.W.fnOf "_law_tables" "_law_tables" (C8.fnArgs s__law_tables) (C8.fnBody s__law_tables) (C8.fnScope s__law_tables) .none kV__law_tables dc__law_tables pm__law_tables an__law_tables cd__law_tables ct__law_tables), sl__law_tables⟩)
    (co__law_tables : PySem.W.codeIn K cd__law_tables "_law_tables" = true)
    (k__law_tables : PySem.W.keepIn K (.ref f__law_tables) = true)
    (a__law_sum : PySem.W.nsIn K mainGlobals "_law_sum" = some (some (.ref f__law_sum)))
    (l__law_sum : K.lookup f__law_sum = some ⟨oc__law_sum, od__law_sum, .func (PySem.W.fnOf "_law_sum" "_law_sum" (C8.fnArgs s__law_sum) (C8.fnBody s__law_sum) (C8.fnScope s__law_sum) .none kV__law_sum dc__law_sum pm__law_sum an__law_sum cd__law_sum ct__law_sum), sl__law_sum⟩)
    (co__law_sum : PySem.W.codeIn K cd__law_sum "_law_sum" = true)
    (k__law_sum : PySem.W.keepIn K (.ref f__law_sum) = true)
    (a__law_uncombs : PySem.W.nsIn K mainGlobals "_law_uncombs" = some (some (.ref f__law_uncombs)))
    (l__law_uncombs : K.lookup f__law_uncombs = some ⟨oc__law_uncombs, od__law_uncombs, .func (PySem.W.fnOf "_law_uncombs" "_law_uncombs" (C8.fnArgs s__law_uncombs) (C8.fnBody s__law_uncombs) (C8.fnScope s__law_uncombs) .none kV__law_uncombs dc__law_uncombs pm__law_uncombs an__law_uncombs cd__law_uncombs ct__law_uncombs), sl__law_uncombs⟩)
    (co__law_uncombs : PySem.W.codeIn K cd__law_uncombs "_law_uncombs" = true)
    (k__law_uncombs : PySem.W.keepIn K (.ref f__law_uncombs) = true)
    (a__law_combs : PySem.W.nsIn K mainGlobals "_law_combs" = some (some (.ref f__law_combs)))
    (l__law_combs : K.lookup f__law_combs = some ⟨oc__law_combs, od__law_combs, .func (PySem.W.fnOf "_law_combs" "_law_combs" (C8.fnArgs s__law_combs) (C8.fnBody s__law_combs) (C8.fnScope s__law_combs) .none kV__law_combs dc__law_combs pm__law_combs an__law_combs cd__law_combs ct__law_combs), sl__law_combs⟩)
    (co__law_combs : PySem.W.codeIn K cd__law_combs "_law_combs" = true)
    (k__law_combs : PySem.W.keepIn K (.ref f__law_combs) = true)
    (a__law_tables_told : PySem.W.nsIn K mainGlobals "_law_tables_told" = some (some (.ref f__law_tables_told)))
    (l__law_tables_told : K.lookup f__law_tables_told = some ⟨oc__law_tables_told, od__law_tables_told, .func (PySem.W.fnOf "_law_tables_told" "_law_tables_told" (C8.fnArgs s__law_tables_told) (C8.fnBody s__law_tables_told) (C8.fnScope s__law_tables_told) .none kV__law_tables_told dc__law_tables_told pm__law_tables_told an__law_tables_told cd__law_tables_told ct__law_tables_told), sl__law_tables_told⟩)
    (co__law_tables_told : PySem.W.codeIn K cd__law_tables_told "_law_tables_told" = true)
    (k__law_tables_told : PySem.W.keepIn K (.ref f__law_tables_told) = true)
    (a__law_refusal : PySem.W.nsIn K mainGlobals "_law_refusal" = some (some (.ref f__law_refusal)))
    (l__law_refusal : K.lookup f__law_refusal = some ⟨oc__law_refusal, od__law_refusal, .func (PySem.W.fnOf "_law_refusal" "_law_refusal" (C8.fnArgs s__law_refusal) (C8.fnBody s__law_refusal) (C8.fnScope s__law_refusal) .none kV__law_refusal dc__law_refusal pm__law_refusal an__law_refusal cd__law_refusal ct__law_refusal), sl__law_refusal⟩)
    (co__law_refusal : PySem.W.codeIn K cd__law_refusal "_law_refusal" = true)
    (k__law_refusal : PySem.W.keepIn K (.ref f__law_refusal) = true)
    (a__law_refused : PySem.W.nsIn K mainGlobals "_law_refused" = some (some (.ref f__law_refused)))
    (l__law_refused : K.lookup f__law_refused = some ⟨oc__law_refused, od__law_refused, .func (PySem.W.fnOf "_law_refused" "_law_refused" (C8.fnArgs s__law_refused) (C8.fnBody s__law_refused) (C8.fnScope s__law_refused) .none kV__law_refused dc__law_refused pm__law_refused an__law_refused cd__law_refused ct__law_refused), sl__law_refused⟩)
    (co__law_refused : PySem.W.codeIn K cd__law_refused "_law_refused" = true)
    (k__law_refused : PySem.W.keepIn K (.ref f__law_refused) = true)
    (a__law_wide : PySem.W.nsIn K mainGlobals "_law_wide" = some (some (.ref f__law_wide)))
    (l__law_wide : K.lookup f__law_wide = some ⟨oc__law_wide, od__law_wide, .func (PySem.W.fnOf "_law_wide" "_law_wide" (C8.fnArgs s__law_wide) (C8.fnBody s__law_wide) (C8.fnScope s__law_wide) .none kV__law_wide dc__law_wide pm__law_wide an__law_wide cd__law_wide ct__law_wide), sl__law_wide⟩)
    (co__law_wide : PySem.W.codeIn K cd__law_wide "_law_wide" = true)
    (k__law_wide : PySem.W.keepIn K (.ref f__law_wide) = true)
    (a__law_doors : PySem.W.nsIn K mainGlobals "_law_doors" = some (some (.ref f__law_doors)))
    (l__law_doors : K.lookup f__law_doors = some ⟨oc__law_doors, od__law_doors, .func (PySem.W.fnOf "_law_doors" "_law_doors" (C8.fnArgs s__law_doors) (C8.fnBody s__law_doors) (C8.fnScope s__law_doors) .none kV__law_doors dc__law_doors pm__law_doors an__law_doors cd__law_doors ct__law_doors), sl__law_doors⟩)
    (co__law_doors : PySem.W.codeIn K cd__law_doors "_law_doors" = true)
    (k__law_doors : PySem.W.keepIn K (.ref f__law_doors) = true)
    (a_law : PySem.W.nsIn K mainGlobals "law" = some (some (.ref f_law)))
    (l_law : K.lookup f_law = some ⟨oc_law, od_law, .func (PySem.W.fnOf "law" "law" (C8.fnArgs s_law) (C8.fnBody s_law) (C8.fnScope s_law) .none kV_law dc_law pm_law an_law cd_law ct_law), sl_law⟩)
    (co_law : PySem.W.codeIn K cd_law "law" = true)
    (k_law : PySem.W.keepIn K (.ref f_law) = true)
    (a_te : PySem.W.findIn K (.ref B) "__init__" = some (some (.ref f_te)))
    (l_te : K.lookup f_te = some ⟨oc_te, od_te, .func (PySem.W.fnOf "__init__" "TableError.__init__" (C8.fnArgs s_TableError___init__) (C8.fnBody s_TableError___init__) (C8.fnScope s_TableError___init__) .none kV_te dc_te pm_te an_te cd_te ct_te), sl_te⟩)
    (co_te : PySem.W.codeIn K cd_te "TableError.__init__" = true)
    (k_te : PySem.W.keepIn K (.ref f_te) = true)
    (a_oe : PySem.W.findIn K (.ref O) "__init__" = some (some (.ref f_oe)))
    (l_oe : K.lookup f_oe = some ⟨oc_oe, od_oe, .func (PySem.W.fnOf "__init__" "OneDirectionOnly.__init__" (C8.fnArgs s_OneDirectionOnly___init__) (C8.fnBody s_OneDirectionOnly___init__) (C8.fnScope s_OneDirectionOnly___init__) .none kV_oe dc_oe pm_oe an_oe cd_oe ct_oe), sl_oe⟩)
    (co_oe : PySem.W.codeIn K cd_oe "OneDirectionOnly.__init__" = true)
    (k_oe : PySem.W.keepIn K (.ref f_oe) = true)
    (g_B : PySem.W.nsIn K mainGlobals "TableError" = some (some (.ref B)))
    (g_M : PySem.W.nsIn K mainGlobals "MixedDimensions" = some (some (.ref M)))
    (g_O : PySem.W.nsIn K mainGlobals "OneDirectionOnly" = some (some (.ref O)))
    (g_Z : PySem.W.nsIn K mainGlobals "ZeroRow" = some (some (.ref Z)))
    (g_C : PySem.W.nsIn K mainGlobals "BadPlace" = some (some (.ref C)))
    (xl_M : K.lookup M = some (excClassObj nm_M q_M M N_M bs_M bm_M true sn_M sub_M ab_M col_M dd_M m0_M m1_M (some (.str "MixedDimensions" tk_M)) m3_M m5_M "ValueError.__new__"))
    (vb_M : PySem.HandSPX.refsVE bm_M = true)
    (sa_M : PySem.W.findIn K (.ref M) "__setattr__" = some (some (.builtin "object.__setattr__")))
    (ex_M : PySem.W.subIn K (.ref M) (.type "BaseException") = some true)
    (ty_M : PySem.W.typeIn K (.ref M) = some (.type "type"))
    (kc_M : PySem.W.keepIn K (.ref M) = true)
    (ga_M : PySem.W.findIn K (.ref M) "__getattribute__" = some (some (.builtin "BaseException.__getattribute__")))
    (gg_M : PySem.W.findIn K (.ref M) "__getattr__" = some none)
    (hd_M : PySem.W.hasDictIn K M = true)
    (ha_M : PySem.W.findIn K (.ref M) "__class__" = some (some (.builtin "object.__class__")))
    (mr_M : PySem.W.mroIn K M (.type "object") = some true)
    (rd_M : PySem.W.readsIn K M (.type "type") = true)
    (fn_M : PySem.W.findCls K (.ref M) (.type "type") "__name__" = some (.get (.builtin "getset_descriptor.__get__") (.builtin "type.__name__") (.ref M) (.type "type")))
    (nw_M : PySem.W.findIn K (.ref M) "word" = some none)
    (ni_M : PySem.W.findIn K (.ref M) "index" = some none)
    (in_M : PySem.W.findIn K (.ref M) "__init__" = some (some (.ref f_te)))
    (xl_O : K.lookup O = some (excClassObj nm_O q_O O N_O bs_O bm_O true sn_O sub_O ab_O col_O dd_O m0_O m1_O (some (.str "OneDirectionOnly" tk_O)) m3_O m5_O "ValueError.__new__"))
    (vb_O : PySem.HandSPX.refsVE bm_O = true)
    (sa_O : PySem.W.findIn K (.ref O) "__setattr__" = some (some (.builtin "object.__setattr__")))
    (ex_O : PySem.W.subIn K (.ref O) (.type "BaseException") = some true)
    (ty_O : PySem.W.typeIn K (.ref O) = some (.type "type"))
    (kc_O : PySem.W.keepIn K (.ref O) = true)
    (ga_O : PySem.W.findIn K (.ref O) "__getattribute__" = some (some (.builtin "BaseException.__getattribute__")))
    (gg_O : PySem.W.findIn K (.ref O) "__getattr__" = some none)
    (hd_O : PySem.W.hasDictIn K O = true)
    (ha_O : PySem.W.findIn K (.ref O) "__class__" = some (some (.builtin "object.__class__")))
    (mr_O : PySem.W.mroIn K O (.type "object") = some true)
    (rd_O : PySem.W.readsIn K O (.type "type") = true)
    (fn_O : PySem.W.findCls K (.ref O) (.type "type") "__name__" = some (.get (.builtin "getset_descriptor.__get__") (.builtin "type.__name__") (.ref O) (.type "type")))
    (nw_O : PySem.W.findIn K (.ref O) "word" = some none)
    (ni_O : PySem.W.findIn K (.ref O) "index" = some none)
    (in_O : PySem.W.findIn K (.ref O) "__init__" = some (some (.ref f_oe)))
    (hn : PySem.W.specialIn K (.builtin "object.__class__") "__get__" = some (some (.builtin "getset_descriptor.__get__")))
    (ht : PySem.W.takesIn K (.builtin "object.__class__") = some true)
    (g_FEW : PySem.W.nsIn K mainGlobals "FEW_PAIRS" = some (some (.int 2000 tk_FEW)))
    (ti_te : PySem.W.typeIn K (.ref f_te) = some (.type "function"))
    (rB : PySem.W.readsIn K B (.type "type") = true)
    (sB : PySem.W.specialIn K (.ref B) "__getattribute__" = some (some (.builtin "type.__getattribute__")))
    (fB : PySem.W.findCls K (.ref B) (.type "type") "__init__" = some (.val (.ref f_te)))
    (ti_oe : PySem.W.typeIn K (.ref f_oe) = some (.type "function"))
    (nd : PySem.W.findIn K (.ref O) "dimension" = some none)
    (xM : PySem.W.exmOne K (.ref M) (.ref B) = some true)
    (xO : PySem.W.exmOne K (.ref O) (.ref B) = some true)
    (vM : PySem.W.kitOne K (.ref M) (.type "ValueError") = some true)
    (vO : PySem.W.kitOne K (.ref O) (.type "ValueError") = some true)
    (bM : PySem.W.kitOne K (.ref M) (.ref B) = some true)
    (bO : PySem.W.kitOne K (.ref O) (.ref B) = some true)
    (k1 : PySem.W.kitOne K (.ref M) (.ref M) = some true)
    (k2 : PySem.W.kitOne K (.ref M) (.ref O) = some false)
    (k3 : PySem.W.kitOne K (.ref M) (.ref Z) = some false)
    (k4 : PySem.W.kitOne K (.ref M) (.ref C) = some false)
    (k5 : PySem.W.kitOne K (.ref O) (.ref M) = some false)
    (k6 : PySem.W.kitOne K (.ref O) (.ref O) = some true)
    (k7 : PySem.W.kitOne K (.ref O) (.ref Z) = some false)
    (k8 : PySem.W.kitOne K (.ref O) (.ref C) = some false) :
    ∃ fd : FuncData, (∀ (s : Shared) (v : Value), BindsTo s fd ⟨[v], []⟩ [("_law_script", v)]) ∧ ∀ base : Heap, K.In base → base.Ns mainGlobals mg → FnOk l.prog w K mg base L2.CX0 11 fa fd ["_law_script"] (spLaw K) := by
  have e := hfa.symm.trans (PySem.W.mg_of X G a_law)
  cases e
  have T : Bi mg := ⟨PySem.W.mg_none_of X G z_len, PySem.W.mg_none_of X G z_int, PySem.W.mg_none_of X G z_str, PySem.W.mg_none_of X G z_bool, PySem.W.mg_none_of X G z_list, PySem.W.mg_none_of X G z_tuple, PySem.W.mg_none_of X G z_range, PySem.W.mg_none_of X G z_enumerate, PySem.W.mg_none_of X G z_isinstance, PySem.W.mg_none_of X G z_sorted, PySem.W.mg_none_of X G z_abs, PySem.W.mg_none_of X G z_any, PySem.W.mg_none_of X G z_all, PySem.W.mg_none_of X G z_sum, PySem.W.mg_none_of X G z_min, PySem.W.mg_none_of X G z_max, PySem.W.mg_none_of X G z_zip, PySem.W.mg_none_of X G z_set⟩
  have D_places_length : C8.Def K mg "places_length" s_places_length f_places_length _ := ⟨⟨⟨_, _, _, _, _, _, _, _, _, _, rfl, l_places_length, co_places_length⟩⟩, PySem.W.mg_of X G a_places_length, k_places_length⟩
  have b_places_length := D_places_length.fn.binds (ps := ["row"]) rfl fun _ _ _ _ _ _ us hl => match us, hl with | [_], _ => rfl
  have D_same_lengths : C8.Def K mg "same_lengths" s_same_lengths f_same_lengths _ := ⟨⟨⟨_, _, _, _, _, _, _, _, _, _, rfl, l_same_lengths, co_same_lengths⟩⟩, PySem.W.mg_of X G a_same_lengths, k_same_lengths⟩
  have b_same_lengths := D_same_lengths.fn.binds (ps := ["lengths"]) rfl fun _ _ _ _ _ _ us hl => match us, hl with | [_], _ => rfl
  have D_same_dimension : C8.Def K mg "same_dimension" s_same_dimension f_same_dimension _ := ⟨⟨⟨_, _, _, _, _, _, _, _, _, _, rfl, l_same_dimension, co_same_dimension⟩⟩, PySem.W.mg_of X G a_same_dimension, k_same_dimension⟩
  have D_one_direction : C8.Def K mg "one_direction" s_one_direction f_one_direction _ := ⟨⟨⟨_, _, _, _, _, _, _, _, _, _, rfl, l_one_direction, co_one_direction⟩⟩, PySem.W.mg_of X G a_one_direction, k_one_direction⟩
  have b_one_direction := D_one_direction.fn.binds (ps := ["rows"]) rfl fun _ _ _ _ _ _ us hl => match us, hl with | [_], _ => rfl
  have D_bounds : C8.Def K mg "bounds" s_bounds f_bounds _ := ⟨⟨⟨_, _, _, _, _, _, _, _, _, _, rfl, l_bounds, co_bounds⟩⟩, PySem.W.mg_of X G a_bounds, k_bounds⟩
  have b_bounds := D_bounds.fn.binds (ps := ["row"]) rfl fun _ _ _ _ _ _ us hl => match us, hl with | [_], _ => rfl
  have D_product_sizes : C8.Def K mg "product_sizes" s_product_sizes f_product_sizes _ := ⟨⟨⟨_, _, _, _, _, _, _, _, _, _, rfl, l_product_sizes, co_product_sizes⟩⟩, PySem.W.mg_of X G a_product_sizes, k_product_sizes⟩
  have b_product_sizes := D_product_sizes.fn.binds (ps := ["first", "second"]) rfl fun _ _ _ _ _ _ us hl => match us, hl with | [_, _], _ => rfl
  have D_longest : C8.Def K mg "longest" s_longest f_longest _ := ⟨⟨⟨_, _, _, _, _, _, _, _, _, _, rfl, l_longest, co_longest⟩⟩, PySem.W.mg_of X G a_longest, k_longest⟩
  have b_longest := D_longest.fn.binds (ps := ["row"]) rfl fun _ _ _ _ _ _ us hl => match us, hl with | [_], _ => rfl
  have D_digit_bits : C8.Def K mg "digit_bits" s_digit_bits f_digit_bits _ := ⟨⟨⟨_, _, _, _, _, _, _, _, _, _, rfl, l_digit_bits, co_digit_bits⟩⟩, PySem.W.mg_of X G a_digit_bits, k_digit_bits⟩
  have b_digit_bits := D_digit_bits.fn.binds (ps := ["first", "second"]) rfl fun _ _ _ _ _ _ us hl => match us, hl with | [_, _], _ => rfl
  have D_is_crowded : C8.Def K mg "is_crowded" s_is_crowded f_is_crowded _ := ⟨⟨⟨_, _, _, _, _, _, _, _, _, _, rfl, l_is_crowded, co_is_crowded⟩⟩, PySem.W.mg_of X G a_is_crowded, k_is_crowded⟩
  have b_is_crowded := D_is_crowded.fn.binds (ps := ["first", "second"]) rfl fun _ _ _ _ _ _ us hl => match us, hl with | [_, _], _ => rfl
  have D_digit_at : C8.Def K mg "digit_at" s_digit_at f_digit_at _ := ⟨⟨⟨_, _, _, _, _, _, _, _, _, _, rfl, l_digit_at, co_digit_at⟩⟩, PySem.W.mg_of X G a_digit_at, k_digit_at⟩
  have b_digit_at := D_digit_at.fn.binds (ps := ["place", "lows", "sizes"]) rfl fun _ _ _ _ _ _ us hl => match us, hl with | [_, _, _], _ => rfl
  have D_place_at : C8.Def K mg "place_at" s_place_at f_place_at _ := ⟨⟨⟨_, _, _, _, _, _, _, _, _, _, rfl, l_place_at, co_place_at⟩⟩, PySem.W.mg_of X G a_place_at, k_place_at⟩
  have b_place_at := D_place_at.fn.binds (ps := ["index", "lows", "sizes"]) rfl fun _ _ _ _ _ _ us hl => match us, hl with | [_, _, _], _ => rfl
  have D_joined_digits : C8.Def K mg "joined_digits" s_joined_digits f_joined_digits _ := ⟨⟨⟨_, _, _, _, _, _, _, _, _, _, rfl, l_joined_digits, co_joined_digits⟩⟩, PySem.W.mg_of X G a_joined_digits, k_joined_digits⟩
  have b_joined_digits := D_joined_digits.fn.binds (ps := ["digits", "bits"]) rfl fun _ _ _ _ _ _ us hl => match us, hl with | [_, _], _ => rfl
  have D_low_digit : C8.Def K mg "low_digit" s_low_digit f_low_digit _ := ⟨⟨⟨_, _, _, _, _, _, _, _, _, _, rfl, l_low_digit, co_low_digit⟩⟩, PySem.W.mg_of X G a_low_digit, k_low_digit⟩
  have b_low_digit := D_low_digit.fn.binds (ps := ["number", "bits"]) rfl fun _ _ _ _ _ _ us hl => match us, hl with | [_, _], _ => rfl
  have D_split_digits : C8.Def K mg "split_digits" s_split_digits f_split_digits _ := ⟨⟨⟨_, _, _, _, _, _, _, _, _, _, rfl, l_split_digits, co_split_digits⟩⟩, PySem.W.mg_of X G a_split_digits, k_split_digits⟩
  have b_split_digits := D_split_digits.fn.binds (ps := ["number", "bits", "many"]) rfl fun _ _ _ _ _ _ us hl => match us, hl with | [_, _, _], _ => rfl
  have D_great_integer : C8.Def K mg "great_integer" s_great_integer f_great_integer _ := ⟨⟨⟨_, _, _, _, _, _, _, _, _, _, rfl, l_great_integer, co_great_integer⟩⟩, PySem.W.mg_of X G a_great_integer, k_great_integer⟩
  have b_great_integer := D_great_integer.fn.binds (ps := ["row", "sizes", "bits"]) rfl fun _ _ _ _ _ _ us hl => match us, hl with | [_, _, _], _ => rfl
  have D_crowded_product : C8.Def K mg "crowded_product" s_crowded_product f_crowded_product _ := ⟨⟨⟨_, _, _, _, _, _, _, _, _, _, rfl, l_crowded_product, co_crowded_product⟩⟩, PySem.W.mg_of X G a_crowded_product, k_crowded_product⟩
  have b_crowded_product := D_crowded_product.fn.binds (ps := ["first", "second"]) rfl fun _ _ _ _ _ _ us hl => match us, hl with | [_, _], _ => rfl
  have D_row_of : C8.Def K mg "row_of" s_row_of f_row_of _ := ⟨⟨⟨_, _, _, _, _, _, _, _, _, _, rfl, l_row_of, co_row_of⟩⟩, PySem.W.mg_of X G a_row_of, k_row_of⟩
  have b_row_of := D_row_of.fn.binds (ps := ["numbers"]) rfl fun _ _ _ _ _ _ us hl => match us, hl with | [_], _ => rfl
  have D_reach : C8.Def K mg "reach" s_reach f_reach _ := ⟨⟨⟨_, _, _, _, _, _, _, _, _, _, rfl, l_reach, co_reach⟩⟩, PySem.W.mg_of X G a_reach, k_reach⟩
  have b_reach := D_reach.fn.binds (ps := ["row"]) rfl fun _ _ _ _ _ _ us hl => match us, hl with | [_], _ => rfl
  have D_key_base : C8.Def K mg "key_base" s_key_base f_key_base _ := ⟨⟨⟨_, _, _, _, _, _, _, _, _, _, rfl, l_key_base, co_key_base⟩⟩, PySem.W.mg_of X G a_key_base, k_key_base⟩
  have b_key_base := D_key_base.fn.binds (ps := ["first", "second"]) rfl fun _ _ _ _ _ _ us hl => match us, hl with | [_, _], _ => rfl
  have D_key_of : C8.Def K mg "key_of" s_key_of f_key_of _ := ⟨⟨⟨_, _, _, _, _, _, _, _, _, _, rfl, l_key_of, co_key_of⟩⟩, PySem.W.mg_of X G a_key_of, k_key_of⟩
  have b_key_of := D_key_of.fn.binds (ps := ["place", "base"]) rfl fun _ _ _ _ _ _ us hl => match us, hl with | [_, _], _ => rfl
  have D_place_of : C8.Def K mg "place_of" s_place_of f_place_of _ := ⟨⟨⟨_, _, _, _, _, _, _, _, _, _, rfl, l_place_of, co_place_of⟩⟩, PySem.W.mg_of X G a_place_of, k_place_of⟩
  have b_place_of := D_place_of.fn.binds (ps := ["key", "base", "length"]) rfl fun _ _ _ _ _ _ us hl => match us, hl with | [_, _, _], _ => rfl
  have D_keyed : C8.Def K mg "keyed" s_keyed f_keyed _ := ⟨⟨⟨_, _, _, _, _, _, _, _, _, _, rfl, l_keyed, co_keyed⟩⟩, PySem.W.mg_of X G a_keyed, k_keyed⟩
  have b_keyed := D_keyed.fn.binds (ps := ["row", "base"]) rfl fun _ _ _ _ _ _ us hl => match us, hl with | [_, _], _ => rfl
  have D_unkeyed : C8.Def K mg "unkeyed" s_unkeyed f_unkeyed _ := ⟨⟨⟨_, _, _, _, _, _, _, _, _, _, rfl, l_unkeyed, co_unkeyed⟩⟩, PySem.W.mg_of X G a_unkeyed, k_unkeyed⟩
  have b_unkeyed := D_unkeyed.fn.binds (ps := ["numbers", "base", "length"]) rfl fun _ _ _ _ _ _ us hl => match us, hl with | [_, _, _], _ => rfl
  have D_multiply : C8.Def K mg "multiply" s_multiply f_multiply _ := ⟨⟨⟨_, _, _, _, _, _, _, _, _, _, rfl, l_multiply, co_multiply⟩⟩, PySem.W.mg_of X G a_multiply, k_multiply⟩
  have b_multiply := D_multiply.fn.binds (ps := ["first", "second"]) rfl fun _ _ _ _ _ _ us hl => match us, hl with | [_, _], _ => rfl
  have D_mirror : C8.Def K mg "mirror" s_mirror f_mirror _ := ⟨⟨⟨_, _, _, _, _, _, _, _, _, _, rfl, l_mirror, co_mirror⟩⟩, PySem.W.mg_of X G a_mirror, k_mirror⟩
  have b_mirror := D_mirror.fn.binds (ps := ["row"]) rfl fun _ _ _ _ _ _ us hl => match us, hl with | [_], _ => rfl
  have D_comb : C8.Def K mg "comb" s_comb f_comb _ := ⟨⟨⟨_, _, _, _, _, _, _, _, _, _, rfl, l_comb, co_comb⟩⟩, PySem.W.mg_of X G a_comb, k_comb⟩
  have b_comb := D_comb.fn.binds (ps := ["row", "count"]) rfl fun _ _ _ _ _ _ us hl => match us, hl with | [_, _], _ => rfl
  have D_uncomb : C8.Def K mg "uncomb" s_uncomb f_uncomb _ := ⟨⟨⟨_, _, _, _, _, _, _, _, _, _, rfl, l_uncomb, co_uncomb⟩⟩, PySem.W.mg_of X G a_uncomb, k_uncomb⟩
  have b_uncomb := D_uncomb.fn.binds (ps := ["rows"]) rfl fun _ _ _ _ _ _ us hl => match us, hl with | [_], _ => rfl
  have D_cross_table : C8.Def K mg "cross_table" s_cross_table f_cross_table _ := ⟨⟨⟨_, _, _, _, _, _, _, _, _, _, rfl, l_cross_table, co_cross_table⟩⟩, PySem.W.mg_of X G a_cross_table, k_cross_table⟩
  have b_cross_table := D_cross_table.fn.binds (ps := ["first", "second"]) rfl fun _ _ _ _ _ _ us hl => match us, hl with | [_, _], _ => rfl
  have D_own_table : C8.Def K mg "own_table" s_own_table f_own_table _ := ⟨⟨⟨_, _, _, _, _, _, _, _, _, _, rfl, l_own_table, co_own_table⟩⟩, PySem.W.mg_of X G a_own_table, k_own_table⟩
  have b_own_table := D_own_table.fn.binds (ps := ["row"]) rfl fun _ _ _ _ _ _ us hl => match us, hl with | [_], _ => rfl
  have D_list_tables : C8.Def K mg "list_tables" s_list_tables f_list_tables _ := ⟨⟨⟨_, _, _, _, _, _, _, _, _, _, rfl, l_list_tables, co_list_tables⟩⟩, PySem.W.mg_of X G a_list_tables, k_list_tables⟩
  have b_list_tables := D_list_tables.fn.binds (ps := ["rows"]) rfl fun _ _ _ _ _ _ us hl => match us, hl with | [_], _ => rfl
  have D__law_cell : C8.Def K mg "_law_cell" s__law_cell f__law_cell _ := ⟨⟨⟨_, _, _, _, _, _, _, _, _, _, rfl, l__law_cell, co__law_cell⟩⟩, PySem.W.mg_of X G a__law_cell, k__law_cell⟩
  have b__law_cell := D__law_cell.fn.binds (ps := ["_law_script", "_law_k"]) rfl fun _ _ _ _ _ _ us hl => match us, hl with | [_, _], _ => rfl
  have D__law_draws : C8.Def K mg "_law_draws" s__law_draws f__law_draws _ := ⟨⟨⟨_, _, _, _, _, _, _, _, _, _, rfl, l__law_draws, co__law_draws⟩⟩, PySem.W.mg_of X G a__law_draws, k__law_draws⟩
  have b__law_draws := D__law_draws.fn.binds (ps := ["_law_cell_here", "_law_sizes"]) rfl fun _ _ _ _ _ _ us hl => match us, hl with | [_, _], _ => rfl
  have D__law_is_integer : C8.Def K mg "_law_is_integer" s__law_is_integer f__law_is_integer _ := ⟨⟨⟨_, _, _, _, _, _, _, _, _, _, rfl, l__law_is_integer, co__law_is_integer⟩⟩, PySem.W.mg_of X G a__law_is_integer, k__law_is_integer⟩
  have b__law_is_integer := D__law_is_integer.fn.binds (ps := ["_law_actual"]) rfl fun _ _ _ _ _ _ us hl => match us, hl with | [_], _ => rfl
  have D__law_is_place : C8.Def K mg "_law_is_place" s__law_is_place f__law_is_place _ := ⟨⟨⟨_, _, _, _, _, _, _, _, _, _, rfl, l__law_is_place, co__law_is_place⟩⟩, PySem.W.mg_of X G a__law_is_place, k__law_is_place⟩
  have b__law_is_place := D__law_is_place.fn.binds (ps := ["_law_actual"]) rfl fun _ _ _ _ _ _ us hl => match us, hl with | [_], _ => rfl
  have D__law_is_row : C8.Def K mg "_law_is_row" s__law_is_row f__law_is_row _ := ⟨⟨⟨_, _, _, _, _, _, _, _, _, _, rfl, l__law_is_row, co__law_is_row⟩⟩, PySem.W.mg_of X G a__law_is_row, k__law_is_row⟩
  have b__law_is_row := D__law_is_row.fn.binds (ps := ["_law_actual"]) rfl fun _ _ _ _ _ _ us hl => match us, hl with | [_], _ => rfl
  have D__law_same : C8.Def K mg "_law_same" s__law_same f__law_same _ := ⟨⟨⟨_, _, _, _, _, _, _, _, _, _, rfl, l__law_same, co__law_same⟩⟩, PySem.W.mg_of X G a__law_same, k__law_same⟩
  have b__law_same := D__law_same.fn.binds (ps := ["_law_actual", "_law_expected"]) rfl fun _ _ _ _ _ _ us hl => match us, hl with | [_, _], _ => rfl
  have D__law_is_error : C8.Def K mg "_law_is_error" s__law_is_error f__law_is_error _ := ⟨⟨⟨_, _, _, _, _, _, _, _, _, _, rfl, l__law_is_error, co__law_is_error⟩⟩, PySem.W.mg_of X G a__law_is_error, k__law_is_error⟩
  have b__law_is_error := D__law_is_error.fn.binds (ps := ["_law_e", "_law_word"]) rfl fun _ _ _ _ _ _ us hl => match us, hl with | [_, _], _ => rfl
  have D__law_plus : C8.Def K mg "_law_plus" s__law_plus f__law_plus _ := ⟨⟨⟨_, _, _, _, _, _, _, _, _, _, rfl, l__law_plus, co__law_plus⟩⟩, PySem.W.mg_of X G a__law_plus, k__law_plus⟩
  have b__law_plus := D__law_plus.fn.binds (ps := ["_law_place", "_law_other"]) rfl fun _ _ _ _ _ _ us hl => match us, hl with | [_, _], _ => rfl
  have D__law_back : C8.Def K mg "_law_back" s__law_back f__law_back _ := ⟨⟨⟨_, _, _, _, _, _, _, _, _, _, rfl, l__law_back, co__law_back⟩⟩, PySem.W.mg_of X G a__law_back, k__law_back⟩
  have b__law_back := D__law_back.fn.binds (ps := ["_law_place"]) rfl fun _ _ _ _ _ _ us hl => match us, hl with | [_], _ => rfl
  have D__law_row : C8.Def K mg "_law_row" s__law_row f__law_row _ := ⟨⟨⟨_, _, _, _, _, _, _, _, _, _, rfl, l__law_row, co__law_row⟩⟩, PySem.W.mg_of X G a__law_row, k__law_row⟩
  have b__law_row := D__law_row.fn.binds (ps := ["_law_pairs"]) rfl fun _ _ _ _ _ _ us hl => match us, hl with | [_], _ => rfl
  have D__law_scaled : C8.Def K mg "_law_scaled" s__law_scaled f__law_scaled _ := ⟨⟨⟨_, _, _, _, _, _, _, _, _, _, rfl, l__law_scaled, co__law_scaled⟩⟩, PySem.W.mg_of X G a__law_scaled, k__law_scaled⟩
  have b__law_scaled := D__law_scaled.fn.binds (ps := ["_law_row_here", "_law_factor"]) rfl fun _ _ _ _ _ _ us hl => match us, hl with | [_, _], _ => rfl
  have D__law_times : C8.Def K mg "_law_times" s__law_times f__law_times _ := ⟨⟨⟨_, _, _, _, _, _, _, _, _, _, rfl, l__law_times, co__law_times⟩⟩, PySem.W.mg_of X G a__law_times, k__law_times⟩
  have b__law_times := D__law_times.fn.binds (ps := ["_law_first", "_law_second"]) rfl fun _ _ _ _ _ _ us hl => match us, hl with | [_, _], _ => rfl
  have D__law_mirror : C8.Def K mg "_law_mirror" s__law_mirror f__law_mirror _ := ⟨⟨⟨_, _, _, _, _, _, _, _, _, _, rfl, l__law_mirror, co__law_mirror⟩⟩, PySem.W.mg_of X G a__law_mirror, k__law_mirror⟩
  have b__law_mirror := D__law_mirror.fn.binds (ps := ["_law_row_here"]) rfl fun _ _ _ _ _ _ us hl => match us, hl with | [_], _ => rfl
  have D__law_moved : C8.Def K mg "_law_moved" s__law_moved f__law_moved _ := ⟨⟨⟨_, _, _, _, _, _, _, _, _, _, rfl, l__law_moved, co__law_moved⟩⟩, PySem.W.mg_of X G a__law_moved, k__law_moved⟩
  have b__law_moved := D__law_moved.fn.binds (ps := ["_law_row_here", "_law_by"]) rfl fun _ _ _ _ _ _ us hl => match us, hl with | [_, _], _ => rfl
  have D__law_cross : C8.Def K mg "_law_cross" s__law_cross f__law_cross _ := ⟨⟨⟨_, _, _, _, _, _, _, _, _, _, rfl, l__law_cross, co__law_cross⟩⟩, PySem.W.mg_of X G a__law_cross, k__law_cross⟩
  have b__law_cross := D__law_cross.fn.binds (ps := ["_law_first", "_law_second"]) rfl fun _ _ _ _ _ _ us hl => match us, hl with | [_, _], _ => rfl
  have D__law_zero : C8.Def K mg "_law_zero" s__law_zero f__law_zero _ := ⟨⟨⟨_, _, _, _, _, _, _, _, _, _, rfl, l__law_zero, co__law_zero⟩⟩, PySem.W.mg_of X G a__law_zero, k__law_zero⟩
  have b__law_zero := D__law_zero.fn.binds (ps := ["_law_count"]) rfl fun _ _ _ _ _ _ us hl => match us, hl with | [_], _ => rfl
  have D__law_places : C8.Def K mg "_law_places" s__law_places f__law_places _ := ⟨⟨⟨_, _, _, _, _, _, _, _, _, _, rfl, l__law_places, co__law_places⟩⟩, PySem.W.mg_of X G a__law_places, k__law_places⟩
  have b__law_places := D__law_places.fn.binds (ps := ["_law_box"]) rfl fun _ _ _ _ _ _ us hl => match us, hl with | [_], _ => rfl
  have D__law_drawn : C8.Def K mg "_law_drawn" s__law_drawn f__law_drawn _ := ⟨⟨⟨_, _, _, _, _, _, _, _, _, _, rfl, l__law_drawn, co__law_drawn⟩⟩, PySem.W.mg_of X G a__law_drawn, k__law_drawn⟩
  have b__law_drawn := D__law_drawn.fn.binds (ps := ["_law_cell_here", "_law_box", "_law_reach", "_law_moves"]) rfl fun _ _ _ _ _ _ us hl => match us, hl with | [_, _, _, _], _ => rfl
  have D__law_copies : C8.Def K mg "_law_copies" s__law_copies f__law_copies _ := ⟨⟨⟨_, _, _, _, _, _, _, _, _, _, rfl, l__law_copies, co__law_copies⟩⟩, PySem.W.mg_of X G a__law_copies, k__law_copies⟩
  have b__law_copies := D__law_copies.fn.binds (ps := ["_law_rows_here"]) rfl fun _ _ _ _ _ _ us hl => match us, hl with | [_], _ => rfl
  have D__law_same_list : C8.Def K mg "_law_same_list" s__law_same_list f__law_same_list _ := ⟨⟨⟨_, _, _, _, _, _, _, _, _, _, rfl, l__law_same_list, co__law_same_list⟩⟩, PySem.W.mg_of X G a__law_same_list, k__law_same_list⟩
  have b__law_same_list := D__law_same_list.fn.binds (ps := ["_law_actual", "_law_expected"]) rfl fun _ _ _ _ _ _ us hl => match us, hl with | [_, _], _ => rfl
  have D__law_apart : C8.Def K mg "_law_apart" s__law_apart f__law_apart _ := ⟨⟨⟨_, _, _, _, _, _, _, _, _, _, rfl, l__law_apart, co__law_apart⟩⟩, PySem.W.mg_of X G a__law_apart, k__law_apart⟩
  have b__law_apart := D__law_apart.fn.binds (ps := ["_law_rows_here"]) rfl fun _ _ _ _ _ _ us hl => match us, hl with | [_], _ => rfl
  have D__law_rows : C8.Def K mg "_law_rows" s__law_rows f__law_rows _ := ⟨⟨⟨_, _, _, _, _, _, _, _, _, _, rfl, l__law_rows, co__law_rows⟩⟩, PySem.W.mg_of X G a__law_rows, k__law_rows⟩
  have b__law_rows := D__law_rows.fn.binds (ps := ["_law_script", "_law_count", "_law_start"]) rfl fun _ _ _ _ _ _ us hl => match us, hl with | [_, _, _], _ => rfl
  have D__law_line : C8.Def K mg "_law_line" s__law_line f__law_line _ := ⟨⟨⟨_, _, _, _, _, _, _, _, _, _, rfl, l__law_line, co__law_line⟩⟩, PySem.W.mg_of X G a__law_line, k__law_line⟩
  have b__law_line := D__law_line.fn.binds (ps := ["_law_cell_here", "_law_reach"]) rfl fun _ _ _ _ _ _ us hl => match us, hl with | [_, _], _ => rfl
  have D__law_whole : C8.Def K mg "_law_whole" s__law_whole f__law_whole _ := ⟨⟨⟨_, _, _, _, _, _, _, _, _, _, rfl, l__law_whole, co__law_whole⟩⟩, PySem.W.mg_of X G a__law_whole, k__law_whole⟩
  have b__law_whole := D__law_whole.fn.binds (ps := ["_law_rows_here"]) rfl fun _ _ _ _ _ _ us hl => match us, hl with | [_], _ => rfl
  have D__law_combed : C8.Def K mg "_law_combed" s__law_combed f__law_combed _ := ⟨⟨⟨_, _, _, _, _, _, _, _, _, _, rfl, l__law_combed, co__law_combed⟩⟩, PySem.W.mg_of X G a__law_combed, k__law_combed⟩
  have b__law_combed := D__law_combed.fn.binds (ps := ["_law_row_here", "_law_count"]) rfl fun _ _ _ _ _ _ us hl => match us, hl with | [_, _], _ => rfl
  have D__law_tables : C8.Def K mg "_law_tables" s__law_tables f__law_tables _ := ⟨⟨⟨_, _, _, _, _, _, _, _, _, _, rfl, l__law_tables, co__law_tables⟩⟩, PySem.W.mg_of X G a__law_tables, k__law_tables⟩
  have b__law_tables := D__law_tables.fn.binds (ps := ["_law_rows_here"]) rfl fun _ _ _ _ _ _ us hl => match us, hl with | [_], _ => rfl
  have D__law_sum : C8.Def K mg "_law_sum" s__law_sum f__law_sum _ := ⟨⟨⟨_, _, _, _, _, _, _, _, _, _, rfl, l__law_sum, co__law_sum⟩⟩, PySem.W.mg_of X G a__law_sum, k__law_sum⟩
  have b__law_sum := D__law_sum.fn.binds (ps := ["_law_tables_here", "_law_r"]) rfl fun _ _ _ _ _ _ us hl => match us, hl with | [_, _], _ => rfl
  have D__law_uncombs : C8.Def K mg "_law_uncombs" s__law_uncombs f__law_uncombs _ := ⟨⟨⟨_, _, _, _, _, _, _, _, _, _, rfl, l__law_uncombs, co__law_uncombs⟩⟩, PySem.W.mg_of X G a__law_uncombs, k__law_uncombs⟩
  have b__law_uncombs := D__law_uncombs.fn.binds (ps := ["_law_rows_here", "_law_given", "_law_whole_here"]) rfl fun _ _ _ _ _ _ us hl => match us, hl with | [_, _, _], _ => rfl
  have D__law_combs : C8.Def K mg "_law_combs" s__law_combs f__law_combs _ := ⟨⟨⟨_, _, _, _, _, _, _, _, _, _, rfl, l__law_combs, co__law_combs⟩⟩, PySem.W.mg_of X G a__law_combs, k__law_combs⟩
  have b__law_combs := D__law_combs.fn.binds (ps := ["_law_row_here", "_law_expected"]) rfl fun _ _ _ _ _ _ us hl => match us, hl with | [_, _], _ => rfl
  have D__law_tables_told : C8.Def K mg "_law_tables_told" s__law_tables_told f__law_tables_told _ := ⟨⟨⟨_, _, _, _, _, _, _, _, _, _, rfl, l__law_tables_told, co__law_tables_told⟩⟩, PySem.W.mg_of X G a__law_tables_told, k__law_tables_told⟩
  have b__law_tables_told := D__law_tables_told.fn.binds (ps := ["_law_rows_here", "_law_given", "_law_tables_here"]) rfl fun _ _ _ _ _ _ us hl => match us, hl with | [_, _, _], _ => rfl
  have D__law_refusal : C8.Def K mg "_law_refusal" s__law_refusal f__law_refusal _ := ⟨⟨⟨_, _, _, _, _, _, _, _, _, _, rfl, l__law_refusal, co__law_refusal⟩⟩, PySem.W.mg_of X G a__law_refusal, k__law_refusal⟩
  have b__law_refusal := D__law_refusal.fn.binds (ps := ["_law_door", "_law_rows_here", "_law_count"]) rfl fun _ _ _ _ _ _ us hl => match us, hl with | [_, _, _], _ => rfl
  have D__law_refused : C8.Def K mg "_law_refused" s__law_refused f__law_refused _ := ⟨⟨⟨_, _, _, _, _, _, _, _, _, _, rfl, l__law_refused, co__law_refused⟩⟩, PySem.W.mg_of X G a__law_refused, k__law_refused⟩
  have b__law_refused := D__law_refused.fn.binds (ps := ["_law_door", "_law_rows_here", "_law_count", "_law_due"]) rfl fun _ _ _ _ _ _ us hl => match us, hl with | [_, _, _, _], _ => rfl
  have D__law_wide : C8.Def K mg "_law_wide" s__law_wide f__law_wide _ := ⟨⟨⟨_, _, _, _, _, _, _, _, _, _, rfl, l__law_wide, co__law_wide⟩⟩, PySem.W.mg_of X G a__law_wide, k__law_wide⟩
  have b__law_wide := D__law_wide.fn.binds (ps := ["_law_cell_here", "_law_size"]) rfl fun _ _ _ _ _ _ us hl => match us, hl with | [_, _], _ => rfl
  have D__law_doors : C8.Def K mg "_law_doors" s__law_doors f__law_doors _ := ⟨⟨⟨_, _, _, _, _, _, _, _, _, _, rfl, l__law_doors, co__law_doors⟩⟩, PySem.W.mg_of X G a__law_doors, k__law_doors⟩
  have b__law_doors := D__law_doors.fn.binds (ps := ["_law_script", "_law_rows_here", "_law_draws_here"]) rfl fun _ _ _ _ _ _ us hl => match us, hl with | [_, _, _], _ => rfl
  have D_law : C8.Def K mg "law" s_law fa _ := ⟨⟨⟨_, _, _, _, _, _, _, _, _, _, rfl, l_law, co_law⟩⟩, hfa, k_law⟩
  have b_law := D_law.fn.binds (ps := ["_law_script"]) rfl fun _ _ _ _ _ _ us hl => match us, hl with | [_], _ => rfl
  have D_te : C8.Fun K "__init__" "TableError.__init__" s_TableError___init__ f_te _ := ⟨⟨_, _, _, _, _, _, _, _, _, _, rfl, l_te, co_te⟩⟩
  have b_te := D_te.binds (ps := ["self"]) rfl fun _ _ _ _ _ _ us hl => match us, hl with | [_], _ => rfl
  have D_oe : C8.Fun K "__init__" "OneDirectionOnly.__init__" s_OneDirectionOnly___init__ f_oe _ := ⟨⟨_, _, _, _, _, _, _, _, _, _, rfl, l_oe, co_oe⟩⟩
  have b_oe := D_oe.binds (ps := ["self", "dimension"]) rfl fun _ _ _ _ _ _ us hl => match us, hl with | [_, _], _ => rfl
  have oc_M : PySem.W.OtCls K M := ⟨ga_M, gg_M, ex_M, hd_M, ha_M, hn, ht, mr_M⟩
  have er_M : OtErr K M "MixedDimensions" := ⟨⟨⟨_, _, _, _, _, _, _, _, _, _, _, _, _, _, _, xl_M, vb_M⟩, sa_M, ex_M, ty_M, kc_M⟩, oc_M, ⟨⟨_, _, _, _, _, xl_M, rfl⟩, rd_M, ty_M, fn_M⟩, nw_M, ni_M⟩
  have ei_M : ErrI K mg "MixedDimensions" M f_te := ⟨PySem.W.mg_of X G g_M, er_M, in_M, ti_te⟩
  have oc_O : PySem.W.OtCls K O := ⟨ga_O, gg_O, ex_O, hd_O, ha_O, hn, ht, mr_O⟩
  have er_O : OtErr K O "OneDirectionOnly" := ⟨⟨⟨_, _, _, _, _, _, _, _, _, _, _, _, _, _, _, xl_O, vb_O⟩, sa_O, ex_O, ty_O, kc_O⟩, oc_O, ⟨⟨_, _, _, _, _, xl_O, rfl⟩, rd_O, ty_O, fn_O⟩, nw_O, ni_O⟩
  have ei_O : ErrI K mg "OneDirectionOnly" O f_oe := ⟨PySem.W.mg_of X G g_O, er_O, in_O, ti_oe⟩
  refine ⟨PySem.W.fnOf "law" "law" (C8.fnArgs s_law) (C8.fnBody s_law) (C8.fnScope s_law) .none kV_law dc_law pm_law an_law cd_law ct_law, fun s v => .of_eq rfl, fun base _ _ => ?_⟩
  have FD : FunD K "same_dimension" "same_dimension" (C8.fnArgs s_same_dimension) (C8.fnBody s_same_dimension) (C8.fnScope s_same_dimension) [V.ref A0_same_dimension] [] f_same_dimension _ := ⟨⟨_, _, _, _, _, _, _, _, _, _, rfl, l_same_dimension, co_same_dimension, .inr ⟨by simp, TD_same_dimension, _, [.ref A0_same_dimension], _, rfl, lt_same_dimension, rfl, .cons rfl .nil⟩, .inl rfl⟩, k_same_dimension⟩
  obtain ⟨ds1, vd1, bD1⟩ := FD.binds1 (ps := ["rows", "places"]) 1 0 (by simp) rfl fun T kV doc pm an cdv ct us its h1 h2 => match us, its, h1, h2 with | [_], [_], _, _ => ⟨_, rfl, rfl⟩
  have hA0 : ∀ H, SqT K H A0_same_dimension [] := fun H => .inr (⟨_, _, _, lu_same_dimension, rfl, rfl, Nat.zero_le _, .nil⟩)
  have GT : FnOk l.prog w K mg base L2.CX0 1 f_te _ ["self"] (spTE K) := ok_te D_te
  have RB : OtRead K B "__init__" f_te := ⟨rB, sB, fB, k_te⟩
  have gB := PySem.W.mg_of X G g_B
  have gM := PySem.W.mg_of X G g_M
  have gZ := PySem.W.mg_of X G g_Z
  have gO := PySem.W.mg_of X G g_O
  have gC := PySem.W.mg_of X G g_C
  have GI := ok_oe D_oe GT b_te RB gB
  have c1 := c__law_cell (P := l.prog) (w := w) (base := base) D__law_cell b__law_cell T
  have c2 : C8.Cal l.prog w K mg base 1 "_law_draws" (spDraws K) [] := c__law_draws D__law_draws b__law_draws T
  have c3 := c__law_is_integer (P := l.prog) (w := w) (base := base) D__law_is_integer b__law_is_integer T
  have c4 := c__law_is_place D__law_is_place b__law_is_place T c3
  have c5 := c__law_is_row D__law_is_row b__law_is_row T c4 c3
  have c6 := c__law_same D__law_same b__law_same T c5
  have c7 := c__law_back (P := l.prog) (w := w) (base := base) D__law_back b__law_back T
  have c8 := c__law_row (P := l.prog) (w := w) (base := base) D__law_row b__law_row T
  have c9 := c__law_plus (P := l.prog) (w := w) (base := base) D__law_plus b__law_plus T
  have c10 := c__law_places (P := l.prog) (w := w) (base := base) D__law_places b__law_places T
  have c12 := c__law_moved D__law_moved b__law_moved T c9
  have c13 := c__law_drawn D__law_drawn b__law_drawn T c10 c2 c8 c12
  have c15 := c__law_scaled D__law_scaled b__law_scaled T c8
  have c16 := c__law_times D__law_times b__law_times T c9 c8
  have c17 := c__law_mirror D__law_mirror b__law_mirror T c8 c7
  have c18 := c__law_cross D__law_cross b__law_cross T c16 c17
  have c19 := c__law_zero (P := l.prog) (w := w) (base := base) D__law_zero b__law_zero T
  have c20 := c__law_copies (P := l.prog) (w := w) (base := base) D__law_copies b__law_copies T
  have c21 := c__law_same_list D__law_same_list b__law_same_list T c6
  have c22 := c__law_apart (P := l.prog) (w := w) (base := base) D__law_apart b__law_apart T
  have c23 := c__law_rows D__law_rows b__law_rows T c1 c2 c13 c12
  have c24 := c__law_line D__law_line b__law_line T c2 c8
  have c25 := c__law_whole D__law_whole b__law_whole T c8
  have c26 := c__law_combed (P := l.prog) (w := w) (base := base) D__law_combed b__law_combed T
  have c27 := c__law_tables D__law_tables b__law_tables T c18 c17
  have c28 := c__law_sum D__law_sum b__law_sum T c12 c8
  have d1 := c_places_length (P := l.prog) (w := w) (base := base) D_places_length b_places_length T
  have d3 := c_reach (P := l.prog) (w := w) (base := base) D_reach b_reach T
  have d4 := c_key_base D_key_base b_key_base T d3
  have d5 := c_key_of (P := l.prog) (w := w) (base := base) D_key_of b_key_of T
  have d6 := c_place_of (P := l.prog) (w := w) (base := base) D_place_of b_place_of T
  have d7 := c_keyed D_keyed b_keyed T d5
  have d8 := c_unkeyed D_unkeyed b_unkeyed T d6
  have d9 := c_row_of (P := l.prog) (w := w) (base := base) D_row_of b_row_of T
  have d14 := c_mirror (P := l.prog) (w := w) (base := base) D_mirror b_mirror T
  have GS := ok_same_lengths D_same_lengths T ei_M GT b_te
  have GDT := ok_same_dimensionT D_same_dimension T D_same_lengths b_same_lengths GS d1
  have n1 := c_no (P := l.prog) (w := w) (base := base) (k := 1) D_digit_bits b_digit_bits
  have n2 := c_no (P := l.prog) (w := w) (base := base) (k := 1) D_product_sizes b_product_sizes
  have n3 := c_no (P := l.prog) (w := w) (base := base) (k := 1) D_crowded_product b_crowded_product
  have n4 := c_is_crowded D_is_crowded b_is_crowded T (PySem.W.mg_of X G g_FEW) n1 n2
  have GMu := ok_multiply D_multiply T D_same_dimension bD1 vd1 hA0 GDT d4 d7 d8 d1 n4 n3
  have GOd := ok_one_direction D_one_direction T ei_O nd GI b_oe D_same_dimension bD1 vd1 hA0 GDT d1
  have GCr := ok_cross_table D_cross_table T D_multiply b_multiply GMu d14
  have GOw := ok_own_table D_own_table T D_cross_table b_cross_table GCr
  have GCo := ok_comb D_comb T D_one_direction b_one_direction GOd
  have GUn := ok_uncomb D_uncomb T D_one_direction b_one_direction GOd d9
  have q1 := quietC D_cross_table b_cross_table .nil GCr crossC
  have GLt := ok_list_tables D_list_tables T D_same_dimension bD1 vd1 hA0 GDT q1
  have q2 := quietC D_own_table b_own_table .nil GOw (fun _ _ _ _ h => h)
  have q3 := quietC D_comb b_comb .nil GCo combC
  have q4 := quietC D_uncomb b_uncomb .nil GUn uncombC
  have q5 := quietC D_list_tables b_list_tables .nil GLt ltC
  have xcM : ErrD K B M O Z C M "MixedDimensions" true false := ⟨er_M, xM, bM, vM, k1, k2, k3, k4⟩
  have xcO : ErrD K B M O Z C O "OneDirectionOnly" false true := ⟨er_O, xO, bO, vO, k5, k6, k7, k8⟩
  have h1 := h__law_is_error (P := l.prog) (w := w) (base := base) D__law_is_error T gB (PySem.W.mg_none_of X G z_ValueError)
  have h3 := h__law_is_integer (P := l.prog) (w := w) (base := base) D__law_is_integer T
  have c30 := c__law_uncombs D__law_uncombs b__law_uncombs T q4 c6 c21
  have c31 := c__law_combs D__law_combs b__law_combs T q3 c6 c21 c22
  have c32 := c__law_tables_told D__law_tables_told b__law_tables_told T q5 c21 c22
  have c33 := c__law_refusal D__law_refusal b__law_refusal T gB gM gO gZ gC xcM xcO nd D_comb b_comb GCo D_uncomb b_uncomb GUn D_list_tables b_list_tables GLt D__law_is_error b__law_is_error h1 D__law_is_integer b__law_is_integer h3
  have c34 := c__law_wide D__law_wide b__law_wide T c13 c19
  have c35 := c__law_refused D__law_refused b__law_refused T c20 c33 c21
  have c36 := c__law_doors D__law_doors b__law_doors T c1 c34 c35 c30 c20 c25
  exact c_law D_law b_law T c1 c2 c23 c15 c20 c25 c30 c31 c27 c28 q2 c6 c32 c24 c26 c36
theorem walk {l : PySem.W.OpenLaw} {q : Program} {loose : List Str} {XP : (Str → Option Value) → Heap → Prop} {YP : World → Heap → Prop} {d : DefRec} {K : Params → PySem.W.Frag} (hn : l.most = some 63) (hdf : d.params.defaults = [])
    (hY : ∀ (w : World) (h : Heap), YP w h → (K w.params).In h)
    (F : ∀ (w : World) (mg : Str → Option Value) (fa : Addr) (h : Heap), (K w.params).In h → h.Ns mainGlobals mg → mg d.name = some (.ref fa) →
      ∃ fd : FuncData, (∀ (s : Shared) (u : Value), BindsTo s fd ⟨[u], []⟩ [("_law_script", u)]) ∧ ∀ base : Heap, (K w.params).In base → base.Ns mainGlobals mg → FnOk l.prog w (K w.params) mg base L2.CX0 11 fa fd ["_law_script"] (spLaw (K w.params))) :
    PySem.W.WalkO q loose XP YP l.row.toRowW d [] (fun f vs => PySem.call f vs) :=
  L2.walk_ofK (n := 63) (k := 11) (x := "_law_script") (CX := L2.CX0) (sp := spLaw) hn (by decide) hdf ⟨rfl, by decide, by decide⟩ hY F (fun _ _ a ns hl _ hS => ⟨a, ns, rfl, hS, hl, fun _ => rfl⟩) fun _ _ _ _ z => z
end OT
open PySem PySem.W PyProof.Rows
set_option maxRecDepth 100000 in
set_option maxHeartbeats 0 in
theorem PySem.Challenge.cw_owntables_k51_whole_combs_holds : PySem.Challenge.rw_owntables_k51_whole_combs.Holds := by
  w_on; o_law; k_head; (case hw => w_witness2)
  k_fill
  refine OT.walk (l := PySem.Challenge.rw_owntables_k51_whole_combs) rfl rfl (fun w h Y => PySem.W.kIn_of Y) ?F
  case F =>
    intro w mg fa h KX G hmg
    refine' OT.all_mk KX G hmg ?z_len ?z_int ?z_str ?z_bool ?z_list ?z_tuple ?z_range ?z_enumerate ?z_isinstance ?z_sorted ?z_abs ?z_any ?z_all ?z_sum ?z_min ?z_max ?z_zip ?z_set ?z_ValueError ?a_places_length ?l_places_length ?co_places_length ?k_places_length ?a_same_lengths ?l_same_lengths ?co_same_lengths ?k_same_lengths ?a_same_dimension ?l_same_dimension ?lt_same_dimension ?lu_same_dimension ?co_same_dimension ?k_same_dimension ?a_one_direction ?l_one_direction ?co_one_direction ?k_one_direction ?a_bounds ?l_bounds ?co_bounds ?k_bounds ?a_product_sizes ?l_product_sizes ?co_product_sizes ?k_product_sizes ?a_longest ?l_longest ?co_longest ?k_longest ?a_digit_bits ?l_digit_bits ?co_digit_bits ?k_digit_bits ?a_is_crowded ?l_is_crowded ?co_is_crowded ?k_is_crowded ?a_digit_at ?l_digit_at ?co_digit_at ?k_digit_at ?a_place_at ?l_place_at ?co_place_at ?k_place_at ?a_joined_digits ?l_joined_digits ?co_joined_digits ?k_joined_digits ?a_low_digit ?l_low_digit ?co_low_digit ?k_low_digit ?a_split_digits ?l_split_digits ?co_split_digits ?k_split_digits ?a_great_integer ?l_great_integer ?co_great_integer ?k_great_integer ?a_crowded_product ?l_crowded_product ?co_crowded_product ?k_crowded_product ?a_row_of ?l_row_of ?co_row_of ?k_row_of ?a_reach ?l_reach ?co_reach ?k_reach ?a_key_base ?l_key_base ?co_key_base ?k_key_base ?a_key_of ?l_key_of ?co_key_of ?k_key_of ?a_place_of ?l_place_of ?co_place_of ?k_place_of ?a_keyed ?l_keyed ?co_keyed ?k_keyed ?a_unkeyed ?l_unkeyed ?co_unkeyed ?k_unkeyed ?a_multiply ?l_multiply ?co_multiply ?k_multiply ?a_mirror ?l_mirror ?co_mirror ?k_mirror ?a_comb ?l_comb ?co_comb ?k_comb ?a_uncomb ?l_uncomb ?co_uncomb ?k_uncomb ?a_cross_table ?l_cross_table ?co_cross_table ?k_cross_table ?a_own_table ?l_own_table ?co_own_table ?k_own_table ?a_list_tables ?l_list_tables ?co_list_tables ?k_list_tables ?a__law_cell ?l__law_cell ?co__law_cell ?k__law_cell ?a__law_draws ?l__law_draws ?co__law_draws ?k__law_draws ?a__law_is_integer ?l__law_is_integer ?co__law_is_integer ?k__law_is_integer ?a__law_is_place ?l__law_is_place ?co__law_is_place ?k__law_is_place ?a__law_is_row ?l__law_is_row ?co__law_is_row ?k__law_is_row ?a__law_same ?l__law_same ?co__law_same ?k__law_same ?a__law_is_error ?l__law_is_error ?co__law_is_error ?k__law_is_error ?a__law_plus ?l__law_plus ?co__law_plus ?k__law_plus ?a__law_back ?l__law_back ?co__law_back ?k__law_back ?a__law_row ?l__law_row ?co__law_row ?k__law_row ?a__law_scaled ?l__law_scaled ?co__law_scaled ?k__law_scaled ?a__law_times ?l__law_times ?co__law_times ?k__law_times ?a__law_mirror ?l__law_mirror ?co__law_mirror ?k__law_mirror ?a__law_moved ?l__law_moved ?co__law_moved ?k__law_moved ?a__law_cross ?l__law_cross ?co__law_cross ?k__law_cross ?a__law_zero ?l__law_zero ?co__law_zero ?k__law_zero ?a__law_places ?l__law_places ?co__law_places ?k__law_places ?a__law_drawn ?l__law_drawn ?co__law_drawn ?k__law_drawn ?a__law_copies ?l__law_copies ?co__law_copies ?k__law_copies ?a__law_same_list ?l__law_same_list ?co__law_same_list ?k__law_same_list ?a__law_apart ?l__law_apart ?co__law_apart ?k__law_apart ?a__law_rows ?l__law_rows ?co__law_rows ?k__law_rows ?a__law_line ?l__law_line ?co__law_line ?k__law_line ?a__law_whole ?l__law_whole ?co__law_whole ?k__law_whole ?a__law_combed ?l__law_combed ?co__law_combed ?k__law_combed ?a__law_tables ?l__law_tables ?co__law_tables ?k__law_tables ?a__law_sum ?l__law_sum ?co__law_sum ?k__law_sum ?a__law_uncombs ?l__law_uncombs ?co__law_uncombs ?k__law_uncombs ?a__law_combs ?l__law_combs ?co__law_combs ?k__law_combs ?a__law_tables_told ?l__law_tables_told ?co__law_tables_told ?k__law_tables_told ?a__law_refusal ?l__law_refusal ?co__law_refusal ?k__law_refusal ?a__law_refused ?l__law_refused ?co__law_refused ?k__law_refused ?a__law_wide ?l__law_wide ?co__law_wide ?k__law_wide ?a__law_doors ?l__law_doors ?co__law_doors ?k__law_doors ?a_law ?l_law ?co_law ?k_law ?a_te ?l_te ?co_te ?k_te ?a_oe ?l_oe ?co_oe ?k_oe ?g_B ?g_M ?g_O ?g_Z ?g_C ?xl_M ?vb_M ?sa_M ?ex_M ?ty_M ?kc_M ?ga_M ?gg_M ?hd_M ?ha_M ?mr_M ?rd_M ?fn_M ?nw_M ?ni_M ?in_M ?xl_O ?vb_O ?sa_O ?ex_O ?ty_O ?kc_O ?ga_O ?gg_O ?hd_O ?ha_O ?mr_O ?rd_O ?fn_O ?nw_O ?ni_O ?in_O ?hn ?ht ?g_FEW ?ti_te ?rB ?sB ?fB ?ti_oe ?nd ?xM ?xO ?vM ?vO ?bM ?bO ?k1 ?k2 ?k3 ?k4 ?k5 ?k6 ?k7 ?k8
    (case g_B => k_is)
    (case g_M => k_is)
    (case g_O => k_is)
    (case g_Z => k_is)
    (case g_C => k_is)
    (case g_FEW => k_is)
    (case a_places_length => k_is)
    (case a_same_lengths => k_is)
    (case a_same_dimension => k_is)
    (case a_one_direction => k_is)
    (case a_bounds => k_is)
    (case a_product_sizes => k_is)
    (case a_longest => k_is)
    (case a_digit_bits => k_is)
    (case a_is_crowded => k_is)
    (case a_digit_at => k_is)
    (case a_place_at => k_is)
    (case a_joined_digits => k_is)
    (case a_low_digit => k_is)
    (case a_split_digits => k_is)
    (case a_great_integer => k_is)
    (case a_crowded_product => k_is)
    (case a_row_of => k_is)
    (case a_reach => k_is)
    (case a_key_base => k_is)
    (case a_key_of => k_is)
    (case a_place_of => k_is)
    (case a_keyed => k_is)
    (case a_unkeyed => k_is)
    (case a_multiply => k_is)
    (case a_mirror => k_is)
    (case a_comb => k_is)
    (case a_uncomb => k_is)
    (case a_cross_table => k_is)
    (case a_own_table => k_is)
    (case a_list_tables => k_is)
    (case a__law_cell => k_is)
    (case a__law_draws => k_is)
    (case a__law_is_integer => k_is)
    (case a__law_is_place => k_is)
    (case a__law_is_row => k_is)
    (case a__law_same => k_is)
    (case a__law_is_error => k_is)
    (case a__law_plus => k_is)
    (case a__law_back => k_is)
    (case a__law_row => k_is)
    (case a__law_scaled => k_is)
    (case a__law_times => k_is)
    (case a__law_mirror => k_is)
    (case a__law_moved => k_is)
    (case a__law_cross => k_is)
    (case a__law_zero => k_is)
    (case a__law_places => k_is)
    (case a__law_drawn => k_is)
    (case a__law_copies => k_is)
    (case a__law_same_list => k_is)
    (case a__law_apart => k_is)
    (case a__law_rows => k_is)
    (case a__law_line => k_is)
    (case a__law_whole => k_is)
    (case a__law_combed => k_is)
    (case a__law_tables => k_is)
    (case a__law_sum => k_is)
    (case a__law_uncombs => k_is)
    (case a__law_combs => k_is)
    (case a__law_tables_told => k_is)
    (case a__law_refusal => k_is)
    (case a__law_refused => k_is)
    (case a__law_wide => k_is)
    (case a__law_doors => k_is)
    (case a_law => k_is)
    (case a_te => k_is)
    (case a_oe => k_is)
    (case xl_M => k_is)
    (case in_M => k_is)
    (case xl_O => k_is)
    (case in_O => k_is)
    (case z_len => k_is)
    (case z_int => k_is)
    (case z_str => k_is)
    (case z_bool => k_is)
    (case z_list => k_is)
    (case z_tuple => k_is)
    (case z_range => k_is)
    (case z_enumerate => k_is)
    (case z_isinstance => k_is)
    (case z_sorted => k_is)
    (case z_abs => k_is)
    (case z_any => k_is)
    (case z_all => k_is)
    (case z_sum => k_is)
    (case z_min => k_is)
    (case z_max => k_is)
    (case z_zip => k_is)
    (case z_set => k_is)
    (case z_ValueError => k_is)
    (case l_places_length => k_is)
    (case co_places_length => k_is)
    (case k_places_length => k_is)
    (case l_same_lengths => k_is)
    (case co_same_lengths => k_is)
    (case k_same_lengths => k_is)
    (case l_same_dimension => k_is)
    (case lt_same_dimension => first | rfl | k_is)
    (case lu_same_dimension => first | rfl | k_is)
    (case co_same_dimension => k_is)
    (case k_same_dimension => k_is)
    (case l_one_direction => k_is)
    (case co_one_direction => k_is)
    (case k_one_direction => k_is)
    (case l_bounds => k_is)
    (case co_bounds => k_is)
    (case k_bounds => k_is)
    (case l_product_sizes => k_is)
    (case co_product_sizes => k_is)
    (case k_product_sizes => k_is)
    (case l_longest => k_is)
    (case co_longest => k_is)
    (case k_longest => k_is)
    (case l_digit_bits => k_is)
    (case co_digit_bits => k_is)
    (case k_digit_bits => k_is)
    (case l_is_crowded => k_is)
    (case co_is_crowded => k_is)
    (case k_is_crowded => k_is)
    (case l_digit_at => k_is)
    (case co_digit_at => k_is)
    (case k_digit_at => k_is)
    (case l_place_at => k_is)
    (case co_place_at => k_is)
    (case k_place_at => k_is)
    (case l_joined_digits => k_is)
    (case co_joined_digits => k_is)
    (case k_joined_digits => k_is)
    (case l_low_digit => k_is)
    (case co_low_digit => k_is)
    (case k_low_digit => k_is)
    (case l_split_digits => k_is)
    (case co_split_digits => k_is)
    (case k_split_digits => k_is)
    (case l_great_integer => k_is)
    (case co_great_integer => k_is)
    (case k_great_integer => k_is)
    (case l_crowded_product => k_is)
    (case co_crowded_product => k_is)
    (case k_crowded_product => k_is)
    (case l_row_of => k_is)
    (case co_row_of => k_is)
    (case k_row_of => k_is)
    (case l_reach => k_is)
    (case co_reach => k_is)
    (case k_reach => k_is)
    (case l_key_base => k_is)
    (case co_key_base => k_is)
    (case k_key_base => k_is)
    (case l_key_of => k_is)
    (case co_key_of => k_is)
    (case k_key_of => k_is)
    (case l_place_of => k_is)
    (case co_place_of => k_is)
    (case k_place_of => k_is)
    (case l_keyed => k_is)
    (case co_keyed => k_is)
    (case k_keyed => k_is)
    (case l_unkeyed => k_is)
    (case co_unkeyed => k_is)
    (case k_unkeyed => k_is)
    (case l_multiply => k_is)
    (case co_multiply => k_is)
    (case k_multiply => k_is)
    (case l_mirror => k_is)
    (case co_mirror => k_is)
    (case k_mirror => k_is)
    (case l_comb => k_is)
    (case co_comb => k_is)
    (case k_comb => k_is)
    (case l_uncomb => k_is)
    (case co_uncomb => k_is)
    (case k_uncomb => k_is)
    (case l_cross_table => k_is)
    (case co_cross_table => k_is)
    (case k_cross_table => k_is)
    (case l_own_table => k_is)
    (case co_own_table => k_is)
    (case k_own_table => k_is)
    (case l_list_tables => k_is)
    (case co_list_tables => k_is)
    (case k_list_tables => k_is)
    (case l__law_cell => k_is)
    (case co__law_cell => k_is)
    (case k__law_cell => k_is)
    (case l__law_draws => k_is)
    (case co__law_draws => k_is)
    (case k__law_draws => k_is)
    (case l__law_is_integer => k_is)
    (case co__law_is_integer => k_is)
    (case k__law_is_integer => k_is)
    (case l__law_is_place => k_is)
    (case co__law_is_place => k_is)
    (case k__law_is_place => k_is)
    (case l__law_is_row => k_is)
    (case co__law_is_row => k_is)
    (case k__law_is_row => k_is)
    (case l__law_same => k_is)
    (case co__law_same => k_is)
    (case k__law_same => k_is)
    (case l__law_is_error => k_is)
    (case co__law_is_error => k_is)
    (case k__law_is_error => k_is)
    (case l__law_plus => k_is)
    (case co__law_plus => k_is)
    (case k__law_plus => k_is)
    (case l__law_back => k_is)
    (case co__law_back => k_is)
    (case k__law_back => k_is)
    (case l__law_row => k_is)
    (case co__law_row => k_is)
    (case k__law_row => k_is)
    (case l__law_scaled => k_is)
    (case co__law_scaled => k_is)
    (case k__law_scaled => k_is)
    (case l__law_times => k_is)
    (case co__law_times => k_is)
    (case k__law_times => k_is)
    (case l__law_mirror => k_is)
    (case co__law_mirror => k_is)
    (case k__law_mirror => k_is)
    (case l__law_moved => k_is)
    (case co__law_moved => k_is)
    (case k__law_moved => k_is)
    (case l__law_cross => k_is)
    (case co__law_cross => k_is)
    (case k__law_cross => k_is)
    (case l__law_zero => k_is)
    (case co__law_zero => k_is)
    (case k__law_zero => k_is)
    (case l__law_places => k_is)
    (case co__law_places => k_is)
    (case k__law_places => k_is)
    (case l__law_drawn => k_is)
    (case co__law_drawn => k_is)
    (case k__law_drawn => k_is)
    (case l__law_copies => k_is)
    (case co__law_copies => k_is)
    (case k__law_copies => k_is)
    (case l__law_same_list => k_is)
    (case co__law_same_list => k_is)
    (case k__law_same_list => k_is)
    (case l__law_apart => k_is)
    (case co__law_apart => k_is)
    (case k__law_apart => k_is)
    (case l__law_rows => k_is)
    (case co__law_rows => k_is)
    (case k__law_rows => k_is)
    (case l__law_line => k_is)
    (case co__law_line => k_is)
    (case k__law_line => k_is)
    (case l__law_whole => k_is)
    (case co__law_whole => k_is)
    (case k__law_whole => k_is)
    (case l__law_combed => k_is)
    (case co__law_combed => k_is)
    (case k__law_combed => k_is)
    (case l__law_tables => k_is)
    (case co__law_tables => k_is)
    (case k__law_tables => k_is)
    (case l__law_sum => k_is)
    (case co__law_sum => k_is)
    (case k__law_sum => k_is)
    (case l__law_uncombs => k_is)
    (case co__law_uncombs => k_is)
    (case k__law_uncombs => k_is)
    (case l__law_combs => k_is)
    (case co__law_combs => k_is)
    (case k__law_combs => k_is)
    (case l__law_tables_told => k_is)
    (case co__law_tables_told => k_is)
    (case k__law_tables_told => k_is)
    (case l__law_refusal => k_is)
    (case co__law_refusal => k_is)
    (case k__law_refusal => k_is)
    (case l__law_refused => k_is)
    (case co__law_refused => k_is)
    (case k__law_refused => k_is)
    (case l__law_wide => k_is)
    (case co__law_wide => k_is)
    (case k__law_wide => k_is)
    (case l__law_doors => k_is)
    (case co__law_doors => k_is)
    (case k__law_doors => k_is)
    (case l_law => k_is)
    (case co_law => k_is)
    (case k_law => k_is)
    (case l_te => k_is)
    (case co_te => k_is)
    (case k_te => k_is)
    (case l_oe => k_is)
    (case co_oe => k_is)
    (case k_oe => k_is)
    (case vb_M => decide +kernel)
    (case sa_M => k_is)
    (case ex_M => k_is)
    (case ty_M => k_is)
    (case kc_M => k_is)
    (case ga_M => k_is)
    (case gg_M => k_is)
    (case hd_M => k_is)
    (case ha_M => k_is)
    (case mr_M => k_is)
    (case rd_M => k_is)
    (case fn_M => k_is)
    (case nw_M => k_is)
    (case ni_M => k_is)
    (case vb_O => decide +kernel)
    (case sa_O => k_is)
    (case ex_O => k_is)
    (case ty_O => k_is)
    (case kc_O => k_is)
    (case ga_O => k_is)
    (case gg_O => k_is)
    (case hd_O => k_is)
    (case ha_O => k_is)
    (case mr_O => k_is)
    (case rd_O => k_is)
    (case fn_O => k_is)
    (case nw_O => k_is)
    (case ni_O => k_is)
    (case hn => k_is)
    (case ht => k_is)
    (case ti_te => k_is)
    (case rB => k_is)
    (case sB => k_is)
    (case fB => k_is)
    (case ti_oe => k_is)
    (case nd => k_is)
    (case xM => first | rfl | k_is)
    (case xO => first | rfl | k_is)
    (case vM => first | rfl | k_is)
    (case vO => first | rfl | k_is)
    (case bM => first | rfl | k_is)
    (case bO => first | rfl | k_is)
    (case k1 => first | rfl | k_is)
    (case k2 => first | rfl | k_is)
    (case k3 => first | rfl | k_is)
    (case k4 => first | rfl | k_is)
    (case k5 => first | rfl | k_is)
    (case k6 => first | rfl | k_is)
    (case k7 => first | rfl | k_is)
    (case k8 => first | rfl | k_is)

