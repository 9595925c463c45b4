import PyProof.Rows.All
import Wide.All
import OpenK.AllK
import Wide.FinOn
import KE.KTypeName
import HandS.ForMost
import HandS.ForExc
import HandS.ExcInit
import HandS.ExcIs
import HandS.ExcField
import HandS.IsInst
import HandS.HotCalls
import HandS.Codes
import HandS.StrMore
import HandS.TupAny
import HandS.Walk
import HandS.TupSets
import HandS.DictTup
import HandS.FStr
import KE.KExcIs
import HandS.SortKw
import KE.KSortTupG
import HandS.Conv
import HandS.More
import HandS.Wide
import HandS.SetKeys
import HandS.SortInts
import HandS.Star
import HandS.Defaults
import PyProof.EqAt
import PyProof.EqKinds
import PyProof.TupleCall
import PySem.Challenge.RW_owntables_k08_points
set_option Elab.async false
set_option linter.all false
set_option maxRecDepth 100000
set_option maxHeartbeats 2000000
/-! Own errors of the package: word, index, made and told. -/
namespace PySem.W
open PySem PySem.Calls PyProof.Rows Builtin Builtin.ObjectAttr Builtin.Getset_descriptor
section
variable {prog : Program} {w : World} {A : Around} {E : Value → Shared → Prop} {s : Shared} {K : Frag} {x D : Addr} {ox : Obj}
/-- what a class says of the attribute «class» of its instances -/
structure OtCls (K : Frag) (D : Addr) : Prop where
  hga : findIn K (.ref D) "__getattribute__" = some (some (.builtin "BaseException.__getattribute__"))
  hgt : findIn K (.ref D) "__getattr__" = some none
  hsub : subIn K (.ref D) (.type "BaseException") = some true
  hdct : hasDictIn K D = true
  ha : findIn K (.ref D) "__class__" = some (some (.builtin "object.__class__"))
  hn : specialIn K (.builtin "object.__class__") "__get__" = some (some (.builtin "getset_descriptor.__get__"))
  htk : takesIn K (.builtin "object.__class__") = some true
  hm : mroIn K D (.type "object") = some true
theorem ot_class {expr : Bool} {Q : Value → Shared → Prop} (T : OtCls K D) (X : K.In s.heap) (I : InstAt s.heap x ox D none)
    (h : Q (.ref D) { s with toks := s.toks + 1 }) : wpAny (model prog w) A (getAttr (.ref x) "__class__" expr) Q E s := by
  obtain ⟨hga, hgt, hsub, hdct, ha, hn, htk, hm⟩ := T
  have found : findObj K D none "__class__" = some (.bind (.builtin "getset_descriptor.__get__") (.builtin "object.__class__")) :=
    findObj_dataN (by obtain ⟨cd, q, _⟩ := any_some hdct; rw [q]; rfl) ha hn htk
  obtain ⟨hp, gens, dr, tk, os⟩ := s
  have ty := I.type (M := model prog w)
  have l1 := looks_findIn (M := model prog w) X hga
  have l2 := looks_findIn (M := model prog w) X hgt
  have l3 := looks_find (M := model prog w) X I found
  have isx : Looks (model prog w) hp (isInstance (.ref x) (.type "BaseException")) true := ty.andThen (looks_subIn X hsub)
  have e0 : (Value.builtin "BaseException.__getattribute__" == Value.builtin "object.__getattribute__") = false := by decide +kernel
  unfold getAttr getAttrBy
  apply wpAny_bind; apply wpAny_mkText; apply wpAny_holding
  apply wpAny_bind; apply ty.at
  apply wpAny_bind; apply l1.at
  show wpAny _ _ (if (onTheHeap (Value.ref D) && _) = true then _ else _) _ _ _
  rw [e0, Bool.and_false, if_neg Bool.false_ne_true]
  unfold getAttrByItsOwn hookBefore
  apply wpAny_bind
  rw [if_pos (show onTheHeap (Value.ref D) = true from rfl)]
  apply l2.at
  apply wpAny_bind; apply wpAny_attempt; apply wpAny_holding
  unfold callGetattribute
  rw [(by cases expr <;> rfl : (expr && onTheHeap (Value.builtin "BaseException.__getattribute__")) = false), if_neg Bool.false_ne_true]
  unfold boundAndCalled
  rw [PySem.F.excAttr_ValueError.ga.bind (.ref x)]
  apply wpAny_bind; apply wpAny_pure
  show wpAny _ _ (call (.builtin "BaseException.__getattribute__") [.ref x, .str "__class__" tk]) _ _ _
  apply wpAny_call
  apply codeAny_call_builtin PySem.F.excAttr_ValueError.ga.plain PySem.F.entry_bexc_ga
  apply @check_slot (model prog w) _ _ ⟨hp, gens, dr, tk + 1, os⟩ "BaseException.__getattribute__" "BaseException" "__getattribute__" (.ref x) [.str "__class__" tk] [] _ (by decide +kernel) (by decide +kernel) isx (PySem.F.args_bexc_ga (.ref x) (.str "__class__" tk))
  unfold Builtin.«object.__getattribute__»
  refine wpAny_bind (wpAny_of_eq (a := ((Value.ref x : Value), [Value.str "__class__" tk])) (by first | rfl | (simp only [slotArgs]; rfl)) ?_)
  apply wpAny_bind; apply wpAny_pure
  apply wpAny_bind; apply ty.at
  apply wpAny_bind; apply l3.at
  show wpAny _ _ (holding [Value.builtin "object.__class__"] (call _ [.builtin "object.__class__", .ref x, .ref D]) >>= ret) _ _ _
  apply wpAny_bind; apply wpAny_holding; apply wpAny_call
  refine class_get (s := ⟨hp, gens, dr, tk + 1, os⟩) (ox := ox) (od := none) X I hm ?_
  apply wpAny_pure
  show wpAny _ _ (handedOut (.ref D)) _ _ _
  rw [handedOut_of (v := .ref D) rfl]
  exact wpAny_pure h
/-- the written part's class at C keeps its name nm -/
structure OtName (K : Frag) (C : Addr) (nm : Str) : Prop where
  keeps : ∃ (c : Value) (dd : Option Addr) (dat : Data) (sl : Array (Option Value)) (tk : Tok), K.lookup C = some ⟨c, dd, dat, sl⟩ ∧ sl[2]? = some (some (.str nm tk))
  reads : readsIn K C (.type "type") = true
  ty : typeIn K (.ref C) = some (.type "type")
  found : findCls K (.ref C) (.type "type") "__name__" = some (.get (.builtin "getset_descriptor.__get__") (.builtin "type.__name__") (.ref C) (.type "type"))
theorem ot_dga (d tp : Value) (C : Addr) : descrGetArgs ⟨[d, .ref C, tp], []⟩ = pure (d, some (.ref C), given tp) := by kernel_rfl
theorem ot_name {expr : Bool} {nm : Str} {Q : Value → Shared → Prop} (T : OtName K D nm) (X : K.In s.heap)
    (h : ∀ tk u, Q (.str nm tk) { s with toks := u }) : wpAny (model prog w) A (getAttr (.ref D) "__name__" expr) Q E s := by
  obtain ⟨⟨c, dd, dat, sl, tk, hk, hsl⟩, hr, ty, hf⟩ := T
  refine cls_bind X hr hf ?_
  obtain ⟨hp, gens, dr, tks, os⟩ := s
  have t0 : Looks (model prog w) hp (typeOf (.ref D)) (.type "type") := looks_typeIn X ty
  have t1 : Looks (model prog w) hp (isSubtype (.type "type") (.type "type")) true := Looks.of_pure (by rw [isSubtype_type]; kernel_rfl)
  refine wpAny_call (codeAny_call_builtin KF.slot_gs.plain KF.entry_gs (KF.slot_gs.check _ _ _ _ _ _ _ _ ktyn_type (KF.args_gs _ _ _) ?_))
  unfold Builtin.«getset_descriptor.__get__» descrGet
  rw [ot_dga]
  apply wpAny_bind
  apply wpAny_pure
  unfold descrGetter descrCheckInstance descrNameAndClass isInstance
  simp only [ktyn_owner]
  repeat lk
  refine ⟨Code.quiet_builtin _ (by decide +kernel), codeAny_builtin ktyn_entry ?_⟩
  unfold Builtin.«type.__name__» keptObject slotAt
  dsimp only
  refine wpAny_bind (wpAny_bind (wpAny_loadPart (X _ _ hk) (wpAny_pure ?_)))
  dsimp only
  rw [hsl]
  exact wpAny_pure (handed_on rfl (h _ _))
end
end PySem.W
namespace L2
open PySem PySem.Spec PyProof.Rows
/-! ### an exception's own __init__ -/
section
variable {X : Cx} {pos p1 p2 : Pos} {e : Expr} {es : List Expr} {te : TE} {ta : TA}
/-- e.__class__.__name__, e an exception that is being made, without a field so far -/
def tOtName (K : PySem.W.Frag) (te : TE) : TE := fun σ H Q => te σ H fun x H1 => ∃ (a C : Addr) (nm : Str), x = .ref a ∧ H1 a = some (exo a C none) ∧ PySem.W.OtCls K C ∧ PySem.W.OtName K C nm ∧ Q (.str nm) H1
theorem pe_otname (he : PE X e te) (hb : attributeBase e "__class__" X.env (eval e X.env) = eval e X.env := by rfl)
    (hb2 : attributeBase (.Attribute e "__class__" p1) "__name__" X.env (eval (.Attribute e "__class__" p1) X.env) = eval (.Attribute e "__class__" p1) X.env := by rfl) :
    PE X (.Attribute (.Attribute e "__class__" p1) "__name__" pos) (tOtName X.K te) := by
  refine ⟨fun pins s σ H Q I h => ?_⟩
  refine attr_of hb2 (attr_of hb (thn (he.run pins s σ H _ I h) fun u s1 hh => ?_))
  obtain ⟨x, H1, I1, rx, a, C, nm, ex, ea, tc, tn, q⟩ := hh
  subst ex
  obtain rfl : u = Value.ref a := rx
  obtain ⟨t1, ho⟩ := exo_at I1.hok ea
  have J : PySem.W.InstAt s1.heap a _ C none := ⟨ho, rfl, rfl, True.intro⟩
  refine PySem.W.ot_class tc I1.kIn J ?_
  refine PySem.W.ot_name tn I1.kIn fun tk u => ?_
  exact ⟨.str nm, H1, I1.tok u, ⟨tk, rfl⟩, q⟩
/-- a class of the text, its attributes read by the type's own way -/
structure OtRead (K : PySem.W.Frag) (C : Addr) (m : Str) (f : Addr) : Prop where
  rd : PySem.W.readsIn K C (.type "type") = true
  ga : PySem.W.specialIn K (.ref C) "__getattribute__" = some (some (.builtin "type.__getattribute__"))
  at_ : PySem.W.findCls K (.ref C) (.type "type") m = some (.val (.ref f))
  kp : PySem.W.keepIn K (.ref f) = true
/-- B.m(e, ..), B a class of the text, m a def of it -/
theorem pe_otcall {CX : CXT} {k : Nat} {f C : Addr} {fd : FuncData} {ps : List Str} {sp : Sp} {E : XK} {o : Expr} {to : TE} {m : Str} {pl : Sem Bool} (ho : PE X o to) (R : OtRead X.K C m f) (F : FnOk X.prog X.w X.K X.mg X.base CX k f fd ps sp) (hr : Room k X.A) (hb : Binds X.K fd ps []) (hx : Passes CX X E) (ha : PA X (e :: es) ta)
    (hc : eval (.Call (.Attribute o m p2) (e :: es) [] pos) X.env = (do
      let ov ← eval o X.env
      standAt p2.atName
      let (f, first) ← holding [ov] (getMethod ov m pl)
      callWith pos f first (backTo pos (starEach (e :: es) X.env)) (backToKw pos (keywordEach [] X.env))) := by rfl)
    (he : starEach (e :: es) X.env = (false, eval e X.env) :: starEach es X.env := by rfl) (hpl : (backTo pos (starEach es X.env)).any (·.1) = false := by rfl) :
    PE X (.Call (.Attribute o m p2) (e :: es) [] pos) (fun σ H Q => to σ H fun x H1 => x = .ref C ∧ ta σ H1 fun vs H2 => sp vs H2 Q E) := by
  refine ⟨fun pins s σ H Q I h => ?_⟩
  refine PySem.W.methodCall_KW (thn (ho.run pins s σ H _ I h) fun u s1 hh => ?_) hc
  obtain ⟨x, H1, I1, rx, ex, q⟩ := hh
  subst ex
  obtain rfl : u = Value.ref C := rx
  refine PySem.W.method_cls I1.kIn R.ga (PySem.W.cls_value I1.kIn R.rd R.at_ rfl ?_)
  have I2 := I1.tok (s1.toks + 1)
  show wpAny _ _ (callWith pos (Value.ref f) [] (backTo pos (starEach (e :: es) X.env)) []) _ _ _
  refine PySem.W.callWith_K (h₀ := X.base) I2.ok.mod.kin R.kp (thn (ha.run pos pins _ σ H1 _ I2 q) fun us s2 hh2 => ?_) he hpl
  obtain ⟨vs, H2, I3, r3, q3⟩ := hh2
  exact ⟨I3.kIn, run_fn F hr hb .nil hx I3 r3 (by rw [List.append_nil]; exact q3)⟩
end
end L2

namespace L2
open PySem PySem.Spec PyProof.Rows
/-- all that is asked of an own class of error, its name nm -/
structure OtErr (K : PySem.W.Frag) (C : Addr) (nm : Str) : Prop where
  ox : OexC K C
  oc : PySem.W.OtCls K C
  on : PySem.W.OtName K C nm
  nw : PySem.W.findIn K (.ref C) "word" = some none
  ni : PySem.W.findIn K (.ref C) "index" = some none
section
variable {P : Program} {w : World} {K : PySem.W.Frag} {mg : Str → Option Value} {base : Heap}
/-- TableError.__init__ -/
def spTE (K : PySem.W.Frag) : Sp := fun vs H Q _ => ∃ (a C : Addr) (nm : Str), vs = [.ref a] ∧ H a = some (exo a C none) ∧ OtErr K C nm ∧
  ∀ d, H d = none → d ≠ a → Q .non (upd (upd H d (exd d [("word", .str nm)])) a (exo a C (some d)))
theorem ok_te {q : Str} {st : Stmt} {f : Addr} {fd : FuncData} {p1 p2 p3 p4 p5 p6 : Pos} (F : Fun K "__init__" q st f fd) (S : FnScope ["self"] ["self"] (defScope st))
    (v : Vis (defScope st) "self") (hb : defBody st = [.Assign [.Attribute (.Name "self" p1) "word" p2] (.Attribute (.Attribute (.Name "self" p3) "__class__" p4) "__name__" p5) p6]) :
    FnOk P w K mg base CX0 1 f fd ["self"] (spTE K) := by
  refine F.ok S (fun vs H Q E h => ?_) (fun cdv A outer s H vs Q E hr h => ?_)
  · obtain ⟨a, C, nm, rfl, _⟩ := h
    rfl
  · obtain ⟨a, C, nm, rfl, ha, T, k⟩ := h
    rw [hb]
    refine ⟨_, pss_one (ps_ost (pv 0 rfl v) (pe_otname (pv 0 rfl v))), ?_⟩
    refine ⟨_, rfl, a, C, nm, rfl, ha, T.oc, T.on, _, rfl, a, C, rfl, T.ox, T.nw, Or.inl ⟨ha, fun d nd ne => ?_⟩⟩
    exact k d nd ne
/-- IndexedError.__init__ -/
def spIE (K : PySem.W.Frag) : Sp := fun vs H Q _ => ∃ (a C : Addr) (nm : Str) (v : V), vs = [.ref a, v] ∧ H a = some (exo a C none) ∧ OtErr K C nm ∧
  ∀ d, H d = none → d ≠ a → Q .non (upd (upd (upd H d (exd d [("word", .str nm)])) a (exo a C (some d))) d (exd d [("index", v), ("word", .str nm)]))
end
end L2

/-! ### defs that are handed the error that an except suite holds -/
namespace L2
open PySem PySem.Spec PyProof.Rows
/-- a promise that knows the held error: where it stands, its class, its dict -/
abbrev SpE := Addr → Value → Option Addr → Sp
structure FnE (P : Program) (w : World) (K : PySem.W.Frag) (mg : Str → Option Value) (base : Heap) (k : Nat) (f : Addr) (fd : FuncData) (ps : List Str) (sp : SpE) : Prop where
  len : ∀ a c d vs H Q E, sp a c d vs H Q E → vs.length = ps.length
  run : ∀ (A : Around) (outer : List Env) (s : Shared) (H : Hp) (args : Args) (us : List Value) (vs : List V) (Q : VK) (p : Addr × Obj) (c : Value) (d : Option Addr), L2H.RoomH k A → L2H.PinOk outer H s p → Zc c d p.2 → (∃ fs, p.2.data = .fields fs) →
    Env0 P w K mg base A outer s H → BindsTo s fd args (ps.zip us) → Vals vs us → sp p.1 c d vs H Q E0 → codeAny (model P w) A (.call (.ref f) args) (CR CX0 outer P w H s Q E0) s
theorem fnE_of {P : Program} {w : World} {K : PySem.W.Frag} {mg : Str → Option Value} {base : Heap} {k : Nat} {x : Str} {st : Stmt} {f : Addr} {fd : FuncData} {N ps : List Str} {sp : SpE} (F : C8.Fun K x x st f fd) (S : FnScope N ps (C8.fnScope st))
    (len : ∀ a c d vs H Q E, sp a c d vs H Q E → vs.length = ps.length)
    (body : ∀ (cdv : Value) (A : Around) (outer : List Env) (s : Shared) (H : Hp) (vs : List V) (Q : VK) (p : Addr × Obj) (c : Value) (d : Option Addr), Zc c d p.2 → (∃ fs, p.2.data = .fields fs) → L2H.RoomH k (A.deeper (envOfC x (C8.fnScope st) s.heap.objs.size f cdv)) → sp p.1 c d vs H Q E0 →
      ∃ t, PSs (L2H.cxH CX0 P w K mg base N x (C8.fnScope st) f cdv A outer s H E0 p) (C8.fnBody st) t ∧ t { nx := fun _ H' => Q .non H', rt := Q } (L2.start N vs) H) :
    FnE P w K mg base (k + 1) f fd ps sp := by
  obtain ⟨oc, od, dV, kV, doc, pm, an, cdv, ct, osl, rfl, lk, hcd⟩ := F.ex
  constructor
  · exact len
  intro A outer s H args us vs Q p c d room pin zc fld env binds rel want
  have size := len _ _ _ _ _ _ _ want
  have old : ∀ b o, base.get? b = some o → s.heap.get? b = some o := fun b o z => (env.bs b o z).1
  have inK : K.In s.heap := env.mod.kin.keeps old
  have kinds : ∀ y ∈ ps.zip us, (C8.fnScope st).names.lookup y.1 = some .local ∨
      ((C8.fnScope st).names.lookup y.1 = some .cell ∧ ((cellsFrom (s.heap.objs.size + 1) (C8.fnScope st).names []).lookup y.1).isSome = true) := by
    intro y hy
    have my := (List.of_mem_zip (a := y.1) (b := y.2) hy).1
    exact (S.par y.1 my).imp id fun z => ⟨z, PySem.W.cellsFrom_some _ _ _ (Or.inl z)⟩
  apply codeAny_call_function room.depth (inK _ _ lk) rfl S.co S.gen rfl (PySem.W.codeRec_of inK hcd)
  apply binds
  apply wpAny_newFunctionEnv_cells S.kind kinds
  intro env1 he s1 called
  subst he
  refine ⟨(env.mod.nolimit.keeps old).keeps called.toInCall.keep, codeAny_func ?_⟩
  obtain ⟨t, ht, read⟩ := body cdv A outer s H vs Q p c d zc fld (room.deeper _) want
  have I0 : Inv (L2H.cxH CX0 P w K mg base N x (C8.fnScope st) f cdv A outer s H E0 p) [] (L2.start N vs) H s1 := L2H.inv_startH S pin env size rel called
  refine wpAny_mono (ht.run [] s1 (L2.start N vs) H _ I0 read) (fun fl s2 q => ?_) fun _ _ q => q
  cases fl with
  | ret u =>
    obtain ⟨v, σ2, H2, J, rv, z⟩ := q
    exact ⟨v, H2, J.os, J.bare, J.base, J.hok, rv, z⟩
  | next =>
    obtain ⟨σ2, H2, J, z⟩ := q
    exact ⟨.non, H2, J.os, J.bare, J.base, J.hok, rfl, z⟩
  | brk =>
    obtain ⟨_, _, _, z⟩ := q
    exact z.elim
  | cont =>
    obtain ⟨_, _, _, z⟩ := q
    exact z.elim
section
variable {X : Cx} {p : Addr × Obj} {c : Value} {d : Option Addr} {k : Nat} {f : Addr} {fd : FuncData} {ps : List Str} {sp : SpE} {x : Str} {q pos : Pos} {e : Expr} {es : List Expr} {t : TA} {te : TE}
/-- f(e, ..) where the error is held -/
theorem pe_callE (F : FnE X.prog X.w X.K X.mg X.base k f fd ps sp) (hr : L2H.RoomH k X.A) (hp : p ∈ X.pn) (zc : Zc c d p.2) (fld : ∃ fs, p.2.data = .fields fs) (hg : Gl X x) (hm : X.mg x = some (.ref f)) (hk : PySem.W.keepIn X.K (.ref f) = true) (hb : Binds X.K fd ps [])
    (ha : PA X (e :: es) t) (hdb : (x == ("__debug__" : Str)) = false := by decide) (he : starEach (e :: es) X.env = (false, eval e X.env) :: starEach es X.env := by rfl) (hpl : (backTo pos (starEach es X.env)).any (·.1) = false := by rfl) :
    PE X (.Call (.Name x q) (e :: es) [] pos) (fun σ H Q => t σ H fun vs H1 => sp p.1 c d vs H1 Q E0) := by
  constructor
  intro pins s σ H Q I want
  apply wpAny_Call_Name_kw
  refine ld_glob I hg hm ?_ hdb
  refine PySem.W.callWith_K (h₀ := X.base) I.ok.mod.kin hk (thn (ha.run pos pins s σ H _ I want) ?_) he hpl
  rintro us s1 ⟨vs, H1, J, rel, z⟩
  refine ⟨J.kIn, ?_⟩
  have size : us.length = ps.length := by
    rw [← rel.length]
    exact F.len _ _ _ _ _ _ _ z
  have bind := hb s1 us J.kIn (by rw [List.append_nil]; exact size)
  rw [List.append_nil] at bind
  obtain ⟨p1, p2, p3, p4, p5⟩ := J.pin p (List.mem_append_left _ hp)
  have pin : L2H.PinOk X.stack H1 s1 p := ⟨p1, p2, fun z => (List.mem_cons.mp (J.stkSub p.1 z)).elim p3 p4, p5⟩
  refine wpAny_call (codeAny_mono (F.run X.A X.stack s1 H1 ⟨us, []⟩ us vs Q p c d hr pin zc fld J.env0 bind rel z) ?_)
  intro r s2 got
  cases r with
  | error er => exact got.elim
  | ok fl =>
    cases fl with
    | ret u => exact J.after got
    | next => exact got.elim
    | brk => exact got.elim
    | cont => exact got.elim
/-- the held error is an instance of its class -/
theorem heldAt {pins : List (Addr × Obj)} {σ : L2.St} {H : Hp} {s : Shared} {C dd : Addr} {fs : List (Str × V)} (I : Inv X pins σ H s) (hp : p ∈ X.pn) (zc : Zc (.ref C) (some dd) p.2) (fld : ∃ fs, p.2.data = .fields fs) (hd : H dd = some (.xd fs)) :
    ∃ od, PySem.W.InstAt s.heap p.1 p.2 C (some od) ∧ ∀ n v, fs.lookup n = some v → ∃ u, RelV v u ∧ PySem.W.lookIn n od = some (some u) := by
  obtain ⟨at1, _⟩ := I.pin p (List.mem_append_left _ hp)
  obtain ⟨vs, hdat⟩ := fld
  obtain ⟨mA, hns, hr⟩ := (show ObjOk X.prog X.w H s.heap dd (.xd fs) from I.hok dd _ hd)
  obtain ⟨od, ho, hl⟩ := lookIn_ns hns
  refine ⟨od, ⟨at1, zc.1, by unfold PySem.W.notCls; rw [hdat] <;> rfl, by rw [zc.2]; exact ho⟩, fun n v l => ?_⟩
  obtain ⟨u, hu, ru⟩ := RelO.some_of (v := v) (o := mA n) (by rw [← l]; exact hr n)
  exact ⟨u, ru, by rw [hl, hu]⟩
/-- isinstance(e, T), e the held error -/
theorem call_isX (hp : p ∈ X.pn) (zc : Zc c d p.2) (fld : ∃ fs, p.2.data = .fields fs) : CallR X (.builtin "isinstance") (fun xs H Q => ∃ (C dd : Addr) (fs : List (Str × V)) (y : V) (u : Value) (b : Bool),
    xs = [.ref p.1, y] ∧ c = .ref C ∧ d = some dd ∧ PySem.W.OtCls X.K C ∧ H dd = some (.xd fs) ∧ ClsV y u ∧ PySem.W.kitOne X.K (.ref C) u = some b ∧ Q (.bl b) H) := by
  rintro pins s σ H xs us Q I rel ⟨C, dd, fs, y, u, b, rfl, rfl, rfl, T, hd, hy, hb, z⟩
  obtain ⟨u1, u2, rfl, r1, r2⟩ := vals2 rel
  cases (show u1 = Value.ref p.1 from r1)
  cases hy.eq r2
  obtain ⟨od, J, _⟩ := heldAt I hp zc fld hd
  have isC : (PySem.W.clsIn X.K C).isSome = true := by
    obtain ⟨cd, q, _⟩ := PySem.W.any_some T.hdct
    rw [q]
    rfl
  exact PySem.W.kia_one (PySem.W.kitx_exc isC T.hga T.hgt T.hsub T.ha T.hn T.htk T.hm) I.kIn J hb (fun z => nomatch z) fun tk => ⟨.bl b, H, I.tok tk, rfl, z⟩
/-- e.n, e the held error, n a field of its own -/
theorem pe_fX {n : Str} (hp : p ∈ X.pn) (zc : Zc c d p.2) (fld : ∃ fs, p.2.data = .fields fs) (he : PE X e te) (hb : attributeBase e n X.env (eval e X.env) = eval e X.env := by rfl) :
    PE X (.Attribute e n pos) (fun σ H Q => te σ H fun y H1 => ∃ (C dd : Addr) (fs : List (Str × V)) (v : V), y = .ref p.1 ∧ c = .ref C ∧ d = some dd ∧ PySem.W.OtCls X.K C ∧ PySem.W.findIn X.K (.ref C) n = some none ∧ H1 dd = some (.xd fs) ∧ fs.lookup n = some v ∧ Q v H1) := by
  constructor
  intro pins s σ H Q I want
  refine attr_of hb (thn (he.run pins s σ H _ I want) ?_)
  rintro u s1 ⟨y, H1, J1, ry, C, dd, fs, v, rfl, rfl, rfl, T, hno, hd, hl, z⟩
  obtain rfl : u = Value.ref p.1 := ry
  obtain ⟨od, J, look⟩ := heldAt J1 hp zc fld hd
  obtain ⟨w1, rw1, lw⟩ := look n v hl
  exact HandSPX.exc_get J1.kIn J T.hga T.hgt T.hsub (PySem.W.findObj_own T.hdct hno rfl lw) (handed_of rw1) ⟨v, H1, J1.tok _, rw1, z⟩
end
end L2

namespace OT
open PySem
theorem b_int : bootBuiltins "int" = some (.type "int") := by decide +kernel
theorem b_str : bootBuiltins "str" = some (.type "str") := by decide +kernel
theorem b_bool : bootBuiltins "bool" = some (.type "bool") := by decide +kernel
theorem b_list : bootBuiltins "list" = some (.type "list") := by decide +kernel
theorem b_tuple : bootBuiltins "tuple" = some (.type "tuple") := by decide +kernel
theorem b_len : bootBuiltins "len" = some (.builtin "len") := by decide +kernel
theorem b_isinstance : bootBuiltins "isinstance" = some (.builtin "isinstance") := by decide +kernel
theorem b_any : bootBuiltins "any" = some (.builtin "any") := by decide +kernel
theorem b_all : bootBuiltins "all" = some (.builtin "all") := by decide +kernel
theorem b_sum : bootBuiltins "sum" = some (.builtin "sum") := by decide +kernel
theorem b_min : bootBuiltins "min" = some (.builtin "min") := by decide +kernel
theorem b_max : bootBuiltins "max" = some (.builtin "max") := by decide +kernel
theorem b_sorted : bootBuiltins "sorted" = some (.builtin "sorted") := by decide +kernel
theorem b_abs : bootBuiltins "abs" = some (.builtin "abs") := by decide +kernel
theorem b_ValueError : bootBuiltins "ValueError" = some (.type "ValueError") := by decide +kernel
end OT

set_option Elab.async false
set_option linter.all false
set_option maxRecDepth 100000
set_option maxHeartbeats 2000000
/-! Rows: sorted keys of a dict whose keys are tuples of ints; valid rows. -/
namespace L2
open PySem PySem.Spec PyProof.Rows
section
/-- what a sort leaves: the same values, ascending by their keys -/
theorem sort_left {κ : KeyKind} {vs : List Value} {a : Array Keyed} (perm : a.Perm (pairsOf vs)) (srt : SortedToK κ a (pairsOf vs).size) :
    (a.toList.map (·.2)).Perm vs ∧ (a.toList.map (·.2)).Pairwise fun x y => ∀ k l, κ.keyOf x = some k → κ.keyOf y = some l → κ.kle k l := by
  have pl : a.toList.Perm (vs.zip vs) := by
    rw [← pairsOf_toList]
    exact Array.perm_iff_toList_perm.mp perm
  have diag : ∀ p ∈ a.toList, p.1 = p.2 := fun p hp => (mem_zip_self (pl.mem_iff.mp hp)).1
  constructor
  · have e : (vs.zip vs).map (·.2) = vs := by
      rw [List.map_snd_zip]
      exact Nat.le_refl _
    have q := pl.map (·.2)
    rw [e] at q
    exact q
  · rw [List.pairwise_map, List.pairwise_iff_getElem]
    intro i j hi hj hij k l hk hl
    have hn : a.size = (pairsOf vs).size := perm.size_eq
    rw [Array.length_toList] at hi hj
    have s := srt i j (Nat.le_of_lt hij) (by omega)
    have at_ : ∀ n (h : n < a.size), ∀ m, κ.keyOf a.toList[n].2 = some m → KK κ a n = m := fun n h m hm => by
      unfold KK
      rw [Array.getElem?_eq_getElem h]
      have d := diag a.toList[n] (List.getElem_mem _)
      rw [← d] at hm
      rw [Array.getElem_toList] at hm
      dsimp only
      rw [hm]
      rfl
    rw [at_ i hi k hk, at_ j hj l hl] at s
    exact s
theorem lexLt_inl : ∀ k l : List Int, PyProof.Rows.lexLt itemOrd (k.map Sum.inl) (l.map Sum.inl) = HT.lexLt k l
  | [], [] => rfl
  | [], _ :: _ => rfl
  | _ :: _, [] => rfl
  | x :: r, y :: t => by
    rw [List.map_cons, List.map_cons, PyProof.Rows.lex_cons, lexLt_inl r t, HT.lexLt_cons]
    show (decide (x < y) || (!decide (y < x) && HT.lexLt r t)) = _
    by_cases h : x = y
    · rw [if_pos h, decide_eq_false (by omega), decide_eq_false (by omega)]
      rfl
    · rw [if_neg h]
      by_cases h2 : x < y
      · rw [decide_eq_true h2]
        rfl
      · rw [decide_eq_false h2, decide_eq_true (show y < x by omega)]
        rfl
theorem tupItems_ints : ∀ (ns : List Int) (us : List Value) (i : Nat), Vals (ns.map V.int) us → tupItems (fun _ => false) i us = some (ns.map Sum.inl)
  | [], _, _, .nil => rfl
  | n :: ns, _ :: us, i, .cons r t => by
    obtain ⟨tk, rfl⟩ := (show ∃ tk, _ = Value.int n tk from r)
    show (if (false : Bool) = true then none else (tupItems (fun _ => false) (i + 1) us).map (Sum.inl n :: ·)) = _
    rw [if_neg Bool.false_ne_true, tupItems_ints ns us (i + 1) t]
    rfl
theorem ints_inj : ∀ {k l : List Int}, k.map V.int = l.map V.int → k = l
  | [], [], _ => rfl
  | [], _ :: _, h => by cases h
  | _ :: _, [], h => by cases h
  | x :: r, y :: t, h => by
    rw [List.map_cons, List.map_cons] at h
    obtain ⟨e, h⟩ := List.cons.inj h
    rw [V.int.inj e, ints_inj h]
theorem vals_refs' : ∀ out : List (Addr × List Int), Vals (out.map fun x => V.ref x.1) (out.map fun x => Value.ref x.1)
  | [] => .nil
  | _ :: r => .cons rfl (vals_refs' r)
variable {X : Cx}
/-- sorted(d), the keys of d tuples of ints -/
theorem cr_sortedDT (hcalm : X.calm = true) : CallR X (.builtin "sorted") (fun xs H Q => ∃ (d : Addr) (kvs : List (List Key × V)) (ks : List (List Int)), xs = [.ref d] ∧ Rd H d (.dT kvs) ∧ kvs.map (·.1) = ks.map (fun k => k.map Sum.inl) ∧ (2 ≤ ks.length → ∀ k ∈ ks, k ≠ []) ∧
    ∀ (out : List (Addr × List Int)) (p : Addr), (out.map (·.2)).Perm ks → (out.map (·.2)).Pairwise (fun a b => HT.lexLt b a = false) → ks.Nodup → (∀ x ∈ out, H x.1 = some (.tup (x.2.map V.int))) → H p = none → Q (.ref p) (upd H p (.lst (out.map fun x => V.ref x.1)))) := by
  rintro pins s σ H xs us Q I rel ⟨d, kvs, ks, rfl, hd, hks, hne, want⟩
  obtain ⟨u, rfl, rx⟩ := rel.one
  cases rx
  obtain ⟨z, hs, xs, pr, o, es, ep, ho, hx, hdt, he, hn⟩ := (show ObjOk X.prog X.w H s.heap d (.dT kvs) from hd.ok I.hok)
  have l1 : es.size = xs.length := size_of_entries he
  have l2 : kvs.length = xs.length := Paired.length pr
  -- the keys' addresses
  have keyed : ∀ (kvs : List (List Key × V)) (xs : List (List Key × Addr × Value)) (ks : List (List Int)), Paired (fun (p : List Key × V) (q : List Key × Addr × Value) => p.1 = q.1 ∧ H q.2.1 = some (.tup (p.1.map kV)) ∧ RelV p.2 q.2.2) kvs xs → kvs.map (·.1) = ks.map (fun k => k.map Sum.inl) →
      xs.map (·.1) = ks.map (fun k => k.map Sum.inl) ∧ ∀ x ∈ (xs.map (·.2.1)).zip ks, H x.1 = some (.tup (x.2.map V.int)) := by
    intro kvs
    induction kvs with
    | nil =>
      intro xs ks pr hks
      cases pr
      cases ks with
      | nil => exact ⟨rfl, fun x hx => by cases hx⟩
      | cons k r => cases hks
    | cons a r ih =>
      intro xs ks pr hks
      cases pr with
      | cons h t =>
        rename_i q xs'
        cases ks with
        | nil => cases hks
        | cons k ks' =>
          obtain ⟨e1', e2⟩ := List.cons.inj hks
          have e1 : a.1 = k.map Sum.inl := e1'
          obtain ⟨i1, i2⟩ := ih _ _ t e2
          obtain ⟨h1, h2, _⟩ := h
          refine ⟨?_, fun x hx => ?_⟩
          · rw [List.map_cons, List.map_cons, i1, ← h1, e1]
          · rw [List.map_cons, List.zip_cons_cons] at hx
            rcases List.mem_cons.mp hx with e | hx
            · rw [e]
              show H q.2.1 = _
              rw [h2, e1, List.map_map]
              rfl
            · exact i2 x hx
  obtain ⟨kx, held⟩ := keyed kvs xs ks pr hks
  have lk : xs.length = ks.length := by
    have := congrArg List.length kx
    rwa [List.length_map, List.length_map] at this
  have nod : ks.Nodup := by
    rw [kx] at hn
    exact nodup_of_map hn
  apply Calls.call_function_entry kind_sorted plain_sorted entry_sorted (args_sorted1 (.ref d))
  unfold Builtin.«sorted»
  apply wpAny_bind (m := checkCount "sorted" 1 1 _)
  apply wpAny_pure
  refine wpAny_bind (PySem.W.kdu_collect (A := X.A.in1) (kdl_raw hs hx hdt) (I.ok.hd hcalm) ho (by omega) fun h' tk got hk hacc => ?_)
  have ea : got.toList = (xs.map (·.2.1)).map Value.ref := by
    have hl : got.toList.length = xs.length := by rw [Array.length_toList, hacc.1]; exact l1
    apply List.ext_getElem
    · rw [hl, List.length_map, List.length_map]
    · intro j hj1 hj2
      have g1 : got[j]? = some got.toList[j] := by
        rw [← Array.getElem?_toList]
        exact List.getElem?_eq_getElem hj1
      obtain ⟨en, hen, hv⟩ := hacc.2 j _ g1
      have qe := entry_at he j
      have hjx : j < xs.length := by omega
      rw [hen, List.getElem?_eq_getElem hjx] at qe
      have e2 := Option.some.inj qe
      rw [hv, e2, List.getElem_map, List.getElem_map]
      rfl
  have J1 : Inv X pins σ H { s with heap := h', toks := tk } := I.kept hk
  have gotk : got.toList.length = ks.length := by rw [ea, List.length_map, List.length_map, lk]
  have fits : got.toList.length ≤ sizeLine := by omega
  apply wpAny_bind
  refine wpAny_newList ?_ fits
  have atL : (h'.push (seqObj "list" got.toList.toArray 0)).get? h'.objs.size = some (seqObj "list" got.toList.toArray 0) := Heap.get?_push_size _ rfl
  show wpAny _ _ _ _ _ { s with heap := h'.push (seqObj "list" got.toList.toArray 0), toks := tk }
  -- each key stands in the heap
  have stands : ∀ (a : Addr) (k : List Int), H a = some (.tup (k.map V.int)) → ∃ its : List Value, Vals (k.map V.int) its ∧ IsTup h' a its.toArray := fun a k e => by
    obtain ⟨_, its, rv, it⟩ := (show ObjOk X.prog X.w H h' a (.tup (k.map V.int)) from J1.hok a _ e)
    exact ⟨its, rv, it⟩
  have keyOf : ∀ (a : Addr) (k : List Int), H a = some (.tup (k.map V.int)) → PyProof.Rows.G.tupKeyC (h'.push (seqObj "list" got.toList.toArray 0)) (fun _ => false) (.ref a) = some (k.map Sum.inl) := fun a k e => by
    obtain ⟨its, rv, ob, h1, h2, n, h3⟩ := stands a k e
    have g : (h'.push (seqObj "list" got.toList.toArray 0)).get? a = some ob := Heap.get?_push_of_some _ h1
    have it : PyProof.Rows.G.isTupObj (h'.push (seqObj "list" got.toList.toArray 0)) (.ref a) = true := by
      simp only [PyProof.Rows.G.isTupObj, g, h2]
      rfl
    unfold PyProof.Rows.G.tupKeyC
    rw [if_pos it]
    unfold tupKey
    dsimp only
    rw [g]
    dsimp only
    rw [h3]
    dsimp only
    exact tupItems_ints k its 0 rv
  have zipped : ∀ v ∈ got.toList, ∃ a k, v = Value.ref a ∧ k ∈ ks ∧ H a = some (.tup (k.map V.int)) := fun v hv => by
    obtain ⟨j, hj, e⟩ := List.getElem_of_mem hv
    have hjk : j < ks.length := by omega
    have hjx : j < (xs.map (·.2.1)).length := by rw [List.length_map]; omega
    have ev : v = Value.ref (xs.map (·.2.1))[j] := by
      rw [← e]
      simp only [ea, List.getElem_map]
    refine ⟨_, ks[j], ev, List.getElem_mem _, held ((xs.map (·.2.1))[j], ks[j]) ?_⟩
    rw [List.mem_iff_getElem]
    refine ⟨j, by rw [List.length_zip]; omega, ?_⟩
    rw [List.getElem_zip]
  have keys : KeysOf (PyProof.Rows.G.tupKindC (h'.push (seqObj "list" got.toList.toArray 0)) fun _ => false) (pairsOf got.toList) := PyProof.Rows.G.tupKeys fun v hv => by
    obtain ⟨a, k, rfl, _, hk⟩ := zipped v hv
    exact ⟨_, keyOf a k hk⟩
  have k6 := PyProof.Rows.G.keeps_sort6 (vs := got.toList) atL
  have tups : 2 ≤ got.toList.length → ∃ fs, 0 < fs.length ∧ TupsOf (h'.push (seqObj "list" got.toList.toArray 0)) (fun _ => false) got.toList fs := fun h2 => by
    have each : ∀ l : List Value, (∀ v ∈ l, ∃ a k, v = Value.ref a ∧ k ∈ ks ∧ H a = some (.tup (k.map V.int))) → ∃ fs, fs.length = l.length ∧ TupsOf (h'.push (seqObj "list" got.toList.toArray 0)) (fun _ => false) l fs := by
      intro l
      induction l with
      | nil => exact fun _ => ⟨[], rfl, .nil⟩
      | cons v r ih =>
        intro hv
        obtain ⟨fs, hl, ht⟩ := ih fun y hy => hv y (List.mem_cons_of_mem _ hy)
        obtain ⟨a, k, rfl, hm, hk⟩ := hv v List.mem_cons_self
        obtain ⟨its, rv, ob, h1, h2', n, h3⟩ := stands a k hk
        cases k with
        | nil => exact absurd rfl (hne (by omega) [] hm)
        | cons i k =>
          cases rv with
          | @cons _ u0 _ ur r0 rt =>
            obtain ⟨tk0, rfl⟩ := (show ∃ tk, u0 = Value.int i tk from r0)
            exact ⟨.int i tk0 :: fs, by rw [List.length_cons, List.length_cons, hl], .cons ⟨a, ob, _, n, rfl, Heap.get?_push_of_some _ h1, h2', h3, rfl, fun _ => ⟨i, tk0, rfl⟩, fun z => by cases z⟩ ht⟩
    obtain ⟨fs, hl, ht⟩ := each got.toList zipped
    exact ⟨fs, by omega, ht⟩
  refine wpAny_bind (wpAny_holding (wpAny_call_entry PyProof.Rows.slot_list_sort ⟨_, atL, rfl⟩ PyProof.Rows.entry_list_sort
    (PyProof.Rows.G.list_sort_treeG (κ := PyProof.Rows.G.tupKindC (h'.push (seqObj "list" got.toList.toArray 0)) fun _ => false) (kd := tuples' true) (s := { s with heap := h'.push (seqObj "list" got.toList.toArray 0), toks := tk }) atL keys
      (PyProof.Rows.G.tupC_ltAt true k6) (fun h2 R hq => ?kind) fits fun st' a1 a2 a3 => ⟨_, rfl, ?ret⟩) (PyProof.Rows.args_list_sort _)))
  case kind =>
    obtain ⟨fs, hl, ht⟩ := tups h2
    exact tup_kind hl (PyProof.Rows.G.TupsOf.keep k6 ht) hq
  case ret =>
    obtain ⟨o1, o2⟩ := sort_left a1 a2
    have out : ∃ out : List (Addr × List Int), (arrOf st').toList.map (·.2) = out.map (fun x => Value.ref x.1) ∧ ∀ x ∈ out, H x.1 = some (.tup (x.2.map V.int)) := by
      have each : ∀ l : List Value, (∀ v ∈ l, v ∈ got.toList) → ∃ out : List (Addr × List Int), l = out.map (fun x => Value.ref x.1) ∧ ∀ x ∈ out, H x.1 = some (.tup (x.2.map V.int)) := by
        intro l
        induction l with
        | nil => exact fun _ => ⟨[], rfl, fun x hx => by cases hx⟩
        | cons v r ih =>
          intro hv
          obtain ⟨out, e, ho'⟩ := ih fun y hy => hv y (List.mem_cons_of_mem _ hy)
          obtain ⟨a, k, rfl, _, hk⟩ := zipped v (hv v List.mem_cons_self)
          refine ⟨(a, k) :: out, by rw [List.map_cons, e], fun x hx => ?_⟩
          rcases List.mem_cons.mp hx with e' | hx
          · rw [e']
            exact hk
          · exact ho' x hx
      exact each _ fun v hv => o1.mem_iff.mp hv
    obtain ⟨out, eo, ho'⟩ := out
    obtain ⟨ep', he'⟩ := PyProof.Rows.sortedHeap_at (vs := got.toList) (out := (arrOf st').map (·.2)) atL
    have oz : out.length ≤ sizeLine := by
      have e1 := congrArg List.length eo
      have e2 := o1.length_eq
      rw [List.length_map] at e1 e2
      rw [List.length_map] at e1
      omega
    have inj : ∀ (a : Addr) (k l : List Int), H a = some (.tup (k.map V.int)) → H a = some (.tup (l.map V.int)) → k = l := fun a k l h1 h2 => by
      rw [h1] at h2
      exact ints_inj (HO.tup.inj (Option.some.inj h2))
    refine wpAny_pure ⟨_, rfl, .ref h'.objs.size, upd H h'.objs.size (.lst (out.map fun x => V.ref x.1)), J1.laid (t' := tk) (fun b u q => ?old) (Nat.le_refl _) ⟨by rw [List.length_map]; exact oz, ((arrOf st').map (·.2)).toList, ep', ?vals, he'⟩, rfl, want out _ ?perm ?pw nod ho' (J1.hok.fresh (Nat.le_refl _))⟩
    case old =>
      rw [PyProof.Rows.sortedHeap_old (Nat.ne_of_lt (Heap.lt_size q)) (Nat.lt_of_lt_of_le (Heap.lt_size q) (by rw [size_push']; exact Nat.le_succ _))]
      exact Heap.get?_push_of_some _ q
    case vals =>
      rw [Array.toList_map, eo]
      exact vals_refs' out
    case perm =>
      have p1 : (out.map (fun x => Value.ref x.1)).Perm got.toList := by rw [← eo]; exact o1
      have rd : ∀ v : Value, ∃ k : List Int, ∀ (a : Addr) (l : List Int), v = .ref a → H a = some (.tup (l.map V.int)) → k = l := fun v => by
        by_cases h : ∃ (a : Addr) (l : List Int), v = .ref a ∧ H a = some (.tup (l.map V.int))
        · obtain ⟨a, l, e, h⟩ := h
          refine ⟨l, fun a' l' e' h' => ?_⟩
          cases e.symm.trans e'
          exact inj _ _ _ h h'
        · exact ⟨[], fun a l e h' => absurd ⟨a, l, e, h'⟩ h⟩
      have p2 := p1.map fun v => (rd v).choose
      rw [List.map_map] at p2
      have e1 : out.map (((fun v => (rd v).choose)) ∘ fun x => Value.ref x.1) = out.map (·.2) := List.map_congr_left fun x hx => (rd (.ref x.1)).choose_spec _ _ rfl (ho' x hx)
      have e2 : got.toList.map (fun v => (rd v).choose) = ks := by
        apply List.ext_getElem
        · rw [List.length_map]; exact gotk
        · intro j h1 h2
          have h3 : j < (xs.map (·.2.1)).length := by rw [List.length_map]; omega
          rw [List.getElem_map]
          have ev : got.toList[j]'(by omega) = Value.ref (xs.map (·.2.1))[j] := by simp only [ea, List.getElem_map]
          refine (rd _).choose_spec _ _ ev (held ((xs.map (·.2.1))[j], ks[j]) ?_)
          rw [List.mem_iff_getElem]
          refine ⟨j, by rw [List.length_zip]; omega, ?_⟩
          rw [List.getElem_zip]
      rw [e1, e2] at p2
      exact p2
    case pw =>
      rw [eo, List.pairwise_map] at o2
      rw [List.pairwise_map]
      refine List.Pairwise.imp_of_mem (fun {x y} hx hy h => ?_) o2
      have hle := h _ _ (keyOf x.1 x.2 (ho' x hx)) (keyOf y.1 y.2 (ho' y hy))
      rw [← lexLt_inl]
      exact hle
end
end L2

set_option Elab.async false
set_option linter.all false
set_option maxRecDepth 100000
set_option maxHeartbeats 2000000
/-! rows: what a list of entries sums to, and the one row of the sums -/
namespace OT
open PySem PySem.Spec PyProof.Rows L2
abbrev Pl := List Int
abbrev Ent := List Int × Int
def numAt : List Ent → Pl → Int
  | [], _ => 0
  | e :: r, q => (if e.1 = q then e.2 else 0) + numAt r q
theorem numAt_app : ∀ (a b : List Ent) (q : Pl), numAt (a ++ b) q = numAt a q + numAt b q
  | [], b, q => by
    show numAt b q = 0 + numAt b q
    omega
  | e :: r, b, q => by
    show (if e.1 = q then e.2 else 0) + numAt (r ++ b) q = (if e.1 = q then e.2 else 0) + numAt r q + numAt b q
    rw [numAt_app r b q]
    omega
theorem numAt_out {es : List Ent} {q : Pl} (h : ∀ e ∈ es, e.1 ≠ q) : numAt es q = 0 := by
  induction es with
  | nil => rfl
  | cons e r ih =>
    show (if e.1 = q then e.2 else 0) + numAt r q = 0
    rw [if_neg (h e List.mem_cons_self), ih fun x hx => h x (List.mem_cons_of_mem _ hx)]
    rfl
theorem lt_irr (k : Pl) : HT.lexLt k k = false := by
  rw [← lexLt_inl]
  exact PyProof.Rows.lex_irrefl _
theorem lt_trans {a b c : Pl} (h1 : HT.lexLt a b = true) (h2 : HT.lexLt b c = true) : HT.lexLt a c = true := by
  rw [← lexLt_inl] at *
  exact PyProof.Rows.lex_trans _ _ _ h1 h2
theorem inl_inj {β : Type} : ∀ {a b : Pl}, a.map (Sum.inl : Int → Int ⊕ β) = b.map Sum.inl → a = b
  | [], [], _ => rfl
  | [], _ :: _, h => by cases h
  | _ :: _, [], h => by cases h
  | x :: r, y :: t, h => by
    rw [List.map_cons, List.map_cons] at h
    obtain ⟨e, h⟩ := List.cons.inj h
    rw [Sum.inl.inj e, inl_inj h]
theorem lt_tot {a b : Pl} (h1 : HT.lexLt a b = false) (h2 : HT.lexLt b a = false) : a = b := by
  rw [← lexLt_inl] at *
  exact inl_inj (PyProof.Rows.lex_total _ _ h1 h2)
theorem lt_ne {a b : Pl} (h : HT.lexLt a b = true) : a ≠ b := by
  rintro rfl
  rw [lt_irr] at h
  cases h
structure Valid (r : List Ent) : Prop where
  asc : r.Pairwise fun a b => HT.lexLt a.1 b.1 = true
  nz : ∀ e ∈ r, e.2 ≠ 0
theorem Valid.tail {e : Ent} {r : List Ent} (h : Valid (e :: r)) : Valid r := ⟨(List.pairwise_cons.mp h.asc).2, fun x hx => h.nz x (List.mem_cons_of_mem _ hx)⟩
theorem Valid.head_out {e : Ent} {r : List Ent} (h : Valid (e :: r)) {q : Pl} (hq : q = e.1 ∨ HT.lexLt q e.1 = true) : numAt r q = 0 := by
  refine numAt_out fun x hx z => ?_
  have h1 := (List.pairwise_cons.mp h.asc).1 x hx
  rcases hq with rfl | hq
  · exact lt_ne h1 z.symm
  · exact lt_ne (lt_trans hq h1) z.symm
theorem Valid.head_at {e : Ent} {r : List Ent} (h : Valid (e :: r)) : numAt (e :: r) e.1 = e.2 := by
  show (if e.1 = e.1 then e.2 else 0) + numAt r e.1 = e.2
  rw [if_pos rfl, h.head_out (.inl rfl)]
  omega
theorem Valid.low {e : Ent} {r : List Ent} (h : Valid (e :: r)) {q : Pl} (hq : HT.lexLt q e.1 = true) : numAt (e :: r) q = 0 := by
  show (if e.1 = q then e.2 else 0) + numAt r q = 0
  rw [if_neg (fun z => lt_ne hq z.symm), h.head_out (.inr hq)]
  rfl
theorem Valid.ext : ∀ {r t : List Ent}, Valid r → Valid t → (∀ q, numAt r q = numAt t q) → r = t
  | [], [], _, _, _ => rfl
  | [], e :: t, _, ht, h => by
    have h1 := h e.1
    rw [ht.head_at] at h1
    exact absurd h1.symm (ht.nz e List.mem_cons_self)
  | e :: r, [], hr, _, h => by
    have h1 := h e.1
    rw [hr.head_at] at h1
    exact absurd h1 (hr.nz e List.mem_cons_self)
  | e :: r, f :: t, hr, ht, h => by
    have k : e.1 = f.1 := by
      refine lt_tot ?_ ?_
      · cases z : HT.lexLt e.1 f.1 with
        | false => rfl
        | true =>
          have h1 := h e.1
          rw [hr.head_at, ht.low z] at h1
          exact absurd h1 (hr.nz e List.mem_cons_self)
      · cases z : HT.lexLt f.1 e.1 with
        | false => rfl
        | true =>
          have h1 := h f.1
          rw [ht.head_at, hr.low z] at h1
          exact absurd h1.symm (ht.nz f List.mem_cons_self)
    have n : e.2 = f.2 := by
      have h1 := h e.1
      rw [hr.head_at, k, ht.head_at] at h1
      exact h1
    have ef : e = f := Prod.ext k n
    subst ef
    refine congrArg _ (Valid.ext hr.tail ht.tail fun q => ?_)
    have h1 := h q
    have h2 : (if e.1 = q then e.2 else 0) + numAt r q = (if e.1 = q then e.2 else 0) + numAt t q := h1
    omega
/-- the row of the sums -/
structure RowIs (r es : List Ent) : Prop where
  v : Valid r
  s : ∀ q, numAt r q = numAt es q
theorem RowIs.one {r t es : List Ent} (h1 : RowIs r es) (h2 : RowIs t es) : r = t := h1.v.ext h2.v fun q => (h1.s q).trans (h2.s q).symm
theorem Valid.at : ∀ {r : List Ent}, Valid r → ∀ e ∈ r, numAt r e.1 = e.2
  | f :: t, h, e, he => by
    rcases List.mem_cons.mp he with rfl | he
    · exact h.head_at
    · show (if f.1 = e.1 then f.2 else 0) + numAt t e.1 = e.2
      rw [if_neg (lt_ne ((List.pairwise_cons.mp h.asc).1 e he)), Valid.at h.tail e he]
      omega
theorem RowIs.mem {r es : List Ent} (h : RowIs r es) {e : Ent} (he : e ∈ r) : ∃ x ∈ es, x.1 = e.1 := by
  have h1 := h.v.at e he
  rw [h.s] at h1
  by_cases z : ∃ x ∈ es, x.1 = e.1
  · exact z
  · rw [numAt_out fun x hx y => z ⟨x, hx, y⟩] at h1
    exact absurd h1.symm (h.v.nz e he)
theorem Valid.len : ∀ {r : List Ent} {l : List Pl}, Valid r → (∀ e ∈ r, e.1 ∈ l) → r.length ≤ l.length
  | [], _, _, _ => Nat.zero_le _
  | e :: t, l, h, k => by
    have h1 := k e List.mem_cons_self
    have ih := Valid.len (l := l.erase e.1) h.tail fun x hx => (List.mem_erase_of_ne (lt_ne ((List.pairwise_cons.mp h.asc).1 x hx)).symm).mpr (k x (List.mem_cons_of_mem _ hx))
    rw [List.length_erase_of_mem h1] at ih
    have h2 := List.length_pos_of_mem h1
    rw [List.length_cons]
    omega
theorem RowIs.len {r es : List Ent} (h : RowIs r es) : r.length ≤ es.length := by
  have := h.v.len (l := es.map (·.1)) fun e he => by
    obtain ⟨x, hx, ex⟩ := h.mem he
    rw [← ex]
    exact List.mem_map_of_mem hx
  rwa [List.length_map] at this
/-- the entries of the keys in turn -/
def mkR (f : Pl → Int) : List Pl → List Ent
  | [] => []
  | k :: r => if f k = 0 then mkR f r else (k, f k) :: mkR f r
theorem mkR_snoc (f : Pl → Int) (k : Pl) : ∀ ks : List Pl, mkR f (ks ++ [k]) = mkR f ks ++ (if f k = 0 then [] else [(k, f k)])
  | [] => by
    show (if f k = 0 then [] else [(k, f k)]) = [] ++ _
    rw [List.nil_append]
  | x :: r => by
    show (if f x = 0 then mkR f (r ++ [k]) else (x, f x) :: mkR f (r ++ [k])) = (if f x = 0 then mkR f r else (x, f x) :: mkR f r) ++ _
    rw [mkR_snoc f k r]
    by_cases h : f x = 0
    · rw [if_pos h, if_pos h]
    · rw [if_neg h, if_neg h]
      rfl
theorem mkR_mem {f : Pl → Int} {e : Ent} : ∀ {ks : List Pl}, e ∈ mkR f ks → e.1 ∈ ks ∧ e.2 = f e.1 ∧ e.2 ≠ 0
  | k :: r, h => by
    have h' : e ∈ (if f k = 0 then mkR f r else (k, f k) :: mkR f r) := h
    by_cases z : f k = 0
    · rw [if_pos z] at h'
      obtain ⟨h1, h2⟩ := mkR_mem h'
      exact ⟨List.mem_cons_of_mem _ h1, h2⟩
    · rw [if_neg z] at h'
      rcases List.mem_cons.mp h' with rfl | h'
      · exact ⟨List.mem_cons_self, rfl, z⟩
      · obtain ⟨h1, h2⟩ := mkR_mem h'
        exact ⟨List.mem_cons_of_mem _ h1, h2⟩
theorem mkR_valid {f : Pl → Int} : ∀ {ks : List Pl}, ks.Pairwise (fun a b => HT.lexLt a b = true) → Valid (mkR f ks)
  | [], _ => ⟨.nil, fun e h => by cases h⟩
  | k :: r, h => by
    obtain ⟨h1, h2⟩ := List.pairwise_cons.mp h
    have ih := mkR_valid (f := f) h2
    show Valid (if f k = 0 then mkR f r else (k, f k) :: mkR f r)
    by_cases z : f k = 0
    · rw [if_pos z]
      exact ih
    · rw [if_neg z]
      refine ⟨List.pairwise_cons.mpr ⟨fun e he => h1 _ (mkR_mem he).1, ih.asc⟩, fun e he => ?_⟩
      rcases List.mem_cons.mp he with rfl | he
      · exact z
      · exact ih.nz e he
theorem mkR_sum {f : Pl → Int} : ∀ {ks : List Pl}, ks.Nodup → ∀ q, numAt (mkR f ks) q = if q ∈ ks then f q else 0
  | [], _, q => rfl
  | k :: r, h, q => by
    obtain ⟨h1, h2⟩ := List.nodup_cons.mp h
    have ih := mkR_sum (f := f) h2 q
    show numAt (if f k = 0 then mkR f r else (k, f k) :: mkR f r) q = _
    have key : numAt (if f k = 0 then mkR f r else (k, f k) :: mkR f r) q = (if k = q then f k else 0) + numAt (mkR f r) q := by
      by_cases z : f k = 0
      · rw [if_pos z, z, ite_self]
        omega
      · rw [if_neg z]
        rfl
    rw [key, ih]
    by_cases e : k = q
    · subst e
      rw [if_pos rfl, if_neg h1, if_pos List.mem_cons_self]
      omega
    · rw [if_neg e]
      by_cases m : q ∈ r
      · rw [if_pos m, if_pos (List.mem_cons_of_mem _ m)]
        omega
      · rw [if_neg m, if_neg]
        · rfl
        · intro hq
          rcases List.mem_cons.mp hq with rfl | hq
          · exact e rfl
          · exact m hq
/-- a dict of sums: its keys are ks, at k it holds f k -/
structure Sums (kvs : List (List Key × V)) (ks : List Pl) (f : Pl → Int) : Prop where
  keys : kvs.map (·.1) = ks.map fun k => k.map Sum.inl
  val : ∀ k : Pl, valV kvs (k.map Sum.inl) = if k ∈ ks then some (V.int (f k)) else none
  out : ∀ k, k ∉ ks → f k = 0
theorem Sums.nil : Sums [] [] (fun _ => 0) := ⟨rfl, fun k => rfl, fun _ _ => rfl⟩
theorem Sums.len {kvs : List (List Key × V)} {ks : List Pl} {f : Pl → Int} (h : Sums kvs ks f) : kvs.length = ks.length := by
  have := congrArg List.length h.keys
  rwa [List.length_map, List.length_map] at this
theorem putK_keys {κ : Type} [DecidableEq κ] {kvs : List (κ × V)} {k : κ} {v : V} (h : (valV kvs k).isSome = true) : (putK kvs k v).map (·.1) = kvs.map (·.1) := by
  unfold putK
  rw [valV_any, if_pos h, List.map_map]
  refine List.map_congr_left fun x _ => ?_
  show (if x.1 = k then (x.1, v) else x).1 = x.1
  by_cases e : x.1 = k
  · rw [if_pos e]
  · rw [if_neg e]
theorem Sums.put {kvs : List (List Key × V)} {ks : List Pl} {f : Pl → Int} (h : Sums kvs ks f) (k : Pl) (n : Int) :
    Sums (putK kvs (k.map Sum.inl) (.int (f k + n))) (if k ∈ ks then ks else ks ++ [k]) (fun q => f q + if k = q then n else 0) := by
  have hv := h.val k
  refine ⟨?_, fun q => ?_, fun q hq => ?_⟩
  · by_cases m : k ∈ ks
    · rw [if_pos m] at hv ⊢
      rw [putK_keys (by rw [hv]; rfl), h.keys]
    · rw [if_neg m] at hv ⊢
      rw [putK_new _ hv, List.map_append, List.map_append, h.keys]
      rfl
  · rw [valV_put, h.val]
    by_cases e : q = k
    · subst e
      rw [if_pos rfl, if_pos rfl, if_pos]
      by_cases m : q ∈ ks
      · rw [if_pos m]
        exact m
      · rw [if_neg m]
        exact List.mem_append_right _ List.mem_cons_self
    · have ne1 : ¬ (q.map (Sum.inl : Int → Key) = k.map Sum.inl) := fun z => e (inl_inj z)
      have ne2 : ¬ (k = q) := fun z => e z.symm
      rw [if_neg ne1, if_neg ne2]
      have mm : (q ∈ if k ∈ ks then ks else ks ++ [k]) ↔ q ∈ ks := by
        by_cases m : k ∈ ks
        · rw [if_pos m]
        · rw [if_neg m, List.mem_append, List.mem_singleton]
          exact ⟨fun z => z.elim id fun z => absurd z e, .inl⟩
      by_cases m : q ∈ ks
      · rw [if_pos m, if_pos (mm.mpr m), Int.add_zero]
      · rw [if_neg m, if_neg (fun z => m (mm.mp z))]
  · have hq2 : q ∉ ks ∧ k ≠ q := by
      by_cases m : k ∈ ks
      · rw [if_pos m] at hq
        exact ⟨hq, fun z => hq (z ▸ m)⟩
      · rw [if_neg m] at hq
        exact ⟨fun z => hq (List.mem_append_left _ z), fun z => hq (List.mem_append_right _ (z ▸ List.mem_cons_self))⟩
    show f q + (if k = q then n else 0) = 0
    rw [if_neg hq2.2, h.out q hq2.1]
    rfl
theorem Sums.next {kvs : List (List Key × V)} {ks : List Pl} {es : List Ent} {i : Nat} {e : Ent} (hi : es[i]? = some e) (h : Sums kvs ks (numAt (es.take i))) :
    Sums (putK kvs (e.1.map Sum.inl) (.int (numAt (es.take i) e.1 + e.2))) (if e.1 ∈ ks then ks else ks ++ [e.1]) (numAt (es.take (i + 1))) := by
  have he : es.take (i + 1) = es.take i ++ [e] := by
    obtain ⟨h1, h2⟩ := List.getElem?_eq_some_iff.mp hi
    rw [List.take_add_one, hi]
    rfl
  have hf : numAt (es.take (i + 1)) = fun q => numAt (es.take i) q + if e.1 = q then e.2 else 0 := by
    funext q
    rw [he, numAt_app]
    show _ + ((if e.1 = q then e.2 else 0) + 0) = _
    omega
  rw [hf]
  exact h.put e.1 e.2
theorem Sums.get {kvs : List (List Key × V)} {ks : List Pl} {f : Pl → Int} (h : Sums kvs ks f) {k : Pl} (m : k ∈ ks) : valV kvs (k.map Sum.inl) = some (.int (f k)) := by
  rw [h.val, if_pos m]
theorem Sums.getD {kvs : List (List Key × V)} {ks : List Pl} {f : Pl → Int} (h : Sums kvs ks f) (k : Pl) : (valV kvs (k.map Sum.inl)).getD (.int 0) = .int (f k) := by
  rw [h.val]
  by_cases m : k ∈ ks
  · rw [if_pos m]
    rfl
  · rw [if_neg m, h.out k m]
    rfl
/-- sorted keys' entries are the row -/
theorem row_sorted {es : List Ent} {ks out : List Pl} (perm : out.Perm ks) (pw : out.Pairwise fun a b => HT.lexLt b a = false) (nod : ks.Nodup) (all : ∀ q, q ∉ ks → numAt es q = 0) : RowIs (mkR (numAt es) out) es := by
  have no : out.Nodup := perm.nodup_iff.mpr nod
  have asc : out.Pairwise fun a b => HT.lexLt a b = true := by
    have both := List.pairwise_and_iff.mpr ⟨pw, no⟩
    refine both.imp fun {a b} h => ?_
    cases z : HT.lexLt a b with
    | true => rfl
    | false => exact absurd (lt_tot z h.1) h.2
  refine ⟨mkR_valid asc, fun q => ?_⟩
  rw [mkR_sum no]
  by_cases m : q ∈ out
  · rw [if_pos m]
  · rw [if_neg m, all q fun z => m (perm.mem_iff.mpr z)]
/-! ### rows in the heap -/
def EntAt (H : Hp) (v : V) (e : Ent) : Prop := ∃ t p, v = .ref t ∧ H t = some (.tup [.ref p, .int e.2]) ∧ H p = some (.tup (e.1.map V.int))
inductive Ents (H : Hp) : List V → List Ent → Prop
  | nil : Ents H [] []
  | cons {v : V} {e : Ent} {vs : List V} {es : List Ent} : EntAt H v e → Ents H vs es → Ents H (v :: vs) (e :: es)
theorem Ents.len {H : Hp} {vs : List V} {es : List Ent} (h : Ents H vs es) : vs.length = es.length := by
  induction h with
  | nil => rfl
  | cons _ _ ih => rw [List.length_cons, List.length_cons, ih]
theorem EntAt.mono {H H' : Hp} {v : V} {e : Ent} (s : ∀ b o, H b = some o → H' b = some o) (h : EntAt H v e) : EntAt H' v e := by
  obtain ⟨t, p, rfl, h1, h2⟩ := h
  exact ⟨t, p, rfl, s _ _ h1, s _ _ h2⟩
theorem Ents.mono {H H' : Hp} {vs : List V} {es : List Ent} (s : ∀ b o, H b = some o → H' b = some o) (h : Ents H vs es) : Ents H' vs es := by
  induction h with
  | nil => exact .nil
  | cons h1 _ ih => exact .cons (h1.mono s) ih
theorem Ents.app {H : Hp} {vs ws : List V} {es fs : List Ent} (h : Ents H vs es) (g : Ents H ws fs) : Ents H (vs ++ ws) (es ++ fs) := by
  induction h with
  | nil => exact g
  | cons h1 _ ih => exact .cons h1 ih
theorem Ents.get {H : Hp} {vs : List V} {es : List Ent} (h : Ents H vs es) : ∀ {i : Nat} {v : V}, vs[i]? = some v → ∃ e, es[i]? = some e ∧ EntAt H v e := by
  induction h with
  | nil => intro i v h; simp at h
  | cons h1 _ ih =>
    intro i v hv
    cases i with
    | zero =>
      cases hv
      exact ⟨_, rfl, h1⟩
    | succ i => exact ih (i := i) hv
theorem Ents.at {H : Hp} {vs : List V} {es : List Ent} (h : Ents H vs es) {i : Nat} (hi : i < es.length) : ∃ v, vs[i]? = some v ∧ EntAt H v es[i] := by
  have h2 : i < vs.length := by rw [h.len]; exact hi
  obtain ⟨e, h3, h4⟩ := h.get (List.getElem?_eq_getElem h2)
  rw [List.getElem?_eq_getElem hi] at h3
  cases h3
  exact ⟨_, List.getElem?_eq_getElem h2, h4⟩
theorem Ents.set {H : Hp} {vs : List V} {es : List Ent} {v : V} {e : Ent} (h : Ents H vs es) (h1 : EntAt H v e) : ∀ i, Ents H (vs.set i v) (es.set i e) := by
  induction h with
  | nil => intro i; exact .nil
  | cons a b ih =>
    intro i
    cases i with
    | zero => exact .cons h1 b
    | succ i => exact .cons a (ih i)
/-- as data -/
def dPl (k : Pl) : PyData := .tuple (k.map .int)
def dEnt (e : Ent) : PyData := .tuple [dPl e.1, .int e.2]
def dRow (es : List Ent) : PyData := .list (es.map dEnt)
theorem dp_ints {K : PySem.W.Frag} {H : Hp} : ∀ k : Pl, DpAll K H (k.map V.int) (k.map PyData.int)
  | [] => .nil
  | n :: r => .cons (.int n) (dp_ints r)
theorem EntAt.dp {K : PySem.W.Frag} {H : Hp} {v : V} {e : Ent} (h : EntAt H v e) : Dp K H v (dEnt e) := by
  obtain ⟨t, p, rfl, h1, h2⟩ := h
  exact .tup (.inl (.inl h1)) (.cons (.tup (.inl (.inl h2)) (dp_ints _)) (.cons (.int _) .nil))
theorem Ents.dpAll {K : PySem.W.Frag} {H : Hp} {vs : List V} {es : List Ent} (h : Ents H vs es) : DpAll K H vs (es.map dEnt) := by
  induction h with
  | nil => exact .nil
  | cons h1 _ ih => exact .cons h1.dp ih
theorem Ents.dp {K : PySem.W.Frag} {H : Hp} {a : Addr} {vs : List V} {es : List Ent} (ha : SqL K H a vs) (h : Ents H vs es) : Dp K H (.ref a) (dRow es) := .lst ha h.dpAll
theorem lay_ints : ∀ k : Pl, PyData.canLayAll0 (k.map PyData.int) = true
  | [] => rfl
  | n :: r => by
    show (PyData.canLay0 (.int n) && PyData.canLayAll0 (r.map PyData.int)) = true
    rw [lay_ints r]
    rfl
theorem lay_row : ∀ es : List Ent, PyData.canLayAll0 (es.map dEnt) = true
  | [] => rfl
  | e :: r => by
    show (PyData.canLay0 (dEnt e) && PyData.canLayAll0 (r.map dEnt)) = true
    rw [lay_row r]
    show ((PyData.canLayAll0 (e.1.map PyData.int) && (PyData.canLay0 (.int e.2) && true)) && true) = true
    rw [lay_ints]
    rfl
end OT

set_option Elab.async false
set_option linter.all false
set_option maxRecDepth 100000
set_option maxHeartbeats 4000000
/-! raise C(), an own class whose __init__ takes no argument but the error itself -/
namespace L2
open PySem PySem.Spec PyProof.Rows PySem.W PySem.Calls PySem.HandSPX
section
variable {X : Cx} {p pos : Pos} {pins : List (Addr × Obj)} {σ : St} {H : Hp} {st : Shared}
/-- the heap with the bare error and its empty arguments behind the old objects -/
def bareHeap (C : Addr) (h : Heap) : Heap := (h.push (kdv_tup [])).push (excO C h.objs.size)
theorem bare_grows {C : Addr} {h : Heap} (b : Addr) (o : Obj) (e : h.get? b = some o) : (bareHeap C h).get? b = some o := Heap.get?_push_of_some _ (Heap.get?_push_of_some _ e)
theorem bare_there {C : Addr} {h : Heap} : (bareHeap C h).get? (h.objs.size + 1) = some (excO C h.objs.size) := by
  show ((h.push (kdv_tup [])).push (excO C h.objs.size)).get? (h.objs.size + 1) = _
  heap_get
theorem bare_inv {C : Addr} (I : Inv X pins σ H st) : H (st.heap.objs.size + 1) = none ∧ Inv X pins σ (upd H (st.heap.objs.size + 1) (exo (st.heap.objs.size + 1) C none)) ⟨bareHeap C st.heap, st.gens, st.drawn, st.toks, st.os⟩ :=
  ⟨I.hok.fresh (Nat.le_succ _), I.laid (t' := st.toks) (a := st.heap.objs.size + 1) (h' := bareHeap C st.heap) (o := exo (st.heap.objs.size + 1) C none) bare_grows (Nat.le_succ _) (exo_ok bare_there)⟩
theorem pmk_oex0 {CX : CXT} {x : Str} {C fI : Addr} {k : Nat} {fd : FuncData} {ps : List Str} {sp : Sp} (T : OexC X.K C) (iC : findIn X.K (.ref C) "__init__" = some (some (.ref fI))) (tI : typeIn X.K (.ref fI) = some (.type "function"))
    (G : FnOk X.prog X.w X.K X.mg X.base CX k fI fd ps sp) (hr : Room (k + 1) X.A) (bi : Binds X.K fd ps []) (no : Passes CX X fun _ _ _ => False) (hg : Gl X x) (hm : X.mg x = some (.ref C)) (nd : (x == ("__debug__" : Str)) = false := by decide) :
    PMk X (.Call (.Name x p) [] [] pos) (tMkO C sp [] tNil) := by
  intro pins σ0 σ H Q I want
  rcases σ0 with ⟨h, gs, dw, ts, os⟩
  obtain ⟨_, _, _, _, bm, _, _, _, _, _, _, _, _, _, _, stands, vb⟩ := T.cls
  obtain ⟨_, ask⟩ := want
  obtain ⟨free, J⟩ := bare_inv (C := C) I
  have promise := ask (h.objs.size + 1) free
  have one : ([Value.ref (h.objs.size + 1)] : List Value).length = ps.length := (G.len _ _ _ _ promise).symm ▸ rfl
  have body := G.run (X.A.under (.builtin "type.__call__" ⟨[.ref C], []⟩)) X.stack _ _ ⟨[.ref (h.objs.size + 1)], []⟩ [.ref (h.objs.size + 1)] _ _ (fun _ _ _ => False) (hr.make C [] []) (J.env0.make C [] []) (bi _ [.ref (h.objs.size + 1)] J.kIn one) (show Vals [V.ref (h.objs.size + 1)] [Value.ref (h.objs.size + 1)] from .cons rfl .nil) promise
  refine wpAny_Call_Name_kw (ld_glob I hg hm (callWith_K0 I.kIn T.kC ?_) nd)
  refine wpAny_call (call_own (rest := []) F.excBase_ValueError (fun Y => refsVE_contains Y bm vb) (I.kIn _ _ stands) (looks_findIn I.kIn iC) (fun me => bind_fn I.kIn me tI) (Nat.zero_le _) (codeAny_mono body ?_))
  rintro (er | fl) s2 end_
  · exact no pins σ _ _ er s2 J end_
  · cases fl with
    | ret u =>
      rcases s2 with ⟨h2, gs2, dw2, ts2, os2⟩
      obtain ⟨_, H2, same, bare, un, ok2, rel, rfl, d, fs, at_a, at_d, new, q⟩ := end_
      exact ⟨rel, mk_end (raises_own T.exC T.tyC) I (Nat.le_succ _) bare_grows un ok2 same bare at_a at_d new q⟩
    | next => cases end_
    | brk => cases end_
    | cont => cases end_
end
end L2

set_option Elab.async false
set_option linter.all false
set_option maxRecDepth 100000
set_option maxHeartbeats 2000000
/-! sums over entries with weights: they depend on the sums at the places alone -/
namespace OT
open PySem PySem.Spec PyProof.Rows L2
def sumW (w : Pl → Int) : List Ent → Int
  | [] => 0
  | e :: r => e.2 * w e.1 + sumW w r
theorem sumW_app (w : Pl → Int) : ∀ a b : List Ent, sumW w (a ++ b) = sumW w a + sumW w b
  | [], b => by show sumW w b = 0 + sumW w b; omega
  | e :: r, b => by
    show e.2 * w e.1 + sumW w (r ++ b) = e.2 * w e.1 + sumW w r + sumW w b
    rw [sumW_app w r b]
    omega
/-- 1 at the place -/
def at1 (q : Pl) : Pl → Int := fun k => if k = q then 1 else 0
theorem numAt_sumW (q : Pl) : ∀ es : List Ent, numAt es q = sumW (at1 q) es
  | [] => rfl
  | e :: r => by
    show (if e.1 = q then e.2 else 0) + numAt r q = e.2 * (if e.1 = q then 1 else 0) + sumW (at1 q) r
    rw [numAt_sumW q r]
    by_cases h : e.1 = q
    · rw [if_pos h, if_pos h, Int.mul_one]
    · rw [if_neg h, if_neg h, Int.mul_zero]
def negs (es : List Ent) : List Ent := es.map fun e => (e.1, -e.2)
theorem numAt_negs (q : Pl) : ∀ es : List Ent, numAt (negs es) q = - numAt es q
  | [] => rfl
  | e :: r => by
    have ih := numAt_negs q r
    show (if e.1 = q then -e.2 else 0) + numAt (negs r) q = -((if e.1 = q then e.2 else 0) + numAt r q)
    rw [ih]
    by_cases h : e.1 = q
    · rw [if_pos h, if_pos h]; omega
    · rw [if_neg h, if_neg h]; omega
theorem sumW_negs (w : Pl → Int) : ∀ es : List Ent, sumW w (negs es) = - sumW w es
  | [] => rfl
  | e :: r => by
    have ih := sumW_negs w r
    show -e.2 * w e.1 + sumW w (negs r) = -(e.2 * w e.1 + sumW w r)
    rw [ih, Int.neg_mul]
    omega
def off (k : Pl) (es : List Ent) : List Ent := es.filter fun e => decide (e.1 ≠ k)
theorem sumW_off (w : Pl → Int) (k : Pl) : ∀ es : List Ent, sumW w es = numAt es k * w k + sumW w (off k es)
  | [] => by show (0 : Int) = 0 * w k + 0; rw [Int.zero_mul]; rfl
  | e :: r => by
    have ih := sumW_off w k r
    show e.2 * w e.1 + sumW w r = ((if e.1 = k then e.2 else 0) + numAt r k) * w k + sumW w (off k (e :: r))
    unfold off at ih ⊢
    rw [List.filter_cons]
    by_cases h : e.1 = k
    · rw [if_pos h, if_neg (by simp [h]), ih, Int.add_mul, h]
      omega
    · rw [if_neg h, if_pos (decide_eq_true h), ih]
      show e.2 * w e.1 + _ = (0 + numAt r k) * w k + (e.2 * w e.1 + _)
      rw [Int.zero_add]
      omega
theorem numAt_off (k q : Pl) (es : List Ent) : numAt (off k es) q = if q = k then 0 else numAt es q := by
  by_cases h : q = k
  · subst h
    rw [if_pos rfl]
    refine numAt_out fun e he => ?_
    exact of_decide_eq_true (List.mem_filter.mp he).2
  · rw [if_neg h]
    have h1 := sumW_off (at1 q) k es
    rw [← numAt_sumW, ← numAt_sumW] at h1
    have : at1 q k = 0 := if_neg fun z => h z.symm
    rw [this, Int.mul_zero] at h1
    omega
theorem off_len {k : Pl} : ∀ {es : List Ent}, (∃ e ∈ es, e.1 = k) → (off k es).length < es.length := by
  intro es ⟨e, he, hk⟩
  unfold off
  refine List.length_filter_lt_length_iff_exists.mpr ⟨e, he, ?_⟩
  simp [hk]
theorem sumW_zero (w : Pl → Int) : ∀ (n : Nat) (es : List Ent), es.length ≤ n → (∀ q, numAt es q = 0) → sumW w es = 0
  | _, [], _, _ => rfl
  | 0, e :: r, h, _ => by simp at h
  | n + 1, e :: r, h, z => by
    rw [sumW_off w e.1, z e.1, Int.zero_mul, Int.zero_add]
    refine sumW_zero w n _ ?_ fun q => ?_
    · have := off_len (k := e.1) (es := e :: r) ⟨e, List.mem_cons_self, rfl⟩
      omega
    · rw [numAt_off]
      by_cases hq : q = e.1
      · rw [if_pos hq]
      · rw [if_neg hq]
        exact z q
/-- the key: sums with weights depend on the sums at the places alone -/
theorem sumW_eq (w : Pl → Int) {a b : List Ent} (h : ∀ q, numAt a q = numAt b q) : sumW w a = sumW w b := by
  have z := sumW_zero w _ (a ++ negs b) (Nat.le_refl _) fun q => by
    rw [numAt_app, numAt_negs, h q]
    omega
  rw [sumW_app, sumW_negs] at z
  omega
theorem RowIs.sum {r es : List Ent} (h : RowIs r es) (w : Pl → Int) : sumW w r = sumW w es := sumW_eq w h.s
/-- places moved by a function -/
def mapF (f : Pl → Pl) (es : List Ent) : List Ent := es.map fun e => (f e.1, e.2)
theorem sumW_mapF (w : Pl → Int) (f : Pl → Pl) : ∀ es : List Ent, sumW w (mapF f es) = sumW (fun k => w (f k)) es
  | [] => rfl
  | e :: r => by
    have ih := sumW_mapF w f r
    show e.2 * w (f e.1) + sumW w (mapF f r) = e.2 * w (f e.1) + sumW (fun k => w (f k)) r
    rw [ih]
theorem sumW_congr {w v : Pl → Int} : ∀ {es : List Ent}, (∀ e ∈ es, w e.1 = v e.1) → sumW w es = sumW v es
  | [], _ => rfl
  | e :: r, h => by
    show e.2 * w e.1 + sumW w r = e.2 * v e.1 + sumW v r
    rw [h e List.mem_cons_self, sumW_congr fun x hx => h x (List.mem_cons_of_mem _ hx)]
theorem numAt_mapF_eq (f : Pl → Pl) {a b : List Ent} (h : ∀ q, numAt a q = numAt b q) (q : Pl) : numAt (mapF f a) q = numAt (mapF f b) q := by
  rw [numAt_sumW, numAt_sumW, sumW_mapF, sumW_mapF]
  exact sumW_eq _ h
/-- the row of what is moved from a row -/
theorem RowIs.mapped {r es g : List Ent} {f : Pl → Pl} (h : RowIs r es) (hg : RowIs g (mapF f r)) : RowIs g (mapF f es) := ⟨hg.v, fun q => (hg.s q).trans (numAt_mapF_eq f h.s q)⟩
theorem RowIs.congr {r a b : List Ent} (h : RowIs r a) (e : ∀ q, numAt a q = numAt b q) : RowIs r b := ⟨h.v, fun q => (h.s q).trans (e q)⟩
theorem RowIs.app {r s a b c : List Ent} (h : RowIs r a) (k : RowIs s b) (g : RowIs c (r ++ s)) : RowIs c (a ++ b) := ⟨g.v, fun q => by
  rw [g.s, numAt_app, numAt_app, h.s, k.s]⟩
/-- products by pairs, with any sum of places -/
def prodL (op : Pl → Pl → Pl) (es fs : List Ent) : List Ent := es.flatMap fun e => fs.map fun g => (op e.1 g.1, e.2 * g.2)
theorem sumW_row (w : Pl → Int) (op : Pl → Pl → Pl) (e : Ent) : ∀ fs : List Ent, sumW w (fs.map fun g => (op e.1 g.1, e.2 * g.2)) = e.2 * sumW (fun l => w (op e.1 l)) fs
  | [] => by show (0 : Int) = e.2 * 0; rw [Int.mul_zero]
  | g :: r => by
    have ih := sumW_row w op e r
    show e.2 * g.2 * w (op e.1 g.1) + sumW w (r.map _) = e.2 * (g.2 * w (op e.1 g.1) + sumW _ r)
    rw [ih, Int.mul_add, Int.mul_assoc]
theorem sumW_prodL (w : Pl → Int) (op : Pl → Pl → Pl) : ∀ es fs : List Ent, sumW w (prodL op es fs) = sumW (fun k => sumW (fun l => w (op k l)) fs) es
  | [], fs => rfl
  | e :: r, fs => by
    have ih := sumW_prodL w op r fs
    show sumW w ((fs.map fun g => (op e.1 g.1, e.2 * g.2)) ++ prodL op r fs) = e.2 * sumW (fun l => w (op e.1 l)) fs + _
    rw [sumW_app, sumW_row, ih]
theorem numAt_prodL_eq (op : Pl → Pl → Pl) {a b c d : List Ent} (h : ∀ q, numAt a q = numAt b q) (k : ∀ q, numAt c q = numAt d q) (q : Pl) : numAt (prodL op a c) q = numAt (prodL op b d) q := by
  rw [numAt_sumW, numAt_sumW, sumW_prodL, sumW_prodL, sumW_eq _ h]
  refine sumW_congr fun e _ => sumW_eq _ k
end OT

set_option Elab.async false
set_option linter.all false
set_option maxRecDepth 100000
set_option maxHeartbeats 2000000
/-! data in the heap: kept where the heap grows; what is shaped -/
namespace OT
open PySem PySem.Spec PyProof.Rows L2
theorem same_tD {K : PySem.W.Frag} {H H' : Hp} {a : Addr} {xs : List V} (e : Same H H') (h : SqT K H a xs) : SqT K H' a xs := by
  rcases h with (h | ⟨o, h⟩) | h
  · exact .inl (.inl (e _ _ h))
  · exact .inl (.inr ⟨o, e _ _ h⟩)
  · exact .inr h
mutual
theorem Dp.mono {K : PySem.W.Frag} {H H' : Hp} (s : Same H H') : ∀ {v : V} {d : PyData}, Dp K H v d → Dp K H' v d
  | _, _, .non => .non
  | _, _, .bl b => .bl b
  | _, _, .int i => .int i
  | _, _, .str x => .str x
  | _, _, .lst h1 h2 => .lst (s.seq h1) (DpAll.mono s h2)
  | _, _, .tup h1 h2 => .tup (same_tD s h1) (DpAll.mono s h2)
theorem DpAll.mono {K : PySem.W.Frag} {H H' : Hp} (s : Same H H') : ∀ {vs : List V} {ds : List PyData}, DpAll K H vs ds → DpAll K H' vs ds
  | _, _, .nil => .nil
  | _, _, .cons h1 h2 => .cons (Dp.mono s h1) (DpAll.mono s h2)
end
theorem DpAll.len {K : PySem.W.Frag} {H : Hp} {vs : List V} {ds : List PyData} (h : DpAll K H vs ds) : vs.length = ds.length := by
  induction vs generalizing ds with
  | nil =>
    cases h
    rfl
  | cons v r ih =>
    cases h with
    | cons _ h2 => rw [List.length_cons, List.length_cons, ih h2]
theorem DpAll.snoc {K : PySem.W.Frag} {H : Hp} {v : V} {d : PyData} : ∀ {vs : List V} {ds : List PyData}, DpAll K H vs ds → Dp K H v d → DpAll K H (vs ++ [v]) (ds ++ [d])
  | [], _, h, k => by
    cases h
    exact .cons k .nil
  | _ :: r, _, h, k => by
    cases h with
    | cons h1 h2 => exact .cons h1 (DpAll.snoc h2 k)
/-- data that is shaped, of a depth -/
structure DOk (n : Nat) (d : PyData) : Prop where
  lay : d.canLay0 = true
  dep : d.depth ≤ n
theorem DOk.le {n m : Nat} {d : PyData} (h : DOk n d) (k : n ≤ m) : DOk m d := ⟨h.lay, Nat.le_trans h.dep k⟩
theorem layAll {ds : List PyData} {n : Nat} : (∀ d ∈ ds, DOk n d) → PyData.canLayAll0 ds = true ∧ PyData.depthAll ds ≤ n := by
  induction ds with
  | nil =>
    intro _
    exact ⟨by simp only [PyData.canLayAll0], by simp only [PyData.depthAll]; omega⟩
  | cons d r ih =>
    intro h
    obtain ⟨h1, h2⟩ := ih fun x hx => h x (List.mem_cons_of_mem _ hx)
    have hd := h d List.mem_cons_self
    refine ⟨?_, ?_⟩
    · simp only [PyData.canLayAll0, hd.lay, h1, Bool.and_self]
    · have := hd.dep
      simp only [PyData.depthAll]
      omega
theorem DOk.list {n : Nat} {ds : List PyData} (h : ∀ d ∈ ds, DOk n d) : DOk (n + 1) (.list ds) := by
  obtain ⟨h1, h2⟩ := layAll h
  exact ⟨h1, by simp only [PyData.depth]; omega⟩
theorem DOk.tuple {n : Nat} {ds : List PyData} (h : ∀ d ∈ ds, DOk n d) : DOk (n + 1) (.tuple ds) := by
  obtain ⟨h1, h2⟩ := layAll h
  exact ⟨h1, by simp only [PyData.depth]; omega⟩
theorem DOk.int (i : Int) : DOk 1 (.int i) := ⟨rfl, by simp only [PyData.depth]; omega⟩
theorem DOk.shaped {n : Nat} {d : PyData} (h : DOk n d) (hn : n ≤ 64) : SeqAt.shaped d = true := by
  unfold SeqAt.shaped
  rw [h.lay, Bool.true_and]
  exact decide_eq_true (Nat.le_trans h.dep hn)
theorem eqvD {d : PyData} (h : SeqAt.shaped d = true) : PyData.eqv d d = true := SeqAt.eqv_refl _ (SeqAt.canLay_of_shaped h)
theorem DOk.pl (k : Pl) : DOk 2 (.tuple (k.map PyData.int)) := DOk.tuple fun d hd => by
  obtain ⟨x, _, rfl⟩ := List.mem_map.mp hd
  exact DOk.int x
theorem DOk.ent (e : Ent) : DOk 3 (dEnt e) := DOk.tuple (n := 2) fun d hd => by
  rcases List.mem_cons.mp hd with rfl | hd
  · exact DOk.pl e.1
  · rcases List.mem_cons.mp hd with rfl | hd
    · exact (DOk.int _).le (by decide)
    · cases hd
theorem DOk.row (es : List Ent) : DOk 4 (dRow es) := DOk.list fun d hd => by
  obtain ⟨x, _, rfl⟩ := List.mem_map.mp hd
  exact DOk.ent x
/-- places as data -/
def dMat (M : List Pl) : PyData := .list (M.map fun l => .tuple (l.map PyData.int))
theorem DOk.mat (M : List Pl) : DOk 3 (dMat M) := DOk.list fun d hd => by
  obtain ⟨x, _, rfl⟩ := List.mem_map.mp hd
  exact DOk.pl x
theorem DOk.ints (ns : List Int) : DOk 2 (.list (ns.map PyData.int)) := DOk.list fun d hd => by
  obtain ⟨x, _, rfl⟩ := List.mem_map.mp hd
  exact DOk.int x
end OT

set_option Elab.async false
set_option linter.all false
set_option maxRecDepth 100000
set_option maxHeartbeats 2000000
namespace OT
open PySem PySem.Spec PyProof.Rows L2
def topS (i : Nat) : Stmt := PySem.Challenge.pw_owntables_k08_points.main.body.getD i (.Pass ⟨0, 0, 0, 0⟩)
abbrev s_TableError___init__ : Stmt := inClass (topS 1) 0
theorem sc_TableError___init__ : FnScope ["self"] ["self"] (C8.fnScope s_TableError___init__) := C8.fnScope_by (by decide +kernel)
abbrev s_IndexedError___init__ : Stmt := inClass (topS 2) 0
theorem sc_IndexedError___init__ : FnScope ["self", "index"] ["self", "index"] (C8.fnScope s_IndexedError___init__) := C8.fnScope_by (by decide +kernel)
abbrev s_row_of : Stmt := topS 12
theorem sc_row_of : FnScope ["numbers", "place"] ["numbers"] (C8.fnScope s_row_of) := C8.fnScope_by (by decide +kernel)
abbrev s_gather : Stmt := topS 13
theorem sc_gather : FnScope ["entries", "numbers", "place", "number"] ["entries"] (C8.fnScope s_gather) := C8.fnScope_by (by decide +kernel)
abbrev s_require_different : Stmt := topS 15
theorem sc_require_different : FnScope ["points", "seen", "index", "point"] ["points"] (C8.fnScope s_require_different) := C8.fnScope_by (by decide +kernel)
abbrev s_row_of_points : Stmt := topS 16
theorem sc_row_of_points : FnScope ["points", "point"] ["points"] (C8.fnScope s_row_of_points) := C8.fnScope_by (by decide +kernel)
abbrev s_distances : Stmt := topS 17
theorem sc_distances : FnScope ["points", "ordered", "low", "at", "high"] ["points"] (C8.fnScope s_distances) := C8.fnScope_by (by decide +kernel)
abbrev s_table_of_distances : Stmt := topS 18
theorem sc_table_of_distances : FnScope ["count", "differences", "upper", "lower", "difference"] ["count", "differences"] (C8.fnScope s_table_of_distances) := C8.fnScope_by (by decide +kernel)
abbrev s__law_cell : Stmt := topS 20
theorem sc__law_cell : FnScope ["_law_script", "_law_k"] ["_law_script", "_law_k"] (C8.fnScope s__law_cell) := C8.fnScope_by (by decide +kernel)
abbrev s__law_draws : Stmt := topS 21
theorem sc__law_draws : FnScope ["_law_cell_here", "_law_sizes", "_law_draws_here", "_law_rest", "_law_k", "_law_mixed"] ["_law_cell_here", "_law_sizes"] (C8.fnScope s__law_draws) := C8.fnScope_by (by decide +kernel)
abbrev s__law_is_integer : Stmt := topS 22
theorem sc__law_is_integer : FnScope ["_law_actual"] ["_law_actual"] (C8.fnScope s__law_is_integer) := C8.fnScope_by (by decide +kernel)
abbrev s__law_is_place : Stmt := topS 23
theorem sc__law_is_place : FnScope ["_law_actual", "_law_x"] ["_law_actual"] (C8.fnScope s__law_is_place) := C8.fnScope_by (by decide +kernel)
abbrev s__law_is_row : Stmt := topS 24
theorem sc__law_is_row : FnScope ["_law_actual", "_law_k", "_law_entry"] ["_law_actual"] (C8.fnScope s__law_is_row) := C8.fnScope_by (by decide +kernel)
abbrev s__law_same : Stmt := topS 25
theorem sc__law_same : FnScope ["_law_actual", "_law_expected"] ["_law_actual", "_law_expected"] (C8.fnScope s__law_same) := C8.fnScope_by (by decide +kernel)
abbrev s__law_plus : Stmt := topS 26
theorem sc__law_plus : FnScope ["_law_place", "_law_other", "_law_k"] ["_law_place", "_law_other"] (C8.fnScope s__law_plus) := C8.fnScope_by (by decide +kernel)
abbrev s__law_back : Stmt := topS 27
theorem sc__law_back : FnScope ["_law_place", "_law_x"] ["_law_place"] (C8.fnScope s__law_back) := C8.fnScope_by (by decide +kernel)
abbrev s__law_row : Stmt := topS 28
theorem sc__law_row : FnScope ["_law_pairs", "_law_sums", "_law_place", "_law_number"] ["_law_pairs"] (C8.fnScope s__law_row) := C8.fnScope_by (by decide +kernel)
abbrev s__law_times : Stmt := topS 29
theorem sc__law_times : FnScope ["_law_first", "_law_second", "_law_pairs", "_law_place", "_law_number", "_law_other", "_law_factor"] ["_law_first", "_law_second"] (C8.fnScope s__law_times) := C8.fnScope_by (by decide +kernel)
abbrev s__law_mirror : Stmt := topS 30
theorem sc__law_mirror : FnScope ["_law_row_here", "_law_entry"] ["_law_row_here"] (C8.fnScope s__law_mirror) := C8.fnScope_by (by decide +kernel)
abbrev s__law_cross : Stmt := topS 31
theorem sc__law_cross : FnScope ["_law_first", "_law_second"] ["_law_first", "_law_second"] (C8.fnScope s__law_cross) := C8.fnScope_by (by decide +kernel)
abbrev s__law_own : Stmt := topS 32
theorem sc__law_own : FnScope ["_law_row_here"] ["_law_row_here"] (C8.fnScope s__law_own) := C8.fnScope_by (by decide +kernel)
abbrev s__law_is_error : Stmt := topS 33
theorem sc__law_is_error : FnScope ["_law_e", "_law_word"] ["_law_e", "_law_word"] (C8.fnScope s__law_is_error) := C8.fnScope_by (by decide +kernel)
abbrev s__law_points : Stmt := topS 34
theorem sc__law_points : FnScope ["_law_cell_here", "_law_other", "_law_count", "_law_widest", "_law_start", "_law_gaps", "_law_spots", "_law_left", "_law_point", "_law_points_here", "_law_k", "_law_extra"] ["_law_cell_here", "_law_other", "_law_count", "_law_widest", "_law_start"] (C8.fnScope s__law_points) := C8.fnScope_by (by decide +kernel)
abbrev s__law_repeated : Stmt := topS 35
theorem sc__law_repeated : FnScope ["_law_cell_here", "_law_points_here", "_law_times_here", "_law_draws_here", "_law_found", "_law_k", "_law_at", "_law_later"] ["_law_cell_here", "_law_points_here", "_law_times_here"] (C8.fnScope s__law_repeated) := C8.fnScope_by (by decide +kernel)
abbrev s__law_first_repeated : Stmt := topS 36
theorem sc__law_first_repeated : FnScope ["_law_points_here", "_law_k"] ["_law_points_here"] (C8.fnScope s__law_first_repeated) := C8.fnScope_by (by decide +kernel)
abbrev s__law_distances : Stmt := topS 37
theorem sc__law_distances : FnScope ["_law_points_here", "_law_found", "_law_i", "_law_k"] ["_law_points_here"] (C8.fnScope s__law_distances) := C8.fnScope_by (by decide +kernel)
abbrev s__law_is_numbers : Stmt := topS 38
theorem sc__law_is_numbers : FnScope ["_law_actual", "_law_number"] ["_law_actual"] (C8.fnScope s__law_is_numbers) := C8.fnScope_by (by decide +kernel)
abbrev s__law_is_repeated : Stmt := topS 39
theorem sc__law_is_repeated : FnScope ["_law_e"] ["_law_e"] (C8.fnScope s__law_is_repeated) := C8.fnScope_by (by decide +kernel)
abbrev s__law_asked : Stmt := topS 40
theorem sc__law_asked : FnScope ["_law_which", "_law_points_here", "_law_e"] ["_law_which", "_law_points_here"] (C8.fnScope s__law_asked) := C8.fnScope_by (by decide +kernel)
abbrev s__law_good : Stmt := topS 41
theorem sc__law_good : FnScope ["_law_which", "_law_told", "_law_points_here", "_law_index", "_law_point"] ["_law_which", "_law_told", "_law_points_here"] (C8.fnScope s__law_good) := C8.fnScope_by (by decide +kernel)
abbrev s__law_both : Stmt := topS 42
theorem sc__law_both : FnScope ["_law_points_here", "_law_which", "_law_turn", "_law_passed", "_law_told"] ["_law_points_here"] (C8.fnScope s__law_both) := C8.fnScope_by (by decide +kernel)
abbrev s__law_table : Stmt := topS 43
theorem sc__law_table : FnScope ["_law_count", "_law_differences", "_law_expected", "_law_turn", "_law_passed", "_law_told"] ["_law_count", "_law_differences", "_law_expected"] (C8.fnScope s__law_table) := C8.fnScope_by (by decide +kernel)
abbrev s_law : Stmt := topS 44
theorem sc_law : FnScope ["_law_script", "_law_draws_here", "_law_count", "_law_widest", "_law_start", "_law_points_here", "_law_free", "_law_differences", "_law_pairs", "_law_d", "_law_row_here", "_law_point", "_law_k"] ["_law_script"] (C8.fnScope s_law) := C8.fnScope_by (by decide +kernel)
theorem iteD {c A B : Prop} [Decidable c] (h1 : c → A) (h2 : ¬ c → B) : if decide c = true then A else B := by
  by_cases h : c
  · rw [decide_eq_true h]
    exact iteT (h1 h)
  · rw [decide_eq_false h]
    exact iteF (h2 h)
theorem iteND {c A B : Prop} [Decidable c] (h1 : ¬ c → A) (h2 : c → B) : if (!decide c) = true then A else B := by
  by_cases h : c
  · rw [decide_eq_true h]
    exact iteF (h2 h)
  · rw [decide_eq_false h]
    exact iteT (h1 h)
theorem iteB {c : Bool} {A B : Prop} (h1 : c = true → A) (h2 : c = false → B) : if c = true then A else B := by
  cases c with
  | true => exact iteT (h1 rfl)
  | false => exact iteF (h2 rfl)
theorem atI_int {ns : List Int} {k : Int} (h0 : 0 ≤ k) (h1 : k < (ns.length : Int)) : ∃ c, atI (ns.map V.int) k = some (.int c) ∧ ns[k.toNat]? = some c := by
  obtain ⟨j, rfl⟩ := Int.eq_ofNat_of_zero_le h0
  have hj : j < ns.length := by omega
  refine ⟨ns[j], atI_nat ?_, ?_⟩
  · rw [List.getElem?_map, List.getElem?_eq_getElem hj]
    rfl
  · rw [Int.toNat_natCast, List.getElem?_eq_getElem hj]
theorem same_upd {H : Hp} {p : Addr} {o : HO} (h : H p = none) : Same H (upd H p o) := fun b x e => by
  rw [upd_ne (ne_of_none e h)]
  exact e
theorem same_mut {H H' : Hp} {p : Addr} {o : HO} (e : Same H H') (h : H p = none) : Same H (upd H' p o) := fun b x z => by
  rw [upd_ne (ne_of_none z h)]
  exact e b x z
theorem same_t {K : PySem.W.Frag} {H H' : Hp} {a : Addr} {xs : List V} (e : Same H H') (h : SqT K H a xs) : SqT K H' a xs := by
  rcases h with (h | ⟨o, h⟩) | h
  · exact .inl (.inl (e _ _ h))
  · exact .inl (.inr ⟨o, e _ _ h⟩)
  · exact .inr h
/-- the module's names that stay the built-in ones -/
structure Bi (mg : Str → Option Value) : Prop where
  n_len : mg "len" = none
  n_int : mg "int" = none
  n_str : mg "str" = none
  n_bool : mg "bool" = none
  n_list : mg "list" = none
  n_tuple : mg "tuple" = none
  n_range : mg "range" = none
  n_enumerate : mg "enumerate" = none
  n_isinstance : mg "isinstance" = none
  n_sorted : mg "sorted" = none
  n_abs : mg "abs" = none
  n_any : mg "any" = none
  n_sum : mg "sum" = none
  n_min : mg "min" = none
  n_max : mg "max" = none
  n_zip : mg "zip" = none
  n_set : mg "set" = none
theorem b_set : bootBuiltins "set" = some (.type "set") := by decide +kernel
section
variable {P : Program} {w : World} {K : PySem.W.Frag} {mg : Str → Option Value} {base : Heap}
/-! ### a cell of the script -/
def spCell (K : PySem.W.Frag) : Sp := fun vs H Q _ => ∃ (a : Addr) (ns : List Int) (k : Int), vs = [.ref a, .int k] ∧ SqL K H a (ns.map V.int) ∧ 0 ≤ k ∧ ∀ c : Int, Q (.int c) H
theorem c__law_cell {f : Addr} {fd : FuncData} (D : C8.Def K mg "_law_cell" s__law_cell f fd) (b : Binds K fd ["_law_script", "_law_k"] []) (T : Bi mg) : C8.Cal P w K mg base 1 "_law_cell" (spCell K) [] := by
  refine C8.cal0 D b .nil sc__law_cell (fun vs H Q E h => ?_) (fun cdv A outer s H vs Q E hr h => ?_)
  · obtain ⟨a, ns, k, rfl, _⟩ := h
    rfl
  · obtain ⟨a, ns, k, rfl, hS, hk, q⟩ := h
    refine ⟨_, (pss_cons (ps_if (pt_cmpR op_lt (pv 1) (pe_callB call_len_seq (by rfl) T.n_len OT.b_len (pa_cons (pv 0) pa_nil)) (nomark _)) (pss_one (ps_ret (pe_ix ix_list (pv 0) (pv 1) (fun _ _ => rfl)))) pss_nil)
  (pss_cons (ps_if (pt_cmpR op_eq (pe_callB call_len_seq (by rfl) T.n_len OT.b_len (pa_cons (pv 0) pa_nil)) pe_int (nomark _)) (pss_one (ps_ret (pe_op op_add (pe_op op_mul pe_int (pv 1)) pe_int))) pss_nil)
  (pss_one (ps_ret (pe_op op_mod (pe_callTy call_int1 (by rfl) T.n_int OT.b_int (pa_cons (pe_op op_add (pe_op op_add (pe_op op_mul (pe_ix ix_list (pv 0) (pe_op op_mod (pe_callTy call_int1 (by rfl) T.n_int OT.b_int (pa_cons (pv 1) pa_nil)) (pe_callB call_len_seq (by rfl) T.n_len OT.b_len (pa_cons (pv 0) pa_nil))) (fun _ _ => rfl)) pe_int) (pe_op op_mul pe_int (pv 1))) pe_int) pa_nil)) pe_int))))), ?_⟩
    refine ⟨_, rfl, _, rfl, a, _, rfl, .inl hS, _, _, rfl, rfl, _, rfl, ?_⟩
    refine iteD (fun h1 => ?_) (fun h1 => ?_)
    · rw [List.length_map] at h1
      obtain ⟨c, hc, _⟩ := atI_int hk h1
      exact ⟨_, rfl, _, rfl, a, _, _, _, rfl, rfl, hS, hc, q c⟩
    · refine ⟨_, rfl, a, _, rfl, .inl hS, rfl, _, rfl, ?_⟩
      refine iteD (fun h2 => ?_) (fun h2 => ?_)
      · exact ⟨_, rfl, _, _, rfl, rfl, .inl ⟨by decide, by decide⟩, _, _, rfl, rfl, q _⟩
      · have hp : 0 < ns.length := by
          have h3 : ¬ (V.int ((ns.map V.int).length : Int) = V.int 0) := h2
          rw [List.length_map] at h3
          cases ns with
          | nil => exact absurd rfl h3
          | cons x r => exact Nat.succ_pos _
        have hm : 0 ≤ k % (ns.length : Int) := Int.emod_nonneg _ (by omega)
        have hm2 : k % (ns.length : Int) < ns.length := Int.emod_lt_of_pos _ (by omega)
        obtain ⟨c, hc, _⟩ := atI_int hm hm2
        refine ⟨_, rfl, _, rfl, .inl ⟨k, rfl, _, rfl, a, _, rfl, .inl hS, k, _, rfl, rfl, ?_, a, _, _, _, rfl, rfl, hS, ?_, c, _, rfl, rfl, .inr ⟨by decide, by decide⟩, _, rfl, _, _, rfl, rfl, .inl ⟨by decide, by decide⟩, _, _, rfl, rfl, _, _, rfl, rfl, .inl ⟨_, rfl, _, _, rfl, rfl, by show (0 : Int) < 2147483647; decide, q _⟩⟩⟩
        · rw [List.length_map]
          show (0 : Int) < (ns.length : Int)
          omega
        · rw [List.length_map]
          exact hc
/-! ### draws -/
theorem cmul_m1 (x y : Int) : CMul (x % 2147483647) y := by
  refine .inl ?_
  have h1 := Int.emod_nonneg x (show (2147483647 : Int) ≠ 0 by decide)
  have h2 := Int.emod_lt_of_pos x (show (0 : Int) < 2147483647 by decide)
  have h3 : (2 : Int) ^ 64 = 18446744073709551616 := by decide
  omega
theorem cmul_m2 (x y : Int) : CMul (x % 2147483629) y := by
  refine .inl ?_
  have h1 := Int.emod_nonneg x (show (2147483629 : Int) ≠ 0 by decide)
  have h2 := Int.emod_lt_of_pos x (show (0 : Int) < 2147483629 by decide)
  have h3 : (2 : Int) ^ 64 = 18446744073709551616 := by decide
  omega

theorem small64 {z : Int} (h1 : 0 < z) (h2 : z < 1000000000000000) : z.natAbs < 2 ^ 64 := by
  have : (2 : Nat) ^ 64 = 18446744073709551616 := by decide
  omega
def InR (ds zs : List Int) : Prop := ds.length = zs.length ∧ ∀ (i : Nat) (d z : Int), ds[i]? = some d → zs[i]? = some z → 0 ≤ d ∧ d < z
def spDraws (K : PySem.W.Frag) : Sp := fun vs H Q _ => ∃ (a : Addr) (zs : List Int) (c : Int), vs = [.int c, .ref a] ∧ SqL K H a (zs.map V.int) ∧ zs.length ≤ 1000 ∧ (∀ z ∈ zs, 0 < z ∧ z < 1000000000000000) ∧
  ∀ (ds : List Int) H' p, InR ds zs → Same H H' → H p = none → H' p = some (.lst (ds.map V.int)) → Q (.ref p) H'
theorem c__law_draws {f : Addr} {fd : FuncData} (D : C8.Def K mg "_law_draws" s__law_draws f fd) (b : Binds K fd ["_law_cell_here", "_law_sizes"] []) (T : Bi mg) : C8.Cal P w K mg base 1 "_law_draws" (spDraws K) [] := by
  refine C8.cal0 D b .nil sc__law_draws (fun vs H Q E h => ?_) (fun cdv A outer s H vs Q E hr h => ?_)
  · obtain ⟨a, zs, c, rfl, _⟩ := h
    rfl
  · obtain ⟨a, zs, c, rfl, hS, hl, hz, q⟩ := h
    refine ⟨_, (pss_cons (ps_set (i := 2) sc__law_draws.nd rfl (Or.inl rfl) (pe_lst pa_nil))
  (pss_cons (ps_set (i := 3) sc__law_draws.nd rfl (Or.inl rfl) (pe_op op_sub (pv 0) (pe_op op_pow pe_int pe_int)))
  (pss_cons (ps_for PassesOwn.never rfl (pi_range1 rfl T.n_range (pa_cons (pe_callB call_len_seq (by rfl) T.n_len OT.b_len (pa_cons (pv 1) pa_nil)) pa_nil)) (pg_name (i := 4) sc__law_draws.nd rfl (Or.inl rfl)) (pss_one (ps_if (pt_cmpR op_ge (pv 0) (pe_op op_pow pe_int pe_int) (nomark _)) (pss_cons (ps_expr (pe_bm PySem.F.plainAttrs_list PySem.F.slot_list_append PySem.F.type_list_append mt_append (pv 2) (pa_cons (pe_op op_mod (pe_callTy call_int1 (by rfl) T.n_int OT.b_int (pa_cons (pv 3) pa_nil)) (pe_ix ix_list (pv 1) (pv 4) (fun _ _ => rfl))) pa_nil)))
  (pss_one (ps_set (i := 3) sc__law_draws.nd rfl (Or.inl rfl) (pe_op op_fdivW (pv 3) (pe_ix ix_list (pv 1) (pv 4) (fun _ _ => rfl)))))) (pss_cons (ps_set (i := 5) sc__law_draws.nd rfl (Or.inl rfl) (pe_op op_mod (pe_callTy call_int1 (by rfl) T.n_int OT.b_int (pa_cons (pe_op op_add (pe_op op_add (pv 0) (pe_op op_mul pe_int (pv 4))) pe_int) pa_nil)) pe_int))
  (pss_cons (ps_set (i := 5) sc__law_draws.nd rfl (Or.inl rfl) (pe_op op_mod (pe_callTy call_int1 (by rfl) T.n_int OT.b_int (pa_cons (pe_op op_mul (pv 5) (pe_op op_add (pv 5) pe_int)) pa_nil)) pe_int))
  (pss_cons (ps_set (i := 5) sc__law_draws.nd rfl (Or.inl rfl) (pe_op op_mod (pe_callTy call_int1 (by rfl) T.n_int OT.b_int (pa_cons (pe_op op_add (pe_op op_mul (pv 5) (pe_op op_add (pv 5) pe_int)) (pe_op op_mul pe_int (pv 4))) pa_nil)) pe_int))
  (pss_one (ps_expr (pe_bm PySem.F.plainAttrs_list PySem.F.slot_list_append PySem.F.type_list_append mt_append (pv 2) (pa_cons (pe_op op_mod (pe_callTy call_int1 (by rfl) T.n_int OT.b_int (pa_cons (pe_op op_fdiv (pv 5) pe_int) pa_nil)) (pe_ix ix_list (pv 1) (pv 4) (fun _ _ => rfl))) pa_nil))))))))))
  (pss_one (ps_ret (pv 2)))))), ?_⟩
    refine ⟨Nat.zero_le _, fun p np => ?_⟩
    have s1 : Same H (upd H p (.lst [])) := same_upd np
    refine ⟨_, rfl, 10, 18, rfl, rfl, ?cp, _, _, rfl, rfl, ?_⟩
    case cp => exact ⟨by decide, by decide⟩
    refine ⟨_, rfl, a, _, rfl, .inl (s1.seq hS), _, rfl, ?_, ?_, ?_⟩
    · rw [List.length_map]
      omega
    · rw [List.length_map]
      have : (2 : Int) ^ 62 = 4611686018427387904 := by decide
      omega
    rw [List.length_map, Int.toNat_natCast]
    refine for_range (fun i σ H2 => ∃ (ds : List Int) (r : Int) (y4 y5 : Option V), σ = [some (.int c), some (.ref a), some (.ref p), some (.int r), y4, y5] ∧ Same H H2 ∧ H2 p = some (.lst (ds.map V.int)) ∧ InR ds (zs.take i)) ?_ ?_ ?_
    · exact ⟨[], _, none, none, rfl, s1, upd_same, rfl, fun i d z h => by simp at h⟩
    · rintro i σ H2 hi ⟨ds, r, y4, y5, rfl, sm, hp, hr2⟩
      have hzi : zs[i]? = some zs[i] := List.getElem?_eq_getElem hi
      obtain ⟨z1, z2⟩ := hz zs[i] (List.getElem_mem hi)
      have hix : atI (zs.map V.int) ((0 : Int) + (i : Int)) = some (.int zs[i]) := by
        rw [Int.zero_add]
        exact atI_nat (by rw [List.getElem?_map, hzi]; rfl)
      have hS2 := sm.seq hS
      have hlen : ds.length = i := by
        rw [hr2.1, List.length_take]
        omega
      have hlt : (ds.map V.int).length < sizeLine := by
        rw [List.length_map]
        exact small1000 (by omega)
      have more : ∀ x : Int, InR (ds ++ [x % zs[i]]) (zs.take (i + 1)) := fun x => by
        refine ⟨?_, fun j d z h1 h2 => ?_⟩
        · rw [List.length_append, List.length_take, hlen]
          simp
          omega
        · by_cases hj : j < i
          · rw [List.getElem?_append_left (by omega)] at h1
            rw [List.getElem?_take_of_lt (by omega)] at h2
            exact hr2.2 j d z h1 (by rw [List.getElem?_take_of_lt hj]; exact h2)
          · by_cases ej : j = i
            · subst ej
              rw [List.getElem?_append_right (by omega), hlen, Nat.sub_self] at h1
              rw [List.getElem?_take_of_lt (by omega), hzi] at h2
              have e1 : x % zs[j] = d := Option.some.inj h1
              have e2 : zs[j] = z := Option.some.inj h2
              rw [← e1, ← e2]
              exact ⟨Int.emod_nonneg _ (by omega), Int.emod_lt_of_pos _ z1⟩
            · rw [List.getElem?_eq_none (by rw [List.length_take]; omega)] at h2
              cases h2
      have fin : ∀ (x r' : Int) (y4 y5 : Option V), ∃ (ds2 : List Int) (r2 : Int) (z4 z5 : Option V), [some (.int c), some (.ref a), some (.ref p), some (.int r'), y4, y5] = [some (.int c), some (.ref a), some (.ref p), some (.int r2), z4, z5] ∧
          Same H (upd H2 p (.lst (ds.map V.int ++ [V.int (x % zs[i])]))) ∧ (upd H2 p (.lst (ds.map V.int ++ [V.int (x % zs[i])]))) p = some (.lst (ds2.map V.int)) ∧ InR ds2 (zs.take (i + 1)) := fun x r' y4 y5 => by
        refine ⟨ds ++ [x % zs[i]], r', y4, y5, rfl, same_mut sm np, ?_, more x⟩
        rw [upd_same, List.map_append]
        rfl
      refine ⟨_, rfl, 10, 18, rfl, rfl, ⟨by decide, by decide⟩, _, _, rfl, rfl, _, rfl, ?_⟩
      refine iteD (fun _ => ?_) (fun _ => ?_)
      · refine ⟨_, rfl, .inl ⟨rfl, _, .inl (.inl hp)⟩, _, rfl, .inl ⟨r, rfl, _, rfl, _, rfl, a, _, _, _, rfl, rfl, hS2, hix, _, _, rfl, rfl, z1, p, _, _, rfl, rfl, hp, hlt, ?_⟩⟩
        have sm3 : Same H (upd H2 p (.lst (ds.map V.int ++ [V.int (r % zs[i])]))) := same_mut sm np
        refine ⟨_, rfl, _, rfl, _, rfl, a, _, _, _, rfl, rfl, sm3.seq hS, hix, _, _, rfl, rfl, wide_div z1 (b := 64) (small64 z1 z2) (by decide) (by decide), ?_⟩
        exact fin _ _ _ _
      · refine ⟨_, rfl, _, rfl, _, _, rfl, rfl, .inl ⟨by decide, by decide⟩, _, _, rfl, rfl, _, _, rfl, rfl, .inl ⟨_, rfl, _, _, rfl, rfl, by show (0 : Int) < 2147483647; decide, ?_⟩⟩
        refine ⟨_, rfl, _, rfl, _, _, rfl, rfl, _, _, rfl, rfl, cmul_m1 _ _, .inl ⟨_, rfl, _, _, rfl, rfl, by show (0 : Int) < 2147483629; decide, ?_⟩⟩
        refine ⟨_, rfl, _, rfl, _, _, rfl, rfl, _, _, rfl, rfl, cmul_m2 _ _, _, rfl, _, _, rfl, rfl, .inl ⟨by decide, by decide⟩, _, _, rfl, rfl, .inl ⟨_, rfl, _, _, rfl, rfl, by show (0 : Int) < 2147483647; decide, ?_⟩⟩
        refine ⟨_, rfl, .inl ⟨rfl, _, .inl (.inl hp)⟩, _, rfl, _, _, rfl, rfl, ⟨by decide, by decide⟩, .inl ⟨_, rfl, _, rfl, _, rfl, a, _, _, _, rfl, rfl, hS2, hix, _, _, rfl, rfl, z1, p, _, _, rfl, rfl, hp, hlt, ?_⟩⟩
        exact fin _ _ _ _
    · rintro σ H2 ⟨ds, r, y4, y5, rfl, sm, hp, hr2⟩
      rw [List.take_length] at hr2
      exact ⟨_, rfl, q ds H2 p hr2 sm np hp⟩
end
end OT

set_option Elab.async false
set_option linter.all false
set_option maxRecDepth 100000
set_option maxHeartbeats 2000000
namespace OT
open PySem PySem.Spec PyProof.Rows L2
theorem take_map_succ {α β : Type} {l : List α} {i : Nat} (f : α → β) (h : i < l.length) : (l.take (i + 1)).map f = (l.take i).map f ++ [f l[i]] := by
  rw [List.take_add_one, List.getElem?_eq_getElem h, List.map_append]
  rfl
theorem getm {α β : Type} {l : List α} {i : Nat} {f : α → β} {x : β} (h : (l.map f)[i]? = some x) : ∃ hi : i < l.length, x = f l[i] := by
  rw [List.getElem?_map] at h
  cases e : l[i]? with
  | none =>
    rw [e] at h
    cases h
  | some z =>
    rw [e] at h
    obtain ⟨hi, hz⟩ := List.getElem?_eq_some_iff.mp e
    exact ⟨hi, by rw [hz]; exact (Option.some.inj h).symm⟩
theorem tYes_of {A B : Hp → Prop} {σ : L2.St} {H : Hp} (h : A H) : tYes σ H (fun b H3 => if b = true then A H3 else B H3) := by
  show (if true = true then A H else B H)
  rw [if_pos rfl]
  exact h
theorem drop_cons {α : Type} {l : List α} {i : Nat} (h : i < l.length) : l.drop i = l[i] :: l.drop (i + 1) := List.drop_eq_getElem_cons h
theorem kb_ii : kitB "int" "int" = some true := by decide +kernel
theorem kb_ib : kitB "int" "bool" = some false := by decide +kernel
theorem kb_tt : kitB "tuple" "tuple" = some true := by decide +kernel
theorem kb_ss : kitB "str" "str" = some true := by decide +kernel
theorem kb_ll : kitB "list" "list" = some true := by decide +kernel
theorem depth_ints : ∀ ns : List Int, PyData.depthAll (ns.map PyData.int) = 0
  | [] => by simp only [List.map_nil, PyData.depthAll]
  | n :: r => by simp only [List.map_cons, PyData.depthAll, PyData.depth, depth_ints r, Nat.max_self]
theorem depth_row : ∀ es : List Ent, PyData.depthAll (es.map dEnt) ≤ 3
  | [] => by simp only [List.map_nil, PyData.depthAll]; decide
  | e :: r => by
    have ih := depth_row r
    simp only [List.map_cons, PyData.depthAll, dEnt, dPl, PyData.depth, depth_ints] at ih ⊢
    omega
theorem shaped_row (es : List Ent) : SeqAt.shaped (dRow es) = true := by
  unfold SeqAt.shaped
  have h1 : (dRow es).canLay0 = true := lay_row es
  rw [h1, Bool.true_and]
  refine decide_eq_true ?_
  have := depth_row es
  simp only [dRow, PyData.depth]
  omega
section
variable {P : Program} {w : World} {K : PySem.W.Frag} {mg : Str → Option Value} {base : Heap}
def spIsInt : Sp := fun vs H Q _ => ∃ i : Int, vs = [.int i] ∧ Q (.bl true) H
theorem c__law_is_integer {f : Addr} {fd : FuncData} (D : C8.Def K mg "_law_is_integer" s__law_is_integer f fd) (b : Binds K fd ["_law_actual"] []) (T : Bi mg) : C8.Cal P w K mg base 1 "_law_is_integer" spIsInt [] := by
  refine C8.cal0 D b .nil sc__law_is_integer (fun vs H Q E h => ?_) (fun cdv A outer s H vs Q E hr h => ?_)
  · obtain ⟨i, rfl, _⟩ := h
    rfl
  · obtain ⟨i, rfl, q⟩ := h
    refine ⟨_, (pss_one (ps_ret (pe_and (pe_callB call_isi (by rfl) T.n_isinstance OT.b_isinstance (pa_cons (pv 0) (pa_cons (pe_bltn (v := .ty "int") (by rfl) T.n_int OT.b_int rfl) pa_nil))) (pe_one (pe_not (pe_callB call_isi (by rfl) T.n_isinstance OT.b_isinstance (pa_cons (pv 0) (pa_cons (pe_bltn (v := .ty "bool") (by rfl) T.n_bool OT.b_bool rfl) pa_nil)))))))), ?_⟩
    refine ⟨_, rfl, _, _, _, _, _, rfl, .ty _, .base (.int i), kit_ty kb_ii, _, rfl, ?_⟩
    refine iteT ?_
    exact ⟨_, rfl, _, _, _, _, _, rfl, .ty _, .base (.int i), kit_ty kb_ib, _, rfl, q⟩
def spIsPlace (K : PySem.W.Frag) : Sp := fun vs H Q _ => ∃ (a : Addr) (ns : List Int), vs = [.ref a] ∧ H a = some (.tup (ns.map V.int)) ∧ 1 ≤ ns.length ∧ ns.length ≤ 3 ∧ Q (.bl true) H
theorem c__law_is_place {f : Addr} {fd : FuncData} (D : C8.Def K mg "_law_is_place" s__law_is_place f fd) (b : Binds K fd ["_law_actual"] []) (T : Bi mg) (c__law_is_integer : C8.Cal P w K mg base 1 "_law_is_integer" spIsInt []) : C8.Cal P w K mg base 2 "_law_is_place" (spIsPlace K) [] := by
  refine C8.cal0 D b .nil sc__law_is_place (fun vs H Q E h => ?_) (fun cdv A outer s H vs Q E hr h => ?_)
  · obtain ⟨a, ns, rfl, _⟩ := h
    rfl
  · obtain ⟨a, ns, rfl, hS, h1, h3, q⟩ := h
    have hT : SqT K H a (ns.map V.int) := .inl (.inl hS)
    refine ⟨_, (pss_cons (ps_if (PW.pt (pw_or (pt_not (pt_val (pe_callB call_isi (by rfl) T.n_isinstance OT.b_isinstance (pa_cons (pv 0) (pa_cons (pe_bltn (v := .ty "tuple") (by rfl) T.n_tuple OT.b_tuple rfl) pa_nil))))) (pw_or (pt_cmpR op_lt (pe_callB call_len_seq (by rfl) T.n_len OT.b_len (pa_cons (pv 0) pa_nil)) pe_int (nomark _)) (pw_or1 (pt_cmpR op_gt (pe_callB call_len_seq (by rfl) T.n_len OT.b_len (pa_cons (pv 0) pa_nil)) pe_int (nomark _)))))) (pss_one (ps_ret pe_bl)) pss_nil)
  (pss_cons (ps_for PassesOwn.never rfl (pi_tup (pv 0)) (pg_name (i := 1) sc__law_is_place.nd rfl (Or.inl rfl)) (pss_one (ps_if (pt_not (pt_val (C8.pe_c c__law_is_integer hr (by decide) (by rfl) (pa_cons (pv 1) pa_nil)))) (pss_one (ps_ret pe_bl)) pss_nil)))
  (pss_one (ps_ret pe_bl)))), ?_⟩
    refine ⟨_, rfl, _, _, _, _, _, rfl, .ty _, .base (.tup hS), kit_ty kb_tt, _, rfl, ?_⟩
    refine iteF ?_
    refine ⟨_, rfl, a, _, rfl, .inr hT, _, _, rfl, rfl, _, rfl, iteD (fun z => ?_) (fun _ => ?_)⟩
    · rw [List.length_map] at z
      omega
    refine ⟨_, rfl, a, _, rfl, .inr hT, _, _, rfl, rfl, _, rfl, iteD (fun z => ?_) (fun _ => ?_)⟩
    · rw [List.length_map] at z
      omega
    refine ⟨_, rfl, a, rfl, ⟨_, hT⟩, ?_⟩
    refine for_tup (K := K) (xs := ns.map V.int) (fun i σ H2 => ∃ y, σ = [some (.ref a), y] ∧ H2 = H) ⟨none, rfl, rfl⟩ (fun i σ H2 _ ⟨_, _, e⟩ => by rw [e]; exact hT) ?_ ?_
    · rintro i x σ H2 hx ⟨y, rfl, rfl⟩
      obtain ⟨hi, rfl⟩ := getm hx
      exact ⟨_, rfl, _, rfl, _, rfl, iteF ⟨_, rfl, rfl⟩⟩
    · rintro σ H2 ⟨y, rfl, rfl⟩
      exact q
end
end OT

set_option Elab.async false
set_option linter.all false
set_option maxRecDepth 100000
set_option maxHeartbeats 2000000
namespace OT
open PySem PySem.Spec PyProof.Rows L2
theorem kV_ints (k : Pl) : (k.map (Sum.inl : Int → Key)).map kV = k.map V.int := by
  rw [List.map_map]
  rfl
theorem dgetT {H : Hp} {d b : Addr} {kvs : List (List Key × V)} {k : Pl} {o : Option V} (e : H d = some (.dT kvs)) (eb : H b = some (.tup (k.map V.int))) (h : valV kvs (k.map Sum.inl) = o) : DGet H d (.ref b) o := by
  rw [← h]
  exact DGet.t e (by rw [kV_ints]; exact eb)
theorem ne_lst {H : Hp} {a D : Addr} {xs l : List V} (h : H a = some (.tup xs)) (hD : H D = some (.lst l)) : a ≠ D := fun e => by
  rw [e, hD] at h
  cases h
theorem EntAt.updL {H : Hp} {D : Addr} {l l' : List V} {v : V} {e : Ent} (hD : H D = some (.lst l)) (h : EntAt H v e) : EntAt (upd H D (.lst l')) v e := by
  obtain ⟨t, p, rfl, h1, h2⟩ := h
  exact ⟨t, p, rfl, by rw [upd_ne (ne_lst h1 hD)]; exact h1, by rw [upd_ne (ne_lst h2 hD)]; exact h2⟩
theorem Ents.updL {H : Hp} {D : Addr} {l l' : List V} {vs : List V} {es : List Ent} (hD : H D = some (.lst l)) (h : Ents H vs es) : Ents (upd H D (.lst l')) vs es := by
  induction h with
  | nil => exact .nil
  | cons h1 _ ih => exact .cons (h1.updL hD) ih
theorem mkR_len (f : Pl → Int) : ∀ ks : List Pl, (mkR f ks).length ≤ ks.length
  | [] => Nat.le_refl _
  | k :: r => by
    have ih := mkR_len f r
    show (if f k = 0 then mkR f r else (k, f k) :: mkR f r).length ≤ r.length + 1
    by_cases h : f k = 0
    · rw [if_pos h]
      omega
    · rw [if_neg h, List.length_cons]
      omega
theorem none_of_upd {H : Hp} {p D : Addr} {o : HO} (h : upd H p o D = none) : H D = none ∧ p ≠ D := by
  have ne : p ≠ D := ne_of_none upd_same h
  exact ⟨by rw [upd_ne ne.symm] at h; exact h, ne⟩
section
variable {P : Program} {w : World} {K : PySem.W.Frag} {mg : Str → Option Value} {base : Heap}
def wantRow (H : Hp) (es : List Ent) (Q : VK) : Prop := ∀ (r : List Ent) (p : Addr) (ws : List V) (H' : Hp), RowIs r es → Same H H' → H p = none → H' p = some (.lst ws) → Ents H' ws r → Q (.ref p) H'
def spRowOf (K : PySem.W.Frag) : Sp := fun vs H Q _ => ∃ (d : Addr) (kvs : List (List Key × V)) (ks : List Pl) (es : List Ent), vs = [.ref d] ∧ H d = some (.dT kvs) ∧ Sums kvs ks (numAt es) ∧ (∀ k ∈ ks, k ≠ []) ∧ ks.length < sizeLine ∧ wantRow H es Q
end
end OT

set_option Elab.async false
set_option linter.all false
set_option maxRecDepth 100000
set_option maxHeartbeats 2000000
namespace OT
open PySem PySem.Spec PyProof.Rows L2
section
variable {P : Program} {w : World} {K : PySem.W.Frag} {mg : Str → Option Value} {base : Heap}
theorem put_keys_ne {ks : List Pl} {e : Pl} (h : ∀ k ∈ ks, k ≠ []) (he : e ≠ []) : ∀ k ∈ (if e ∈ ks then ks else ks ++ [e]), k ≠ [] := by
  by_cases m : e ∈ ks
  · rw [if_pos m]
    exact h
  · rw [if_neg m]
    intro k hk
    rcases List.mem_append.mp hk with hk | hk
    · exact h k hk
    · rw [List.mem_singleton.mp hk]
      exact he
theorem put_keys_len {ks : List Pl} {e : Pl} {i : Nat} (h : ks.length ≤ i) : (if e ∈ ks then ks else ks ++ [e]).length ≤ i + 1 := by
  by_cases m : e ∈ ks
  · rw [if_pos m]
    omega
  · rw [if_neg m, List.length_append, List.length_singleton]
    omega
theorem Ents.updD {H : Hp} {D : Addr} {l l' : List (List Key × V)} {vs : List V} {es : List Ent} (hD : H D = some (.dT l)) (h : Ents H vs es) : Ents (upd H D (.dT l')) vs es := by
  have ne : ∀ {a : Addr} {xs : List V}, H a = some (.tup xs) → a ≠ D := fun {a xs} h e => by
    rw [e, hD] at h
    cases h
  induction h with
  | nil => exact .nil
  | cons h1 _ ih =>
    obtain ⟨t, p, rfl, h1, h2⟩ := h1
    exact .cons ⟨t, p, rfl, by rw [upd_ne (ne h1)]; exact h1, by rw [upd_ne (ne h2)]; exact h2⟩ ih
theorem seq_upd {H : Hp} {D a : Addr} {o : HO} {xs : List V} (h : SqL K H a xs) (ne : a ≠ D) : SqL K (upd H D o) a xs := by
  rcases h with (h | ⟨o', h⟩) | h
  · exact .inl (.inl (by rw [upd_ne ne]; exact h))
  · exact .inl (.inr ⟨o', by rw [upd_ne ne]; exact h⟩)
  · exact .inr h
/-- what a list of entries asks -/
structure InEnts (K : PySem.W.Frag) (H : Hp) (a : Addr) (vs : List V) (es : List Ent) : Prop where
  l : SqL K H a vs
  e : Ents H vs es
  z : es.length < sizeLine
theorem InEnts.mono {H H' : Hp} {a : Addr} {vs : List V} {es : List Ent} (s : Same H H') (h : InEnts K H a vs es) : InEnts K H' a vs es := ⟨s.seq h.l, h.e.mono s, h.z⟩
def spGather (K : PySem.W.Frag) : Sp := fun vs H Q _ => ∃ (a : Addr) (xs : List V) (es : List Ent), vs = [.ref a] ∧ InEnts K H a xs es ∧ (∀ e ∈ es, e.1 ≠ []) ∧ wantRow H es Q
theorem c__law_row {f : Addr} {fd : FuncData} (D : C8.Def K mg "_law_row" s__law_row f fd) (b : Binds K fd ["_law_pairs"] []) (T : Bi mg) : C8.Cal P w K mg base 1 "_law_row" (spGather K) [] := by
  refine C8.cal0 D b .nil sc__law_row (fun vs H Q E h => ?_) (fun cdv A outer s H vs Q E hr h => ?_)
  · obtain ⟨a, xs, es, rfl, _⟩ := h
    rfl
  · obtain ⟨a, xs, es, rfl, hE, hne, q⟩ := h
    refine ⟨_, (pss_cons (ps_set (i := 1) sc__law_row.nd rfl (Or.inr rfl) pe_dnewT)
  (pss_cons (ps_for PassesOwn.never rfl (pi_list (pv 0)) (pg_tup rfl (pgs_cons (pg_name (i := 2) sc__law_row.nd rfl (Or.inl rfl)) (pgs_cons (pg_name (i := 3) sc__law_row.nd rfl (Or.inl rfl)) pgs_nil))) (pss_one (ps_dput (hu_of hr) (pv 1) (pv 2) (pe_op op_add (pe_dget2 (hu_of hr) (pv 1) (pv 2) pe_int ⟨rfl, rfl, rfl, rfl⟩) (pv 3)) rfl)))
  (pss_one (ps_ret (pe_lc (own := [("_law_place", 2)]) (g := (gName 2)) rfl sc__law_row.nd (pi_list (pe_callB (cr_sortedDT rfl) (by rfl) T.n_sorted OT.b_sorted (pa_cons (pv 1) pa_nil))) (blkOk_by (N := ["_law_pairs", "_law_sums", "_law_place", "_law_number"]) (sc := C8.fnScope s__law_row) (by decide +kernel)) (fun _ _ _ _ _ => (pg_name (i := 2) sc__law_row.nd rfl (Or.inl rfl))) (fun _ _ _ _ _ => (pts_one (pt_cmpR op_ne (pe_dget (hu_of hr) (pv 1) (pv 2) (fun _ _ => rfl)) pe_int (nomark _)))) (fun _ _ _ _ _ => (pe_tup (pa_cons (pv 2) (pa_cons (pe_dget (hu_of hr) (pv 1) (pv 2) (fun _ _ => rfl)) pa_nil))))))))), ?_⟩
    refine fun d nd => ?_
    have s1 : Same H (upd H d (.dT [])) := same_upd nd
    refine ⟨_, rfl, a, rfl, ⟨xs, s1.seq hE.l⟩, ?_⟩
    refine for_list (K := K) (xs := xs) (fun i σ H2 => ∃ (kvs : List (List Key × V)) (ks : List Pl) (y2 y3 : Option V), σ = [some (.ref a), some (.ref d), y2, y3] ∧ Same H H2 ∧ H2 d = some (.dT kvs) ∧ Sums kvs ks (numAt (es.take i)) ∧ (∀ k ∈ ks, k ≠ []) ∧ ks.length ≤ i) ?_ ?_ ?_ ?_
    · exact ⟨[], [], none, none, rfl, s1, upd_same, Sums.nil, fun k hk => (by cases hk), Nat.le_refl _⟩
    · rintro i σ H2 _ ⟨_, _, _, _, _, sm, _⟩
      exact sm.seq hE.l
    · rintro i x σ H2 hx ⟨kvs, ks, y2, y3, rfl, sm, hd, hs, hk, hl⟩
      obtain ⟨e, he, hv⟩ := (hE.e.mono sm).get hx
      obtain ⟨t, p, rfl, ht, hp⟩ := hv
      have hi := (List.getElem?_eq_some_iff.mp he).1
      have hm : e ∈ es := List.mem_of_getElem? he
      have hz := hE.z
      refine ⟨t, _, rfl, .inl (.inl ht), rfl, _, _, rfl, _, _, rfl, rfl, ?_⟩
      refine ⟨_, rfl, d, rfl, .inr ⟨kvs, .inl hd⟩, _, rfl, _, dgetT hd hp rfl, _, rfl, numAt (es.take i) e.1, e.2, hs.getD _, rfl, _, rfl, _, rfl, d, _, rfl, DPut.t hd (k := e.1.map Sum.inl) (by rw [kV_ints]; exact hp) ?_, ?_⟩
      · rw [hs.len]
        omega
      · exact ⟨_, _, _, _, rfl, same_mut sm nd, upd_same, hs.next he, put_keys_ne hk (hne e hm), put_keys_len hl⟩
    · rintro σ H2 ⟨kvs, ks, y2, y3, rfl, sm, hd, hs, hk, hl⟩
      have hz := hE.z
      have hlen := hE.e.len
      rw [hlen, List.take_length] at hs
      have hkz : ks.length < sizeLine := by omega
      refine ⟨_, rfl, d, kvs, ks, rfl, .inl hd, hs.keys, fun _ => hk, fun out p perm pw nod held np => ?_⟩
      refine ⟨p, rfl, ⟨_, .inl (.inl upd_same)⟩, fun D nD => ?_⟩
      have hpD : p ≠ D := ne_of_none upd_same nD
      obtain ⟨hDn, _⟩ := none_of_upd nD
      have hkd : ∀ x ∈ out, x.2 ∈ ks := fun x hx => perm.mem_iff.mp (List.mem_map_of_mem hx)
      refine lc_list (K := K) (a := p) (xs := out.map fun x => V.ref x.1) (fun i H3 => Same H2 H3 ∧ H3 p = some (.lst (out.map fun x => V.ref x.1)) ∧ ∃ ws, H3 D = some (.lst ws) ∧ Ents H3 ws (mkR (numAt es) ((out.take i).map (·.2)))) ?_ ?_ ?_ ?_
      · refine ⟨(same_upd np).trans (same_upd nD), ?_, [], upd_same, .nil⟩
        rw [upd_ne hpD, upd_same]
      · rintro i H3 _ ⟨_, hp, _⟩
        exact .inl (.inl hp)
      · rintro i x H3 hx ⟨sm3, hp, ws, hD, hE3⟩
        obtain ⟨hi, rfl⟩ := getm hx
        have hm := List.getElem_mem hi
        have hk3 := sm3 _ _ (held _ hm)
        have hv := hs.get (hkd _ hm)
        have hd2 := sm3 _ _ hd
        refine ⟨rfl, _, rfl, _, rfl, d, _, rfl, dgetT hd2 hk3 hv, ?_⟩
        refine ⟨rfl, _, rfl, ?_⟩
        have htk : (out.take (i + 1)).map (·.2) = (out.take i).map (·.2) ++ [out[i].2] := take_map_succ (·.2) hi
        rw [htk, mkR_snoc]
        refine iteND (fun hn => ?_) (fun h0 => ?_)
        · have hn0 : numAt es out[i].2 ≠ 0 := fun z => hn (by rw [z])
          rw [if_neg hn0]
          refine ⟨_, rfl, _, rfl, _, rfl, d, _, rfl, dgetT hd2 hk3 hv, (by show 2 ≤ sizeLine; decide), fun t nt => ?_⟩
          have ntD : D ≠ t := ne_of_none hD nt
          have smt : Same H3 (upd H3 t (.tup [.ref out[i].1, .int (numAt es out[i].2)])) := same_upd nt
          have hD3 := smt _ _ hD
          refine ⟨ws, hD3, ?_, same_mut (sm3.trans smt) hDn, ?_, ws ++ [.ref t], upd_same, ?_⟩
          · have h1 := hE3.len
            have h2 := mkR_len (numAt es) ((out.take i).map (·.2))
            have h3 := perm.length_eq
            rw [List.length_map] at h2 h3
            rw [List.length_take] at h2
            omega
          · rw [upd_ne hpD]
            exact smt _ _ hp
          · refine ((hE3.mono smt).updL hD3).app (.cons (EntAt.updL hD3 ⟨t, _, rfl, upd_same, ?_⟩) .nil)
            exact smt _ _ hk3
        · have h0' : numAt es out[i].2 = 0 := V.int.inj h0
          rw [if_pos h0', List.append_nil]
          exact ⟨sm3, hp, ws, hD, hE3⟩
      · rintro H3 ⟨sm3, hp, ws, hD, hE3⟩
        rw [List.length_map, List.take_length] at hE3
        refine q _ D ws H3 (row_sorted perm pw nod hs.out) (sm.trans sm3) ?_ hD hE3
        cases z : H D with
        | none => rfl
        | some o =>
          rw [sm _ _ z] at hDn
          cases hDn
end
end OT

set_option Elab.async false
set_option linter.all false
set_option maxRecDepth 100000
set_option maxHeartbeats 2000000
namespace OT
open PySem PySem.Spec PyProof.Rows L2
section
variable {P : Program} {w : World} {K : PySem.W.Frag} {mg : Str → Option Value} {base : Heap}
/-- a row of places of n coordinates -/
structure RowN (n : Nat) (r : List Ent) : Prop where
  v : Valid r
  n1 : 1 ≤ n
  n3 : n ≤ 3
  at_ : ∀ e ∈ r, e.1.length = n
theorem asc_get {r : List Ent} (h : Valid r) {i j : Nat} (hi : i < r.length) (hj : j < r.length) (hij : i < j) : HT.lexLt r[i].1 r[j].1 = true := List.pairwise_iff_getElem.mp h.asc i j hi hj hij
def spIsRow (K : PySem.W.Frag) : Sp := fun vs H Q _ => ∃ (a : Addr) (ws : List V) (r : List Ent) (n : Nat), vs = [.ref a] ∧ H a = some (.lst ws) ∧ Ents H ws r ∧ RowN n r ∧ r.length ≤ 100000 ∧ Q (.bl true) H
theorem c__law_is_row {f : Addr} {fd : FuncData} (D : C8.Def K mg "_law_is_row" s__law_is_row f fd) (b : Binds K fd ["_law_actual"] []) (T : Bi mg) (c__law_is_place : C8.Cal P w K mg base 2 "_law_is_place" (spIsPlace K) []) (c__law_is_integer : C8.Cal P w K mg base 1 "_law_is_integer" spIsInt []) :
    C8.Cal P w K mg base 3 "_law_is_row" (spIsRow K) [] := by
  refine C8.cal0 D b .nil sc__law_is_row (fun vs H Q E h => ?_) (fun cdv A outer s H vs Q E hr h => ?_)
  · obtain ⟨a, ws, r, n, rfl, _⟩ := h
    rfl
  · obtain ⟨a, ws, r, n, rfl, ha, hE, hN, hz, q⟩ := h
    have hS : SqL K H a ws := .inl (.inl ha)
    refine ⟨_, (pss_cons (ps_if (pt_not (pt_val (pe_callB call_isi (by rfl) T.n_isinstance OT.b_isinstance (pa_cons (pv 0) (pa_cons (pe_bltn (v := .ty "list") (by rfl) T.n_list OT.b_list rfl) pa_nil))))) (pss_one (ps_ret pe_bl)) pss_nil)
  (pss_cons (ps_for PassesOwn.never rfl (pi_range1 rfl T.n_range (pa_cons (pe_callB call_len_seq (by rfl) T.n_len OT.b_len (pa_cons (pv 0) pa_nil)) pa_nil)) (pg_name (i := 1) sc__law_is_row.nd rfl (Or.inl rfl)) (pss_cons (ps_set (i := 2) sc__law_is_row.nd rfl (Or.inl rfl) (pe_ix ix_list (pv 0) (pv 1) (fun _ _ => rfl)))
  (pss_cons (ps_if (PW.pt (pw_or (pt_not (pt_val (pe_callB call_isi (by rfl) T.n_isinstance OT.b_isinstance (pa_cons (pv 2) (pa_cons (pe_bltn (v := .ty "tuple") (by rfl) T.n_tuple OT.b_tuple rfl) pa_nil))))) (pw_or1 (pt_cmpR op_ne (pe_callB call_len_seq (by rfl) T.n_len OT.b_len (pa_cons (pv 2) pa_nil)) pe_int (nomark _))))) (pss_one (ps_ret pe_bl)) pss_nil)
  (pss_cons (ps_if (PW.pt (pw_or (pt_not (pt_val (C8.pe_c c__law_is_place hr (by decide) (by rfl) (pa_cons (pe_ix ix_tup (pv 2) pe_int (fun _ _ => rfl)) pa_nil)))) (pw_or (pt_not (pt_val (C8.pe_c c__law_is_integer hr (by decide) (by rfl) (pa_cons (pe_ix ix_tup (pv 2) pe_int (fun _ _ => rfl)) pa_nil)))) (pw_or1 (pt_cmpR op_eq (pe_ix ix_tup (pv 2) pe_int (fun _ _ => rfl)) pe_int (nomark _)))))) (pss_one (ps_ret pe_bl)) pss_nil)
  (pss_cons (ps_if (pt_cmpR op_ne (pe_callB call_len_seq (by rfl) T.n_len OT.b_len (pa_cons (pe_ix ix_tup (pv 2) pe_int (fun _ _ => rfl)) pa_nil)) (pe_callB call_len_seq (by rfl) T.n_len OT.b_len (pa_cons (pe_ix ix_tup (pe_ix ix_list (pv 0) pe_int (fun _ _ => rfl)) pe_int (fun _ _ => rfl)) pa_nil)) (nomark _)) (pss_one (ps_ret pe_bl)) pss_nil)
  (pss_one (ps_if (PW.pt (pw_and (pt_cmpR op_gt (pv 1) pe_int (nomark _)) (pw_and1 (pt_not (pt_cmpR (op_ltT hr.units0) (pe_ix ix_tup (pe_ix ix_list (pv 0) (pe_op op_sub (pv 1) pe_int) (fun _ _ => rfl)) pe_int (fun _ _ => rfl)) (pe_ix ix_tup (pv 2) pe_int (fun _ _ => rfl)) (nomark _)))))) (pss_one (ps_ret pe_bl)) pss_nil)))))))
  (pss_one (ps_ret pe_bl)))), ?_⟩
    refine ⟨_, rfl, _, _, _, _, _, rfl, .ty _, .base (.lst ha), kit_ty kb_ll, _, rfl, ?_⟩
    refine iteF ?_
    refine ⟨_, rfl, a, _, rfl, .inl hS, _, rfl, ?_, ?_, ?_⟩
    · omega
    · have h2 := hE.len
      have : (2 : Int) ^ 62 = 4611686018427387904 := by decide
      omega
    rw [Int.toNat_natCast, hE.len]
    refine for_range (fun i σ H2 => ∃ y1 y2, σ = [some (.ref a), y1, y2] ∧ H2 = H) ⟨none, none, rfl, rfl⟩ ?_ ?_
    · rintro i σ H2 hi ⟨y1, y2, rfl, rfl⟩
      obtain ⟨v, hv, t, p, rfl, ht, hp⟩ := hE.at hi
      obtain ⟨v0, hv0, t0, p0, rfl, ht0, hp0⟩ := hE.at (i := 0) (by omega)
      have hm := List.getElem_mem hi
      have hm0 := List.getElem_mem (show 0 < r.length by omega)
      have hT : SqT K H2 t [.ref p, .int r[i].2] := .inl (.inl ht)
      have hT0 : SqT K H2 t0 [.ref p0, .int (r[0]'(by omega)).2] := .inl (.inl ht0)
      have hP : SqT K H2 p (r[i].1.map V.int) := .inl (.inl hp)
      have hP0 : SqT K H2 p0 ((r[0]'(by omega)).1.map V.int) := .inl (.inl hp0)
      refine ⟨_, rfl, _, rfl, a, _, _, .ref t, rfl, rfl, hS, by rw [Int.zero_add]; exact atI_nat hv, ?_⟩
      refine ⟨_, rfl, _, _, _, _, _, rfl, .ty _, .base (.tup ht), kit_ty kb_tt, _, rfl, ?_⟩
      refine iteF ?_
      refine ⟨_, rfl, t, _, rfl, .inr hT, rfl, _, rfl, ?_⟩
      refine iteF ?_
      refine ⟨_, rfl, t, _, 0, _, rfl, rfl, hT, atI_nat (j := 0) rfl, p, _, rfl, hp, by rw [hN.at_ _ hm]; exact hN.n1, by rw [hN.at_ _ hm]; exact hN.n3, _, rfl, ?_⟩
      refine iteF ?_
      refine ⟨_, rfl, t, _, 1, _, rfl, rfl, hT, atI_nat (j := 1) rfl, _, rfl, _, rfl, ?_⟩
      refine iteF ?_
      refine ⟨_, rfl, t, _, 1, _, rfl, rfl, hT, atI_nat (j := 1) rfl, rfl, _, rfl, iteD (fun z => absurd (V.int.inj z) (hN.v.nz _ hm)) (fun _ => ?_)⟩
      refine ⟨_, rfl, t, _, 0, _, rfl, rfl, hT, atI_nat (j := 0) rfl, p, _, rfl, .inr hP, _, rfl, a, _, 0, _, rfl, rfl, hS, atI_nat (j := 0) hv0, t0, _, 0, _, rfl, rfl, hT0, atI_nat (j := 0) rfl, p0, _, rfl, .inr hP0, rfl, _, rfl, iteND (fun z => ?_) (fun _ => ?_)⟩
      · rw [List.length_map, List.length_map, hN.at_ _ hm, hN.at_ _ hm0] at z
        exact absurd rfl z
      refine ⟨_, rfl, _, _, rfl, rfl, _, rfl, iteD (fun hk => ?_) (fun _ => ?_)⟩
      · have hi1 : i - 1 < r.length := by omega
        obtain ⟨v1, hv1, t1, p1, rfl, ht1, hp1⟩ := hE.at (i := i - 1) hi1
        have hT1 : SqT K H2 t1 [.ref p1, .int (r[i - 1]'hi1).2] := .inl (.inl ht1)
        refine ⟨_, rfl, _, rfl, _, _, rfl, rfl, a, _, _, _, rfl, rfl, hS, ?_, t1, _, 0, _, rfl, rfl, hT1, atI_nat (j := 0) rfl, _, rfl, t, _, 0, _, rfl, rfl, hT, atI_nat (j := 0) rfl, p1, p, _, _, rfl, rfl, .inl (.inl hp1), hP, _, rfl, ?_⟩
        · rw [show (0 : Int) + (i : Int) - 1 = ((i - 1 : Nat) : Int) by omega]
          exact atI_nat hv1
        · rw [asc_get hN.v hi1 hi (by omega)]
          refine iteF ?_
          exact ⟨_, _, rfl, rfl⟩
      · exact ⟨_, _, rfl, rfl⟩
    · rintro σ H2 ⟨y1, y2, rfl, rfl⟩
      exact q
def spSame (K : PySem.W.Frag) : Sp := fun vs H Q _ => ∃ (a c : Addr) (ws us : List V) (r : List Ent) (n : Nat), vs = [.ref a, .ref c] ∧ H a = some (.lst ws) ∧ Ents H ws r ∧ H c = some (.lst us) ∧ Ents H us r ∧ RowN n r ∧ r.length ≤ 100000 ∧ Q (.bl true) H
theorem c__law_same {f : Addr} {fd : FuncData} (D : C8.Def K mg "_law_same" s__law_same f fd) (b : Binds K fd ["_law_actual", "_law_expected"] []) (T : Bi mg) (c__law_is_row : C8.Cal P w K mg base 3 "_law_is_row" (spIsRow K) []) :
    C8.Cal P w K mg base 4 "_law_same" (spSame K) [] := by
  refine C8.cal0 D b .nil sc__law_same (fun vs H Q E h => ?_) (fun cdv A outer s H vs Q E hr h => ?_)
  · obtain ⟨a, c, ws, us, r, n, rfl, _⟩ := h
    rfl
  · obtain ⟨a, c, ws, us, r, n, rfl, ha, hE, hc, hF, hN, hz, q⟩ := h
    refine ⟨_, (pss_one (ps_ret (pe_and (C8.pe_c c__law_is_row hr (by decide) (by rfl) (pa_cons (pv 0) pa_nil)) (pe_one (pe_cmpR (op_eqD hr.units) (pv 0) (pv 1) (nomark _)))))), ?_⟩
    refine ⟨_, rfl, a, ws, r, n, rfl, ha, hE, hN, hz, _, rfl, ?_⟩
    refine iteT ?_
    refine ⟨_, rfl, _, rfl, dRow r, dRow r, hE.dp (.inl (.inl ha)), hF.dp (.inl (.inl hc)), shaped_row r, shaped_row r, ?_⟩
    rw [SeqAt.eqv_refl _ (SeqAt.canLay_of_shaped (shaped_row r))]
    exact q
end
end OT

set_option Elab.async false
set_option linter.all false
set_option maxRecDepth 100000
set_option maxHeartbeats 2000000
namespace OT
open PySem PySem.Spec PyProof.Rows L2
/-! ### places -/
def plusP (k l : Pl) : Pl := List.zipWith (· + ·) k l
theorem plusP_len {k l : Pl} (h : k.length ≤ l.length) : (plusP k l).length = k.length := by
  unfold plusP
  rw [List.length_zipWith, Nat.min_eq_left h]
theorem plusP_get {k l : Pl} {i : Nat} (h : i < (plusP k l).length) (h1 : i < k.length) (h2 : i < l.length) : (plusP k l)[i] = k[i] + l[i] := by
  unfold plusP
  exact List.getElem_zipWith ..
theorem plusP_mem {k l : Pl} {x : Int} (h : x ∈ plusP k l) : ∃ a ∈ k, ∃ b ∈ l, x = a + b := by
  obtain ⟨i, hi, rfl⟩ := List.getElem_of_mem h
  have hk : i < k.length := by
    unfold plusP at hi
    rw [List.length_zipWith] at hi
    omega
  have hl : i < l.length := by
    unfold plusP at hi
    rw [List.length_zipWith] at hi
    omega
  exact ⟨_, List.getElem_mem hk, _, List.getElem_mem hl, plusP_get hi hk hl⟩
theorem plusP_lt : ∀ {a b l : Pl}, a.length ≤ l.length → b.length ≤ l.length → HT.lexLt (plusP a l) (plusP b l) = HT.lexLt a b
  | [], [], _, _, _ => rfl
  | [], _ :: _, _ :: _, _, _ => rfl
  | _ :: _, [], _ :: _, _, _ => rfl
  | x :: a, y :: b, z :: l, h1, h2 => by
    show (if x + z = y + z then HT.lexLt (plusP a l) (plusP b l) else decide (x + z < y + z)) = if x = y then HT.lexLt a b else decide (x < y)
    rw [plusP_lt (Nat.le_of_succ_le_succ h1) (Nat.le_of_succ_le_succ h2)]
    by_cases e : x = y
    · rw [if_pos e, if_pos (by rw [e])]
    · rw [if_neg e, if_neg (by omega)]
      by_cases h : x < y
      · rw [decide_eq_true h, decide_eq_true (by omega)]
      · rw [decide_eq_false h, decide_eq_false (by omega)]
def movL (es : List Ent) (l : Pl) : List Ent := es.map fun e => (plusP e.1 l, e.2)
theorem movL_valid {es : List Ent} {l : Pl} (h : Valid es) (hl : ∀ e ∈ es, e.1.length ≤ l.length) : Valid (movL es l) := by
  refine ⟨?_, fun e he => ?_⟩
  · unfold movL
    rw [List.pairwise_map]
    refine List.Pairwise.imp_of_mem (fun {x y} hx hy q => ?_) h.asc
    rw [plusP_lt (hl x hx) (hl y hy)]
    exact q
  · obtain ⟨x, hx, rfl⟩ := List.mem_map.mp he
    exact h.nz x hx
theorem numAt_bound {es : List Ent} {m : Nat} (h : ∀ e ∈ es, e.2.natAbs ≤ m) (q : Pl) : (numAt es q).natAbs ≤ es.length * m := by
  induction es with
  | nil => exact Nat.zero_le _
  | cons e r ih =>
    have h1 := h e List.mem_cons_self
    have h2 := ih fun x hx => h x (List.mem_cons_of_mem _ hx)
    show ((if e.1 = q then e.2 else 0) + numAt r q).natAbs ≤ (r.length + 1) * m
    rw [Nat.succ_mul]
    by_cases c : e.1 = q
    · rw [if_pos c]
      omega
    · rw [if_neg c]
      omega
theorem RowIs.bound {r es : List Ent} {m : Nat} (h : RowIs r es) (hb : ∀ e ∈ es, e.2.natAbs ≤ m) : ∀ e ∈ r, e.2.natAbs ≤ es.length * m := fun e he => by
  have h1 := h.v.at e he
  rw [h.s] at h1
  rw [← h1]
  exact numAt_bound hb _
/-- tuples of ints, in turn -/
inductive Pls (H : Hp) : List V → List Pl → Prop
  | nil : Pls H [] []
  | cons {p : Addr} {k : Pl} {vs : List V} {ks : List Pl} : H p = some (.tup (k.map V.int)) → Pls H vs ks → Pls H (.ref p :: vs) (k :: ks)
theorem Pls.len {H : Hp} {vs : List V} {ks : List Pl} (h : Pls H vs ks) : vs.length = ks.length := by
  induction h with
  | nil => rfl
  | cons _ _ ih => rw [List.length_cons, List.length_cons, ih]
theorem Pls.mono {H H' : Hp} {vs : List V} {ks : List Pl} (s : ∀ b o, H b = some o → H' b = some o) (h : Pls H vs ks) : Pls H' vs ks := by
  induction h with
  | nil => exact .nil
  | cons h1 _ ih => exact .cons (s _ _ h1) ih
theorem Pls.app {H : Hp} {vs ws : List V} {ks ls : List Pl} (h : Pls H vs ks) (g : Pls H ws ls) : Pls H (vs ++ ws) (ks ++ ls) := by
  induction h with
  | nil => exact g
  | cons h1 _ ih => exact .cons h1 ih
theorem Pls.updL {H : Hp} {D : Addr} {l l' : List V} {vs : List V} {ks : List Pl} (hD : H D = some (.lst l)) (h : Pls H vs ks) : Pls (upd H D (.lst l')) vs ks := by
  induction h with
  | nil => exact .nil
  | cons h1 _ ih => exact .cons (by rw [upd_ne (ne_lst h1 hD)]; exact h1) ih
theorem Pls.get {H : Hp} {vs : List V} {ks : List Pl} (h : Pls H vs ks) : ∀ {i : Nat} {v : V}, vs[i]? = some v → ∃ p k, v = .ref p ∧ ks[i]? = some k ∧ H p = some (.tup (k.map V.int)) := by
  induction h with
  | nil => intro i v h; simp at h
  | cons h1 _ ih =>
    intro i v hv
    cases i with
    | zero =>
      cases hv
      exact ⟨_, _, rfl, rfl, h1⟩
    | succ i => exact ih (i := i) hv
section
variable {P : Program} {w : World} {K : PySem.W.Frag} {mg : Str → Option Value} {base : Heap}
theorem small100k {n : Nat} (h : n ≤ 100000) : n < sizeLine := Nat.lt_of_le_of_lt h (by decide)
theorem b62 {n : Nat} (h : n ≤ 100000) : (n : Int) < 2 ^ 62 := by
  have : (2 : Int) ^ 62 = 4611686018427387904 := by decide
  omega
def spPlus (K : PySem.W.Frag) : Sp := fun vs H Q _ => ∃ (a b : Addr) (k l : Pl), vs = [.ref a, .ref b] ∧ SqT K H a (k.map V.int) ∧ SqT K H b (l.map V.int) ∧ k.length ≤ l.length ∧ k.length ≤ 1000 ∧ ∀ p H', Same H H' → H' p = some (.tup ((plusP k l).map V.int)) → Q (.ref p) H'
theorem c__law_plus {f : Addr} {fd : FuncData} (D : C8.Def K mg "_law_plus" s__law_plus f fd) (b : Binds K fd ["_law_place", "_law_other"] []) (T : Bi mg) : C8.Cal P w K mg base 1 "_law_plus" (spPlus K) [] := by
  refine C8.cal0 D b .nil sc__law_plus (fun vs H Q E h => ?_) (fun cdv A outer s H vs Q E hr h => ?_)
  · obtain ⟨a, b, k, l, rfl, _⟩ := h
    rfl
  · obtain ⟨a, b, k, l, rfl, hk, hl, hkl, hz, q⟩ := h
    refine ⟨_, (pss_one (ps_ret (pe_callTy call_tuple_of (by rfl) T.n_tuple OT.b_tuple (pa_cons (pe_lc (own := [("_law_k", 2)]) (g := (gName 2)) (tt := tYes) rfl sc__law_plus.nd (pi_range1 rfl T.n_range (pa_cons (pe_callB call_len_seq (by rfl) T.n_len OT.b_len (pa_cons (pv 0) pa_nil)) pa_nil)) (blkOk_by (N := ["_law_place", "_law_other", "_law_k"]) (sc := C8.fnScope s__law_plus) (by decide +kernel)) (fun _ _ _ _ _ => (pg_name (i := 2) sc__law_plus.nd rfl (Or.inl rfl))) (fun _ _ _ _ _ => pts_nil) (fun _ _ _ _ _ => (pe_op op_add (pe_ix (show IxR _ (rIxT K) from ix_tup) (pv 0) (pv 2) (fun _ _ => rfl)) (pe_ix (show IxR _ (rIxT K) from ix_tup) (pv 1) (pv 2) (fun _ _ => rfl))))) pa_nil)))), ?_⟩
    have hpl := plusP_len hkl
    refine ⟨_, rfl, a, _, rfl, .inr hk, _, rfl, by omega, b62 (by rw [List.length_map]; omega), fun p np => ?_⟩
    rw [List.length_map, Int.toNat_natCast]
    refine lc_range (lo := 0) (n := k.length) (fun i H2 => Same H H2 ∧ H2 p = some (.lst (((plusP k l).take i).map V.int))) ⟨same_upd np, upd_same⟩ ?_ ?_
    · rintro i H2 hi ⟨sm, hp⟩
      have hil : i < l.length := by omega
      have hip : i < (plusP k l).length := by omega
      have gk : atI (k.map V.int) ((0 : Int) + (i : Int)) = some (.int k[i]) := by
        rw [Int.zero_add]
        exact atI_nat (by rw [List.getElem?_map, List.getElem?_eq_getElem hi]; rfl)
      have gl : atI (l.map V.int) ((0 : Int) + (i : Int)) = some (.int l[i]) := by
        rw [Int.zero_add]
        exact atI_nat (by rw [List.getElem?_map, List.getElem?_eq_getElem hil]; rfl)
      refine ⟨rfl, tYes_of ?_⟩
      refine ⟨_, rfl, _, rfl, a, _, _, _, rfl, rfl, same_t sm hk, gk, _, rfl, _, rfl, b, _, _, _, rfl, rfl, same_t sm hl, gl, _, _, rfl, rfl, _, hp, ?_, same_mut sm np, ?_⟩
      · rw [List.length_map, List.length_take]
        exact small1000 (by omega)
      · rw [upd_same, take_map_succ V.int hip, plusP_get hip hi hil]
    · rintro H2 ⟨sm, hp⟩
      rw [← hpl, List.take_length] at hp
      exact ⟨p, _, rfl, .inl ⟨.inl (.inl hp), fun t nt => q t _ (sm.trans (same_upd nt)) upd_same⟩⟩
end
end OT

set_option Elab.async false
set_option linter.all false
set_option maxRecDepth 100000
set_option maxHeartbeats 2000000
namespace OT
open PySem PySem.Spec PyProof.Rows L2
def negP (k : Pl) : Pl := k.map fun x => -x
theorem negP_len (k : Pl) : (negP k).length = k.length := List.length_map _
def scaleL (es : List Ent) (f : Int) : List Ent := es.map fun e => (e.1, e.2 * f)
def mirL (es : List Ent) : List Ent := es.map fun e => (negP e.1, e.2)
section
variable {P : Program} {w : World} {K : PySem.W.Frag} {mg : Str → Option Value} {base : Heap}
def spBack (K : PySem.W.Frag) : Sp := fun vs H Q _ => ∃ (a : Addr) (ns : Pl), vs = [.ref a] ∧ SqT K H a (ns.map V.int) ∧ ns.length ≤ 1000 ∧ ∀ p H', Same H H' → H' p = some (.tup ((negP ns).map V.int)) → Q (.ref p) H'
theorem c__law_back {f : Addr} {fd : FuncData} (D : C8.Def K mg "_law_back" s__law_back f fd) (b : Binds K fd ["_law_place"] []) (T : Bi mg) : C8.Cal P w K mg base 1 "_law_back" (spBack K) [] := by
  refine C8.cal0 D b .nil sc__law_back (fun vs H Q E h => ?_) (fun cdv A outer s H vs Q E hr h => ?_)
  · obtain ⟨a, ns, rfl, _⟩ := h
    rfl
  · obtain ⟨a, ns, rfl, hS, hl, q⟩ := h
    refine ⟨_, (pss_one (ps_ret (pe_callTy call_tuple_of (by rfl) T.n_tuple OT.b_tuple (pa_cons (pe_lc (own := [("_law_x", 1)]) (g := (gName 1)) (tt := tYes) rfl sc__law_back.nd (pi_tup (pv 0)) (blkOk_by (N := ["_law_place", "_law_x"]) (sc := C8.fnScope s__law_back) (by decide +kernel)) (fun _ _ _ _ _ => (pg_name (i := 1) sc__law_back.nd rfl (Or.inl rfl))) (fun _ _ _ _ _ => pts_nil) (fun _ _ _ _ _ => (pe_un un_neg (pv 1)))) pa_nil)))), ?_⟩
    refine ⟨_, rfl, a, rfl, ⟨_, hS⟩, fun p np => ?_⟩
    refine lc_tup (K := K) (xs := ns.map V.int) (fun i H2 => Same H H2 ∧ H2 p = some (.lst ((ns.take i).map fun n => V.int (-n)))) ?_ ?_ ?_ ?_
    · exact ⟨same_upd np, upd_same⟩
    · rintro i H2 _ ⟨sm, _⟩
      exact same_t sm hS
    · rintro i x H2 hx ⟨sm, hp⟩
      obtain ⟨hi, rfl⟩ := getm hx
      refine ⟨rfl, tYes_of ?_⟩
      refine ⟨_, rfl, _, rfl, _, hp, ?_, same_mut sm np, ?_⟩
      · rw [List.length_map, List.length_take]
        exact small1000 (by omega)
      · rw [upd_same, take_map_succ (fun n => V.int (-n)) hi]
    · rintro H2 ⟨sm, hp⟩
      rw [List.length_map, List.take_length] at hp
      refine ⟨p, _, rfl, .inl ⟨.inl (.inl hp), fun l nl => ?_⟩⟩
      refine q l _ (sm.trans (same_upd nl)) ?_
      rw [upd_same]
      unfold negP
      rw [List.map_map]
      rfl
/-- a list of entries of places that are not empty -/
structure Lst (H : Hp) (a : Addr) (xs : List V) (es : List Ent) : Prop where
  l : H a = some (.lst xs)
  e : Ents H xs es
  z : es.length ≤ 1000
  p : ∀ e ∈ es, e.1 ≠ []
theorem Lst.mono {H H' : Hp} {a : Addr} {xs : List V} {es : List Ent} (s : Same H H') (h : Lst H a xs es) : Lst H' a xs es := ⟨s _ _ h.l, h.e.mono s, h.z, h.p⟩
theorem wantRow.mono {H H2 : Hp} {es : List Ent} {Q : VK} (sm : Same H H2) (q : wantRow H es Q) : wantRow H2 es Q := by
  intro r p ws H3 hr sm3 np hp he
  refine q r p ws H3 hr (sm.trans sm3) ?_ hp he
  cases z : H p with
  | none => rfl
  | some o =>
    rw [sm _ _ z] at np
    cases np
theorem take_snoc {es : List Ent} {i : Nat} {e : Ent} (h : es[i]? = some e) : es.take (i + 1) = es.take i ++ [e] := by
  rw [List.take_add_one, h]
  rfl
def spMir : Sp := fun vs H Q _ => ∃ (a : Addr) (xs : List V) (es : List Ent), vs = [.ref a] ∧ Lst H a xs es ∧ (∀ e ∈ es, e.1.length ≤ 1000) ∧ wantRow H (mirL es) Q
theorem c__law_mirror {f : Addr} {fd : FuncData} (D : C8.Def K mg "_law_mirror" s__law_mirror f fd) (b : Binds K fd ["_law_row_here"] []) (T : Bi mg) (c__law_row : C8.Cal P w K mg base 1 "_law_row" (spGather K) []) (c__law_back : C8.Cal P w K mg base 1 "_law_back" (spBack K) []) : C8.Cal P w K mg base 2 "_law_mirror" spMir [] := by
  refine C8.cal0 D b .nil sc__law_mirror (fun vs H Q E h => ?_) (fun cdv A outer s H vs Q E hr h => ?_)
  · obtain ⟨a, xs, es, rfl, _⟩ := h
    rfl
  · obtain ⟨a, xs, es, rfl, hA, hle, q⟩ := h
    refine ⟨_, (pss_one (ps_ret (C8.pe_c c__law_row hr (by decide) (by rfl) (pa_cons (pe_lc (own := [("_law_entry", 1)]) (g := (gName 1)) (tt := tYes) rfl sc__law_mirror.nd (pi_list (pv 0)) (blkOk_by (N := ["_law_row_here", "_law_entry"]) (sc := C8.fnScope s__law_mirror) (by decide +kernel)) (fun _ _ _ _ _ => (pg_name (i := 1) sc__law_mirror.nd rfl (Or.inl rfl))) (fun _ _ _ _ _ => pts_nil) (fun _ _ _ _ _ => (pe_tup (pa_cons (C8.pe_c c__law_back hr (by decide) (by rfl) (pa_cons (pe_ix (show IxR _ (rIxT K) from ix_tup) (pv 1) pe_int (fun _ _ => rfl)) pa_nil)) (pa_cons (pe_ix (show IxR _ (rIxT K) from ix_tup) (pv 1) pe_int (fun _ _ => rfl)) pa_nil))))) pa_nil)))), ?_⟩
    have hS : SqL K H a xs := .inl (.inl hA.l)
    have hx := hA.e.len
    have hz := hA.z
    refine ⟨_, rfl, a, rfl, ⟨_, hS⟩, fun p np => ?_⟩
    refine lc_list (K := K) (xs := xs) (fun i H2 => Same H H2 ∧ ∃ ws, H2 p = some (.lst ws) ∧ Ents H2 ws (mirL (es.take i))) ?_ ?_ ?_ ?_
    · exact ⟨same_upd np, [], upd_same, .nil⟩
    · rintro i H2 _ ⟨sm, _⟩
      exact sm.seq hS
    · rintro i x H2 hxi ⟨sm, ws, hp, hW⟩
      obtain ⟨e, he, t, pe, rfl, ht, hpe⟩ := (hA.e.mono sm).get hxi
      obtain ⟨hi, hee⟩ := List.getElem?_eq_some_iff.mp he
      have hm := List.mem_of_getElem? he
      have hT : SqT K H2 t [.ref pe, .int e.2] := .inl (.inl ht)
      refine ⟨rfl, tYes_of ?_⟩
      refine ⟨_, rfl, t, _, 0, _, rfl, rfl, hT, atI_nat (j := 0) rfl, pe, e.1, rfl, .inl (.inl hpe), hle e hm, fun p3 H3 sm3 hp3 => ?_⟩
      refine ⟨_, rfl, t, _, 1, _, rfl, rfl, same_t sm3 hT, atI_nat (j := 1) rfl, (by show 2 ≤ sizeLine; decide), fun t4 nt4 => ?_⟩
      have sm4 : Same H3 (upd H3 t4 (.tup [.ref p3, .int e.2])) := same_upd nt4
      have smA := sm3.trans sm4
      have hv : EntAt (upd H3 t4 (.tup [.ref p3, .int e.2])) (.ref t4) (negP e.1, e.2) := ⟨t4, p3, rfl, upd_same, sm4 _ _ hp3⟩
      have hD := smA _ _ hp
      have hwl := hW.len
      refine ⟨ws, hD, ?_, same_mut (sm.trans smA) np, ws ++ [.ref t4], upd_same, ?_⟩
      · unfold mirL at hwl
        rw [List.length_map, List.length_take] at hwl
        exact small100k (by omega)
      · unfold mirL
        rw [take_snoc he, List.map_append]
        exact ((hW.mono smA).app (.cons hv .nil)).updL hD
    · rintro H2 ⟨sm, ws, hp, hW⟩
      rw [hx, List.take_length] at hW
      refine ⟨p, ws, mirL es, rfl, ⟨.inl (.inl hp), hW, by unfold mirL; rw [List.length_map]; exact small100k (by omega)⟩, fun e he z => ?_, q.mono sm⟩
      obtain ⟨y, hy, rfl⟩ := List.mem_map.mp he
      have z2 : (negP y.1).length = 0 := by
        have z3 : negP y.1 = [] := z
        rw [z3]
        rfl
      rw [negP_len] at z2
      exact hA.p y hy (List.length_eq_zero_iff.mp z2)
end
end OT

set_option Elab.async false
set_option linter.all false
set_option maxRecDepth 100000
set_option maxHeartbeats 2000000
namespace OT
open PySem PySem.Spec PyProof.Rows L2
section
variable {P : Program} {w : World} {K : PySem.W.Frag} {mg : Str → Option Value} {base : Heap}
theorem c_row_of {f : Addr} {fd : FuncData} (D : C8.Def K mg "row_of" s_row_of f fd) (b : Binds K fd ["numbers"] []) (T : Bi mg) : C8.Cal P w K mg base 1 "row_of" (spRowOf K) [] := by
  refine C8.cal0 D b .nil sc_row_of (fun vs H Q E h => ?_) (fun cdv A outer s H vs Q E hr h => ?_)
  · obtain ⟨d, kvs, ks, es, rfl, _⟩ := h
    rfl
  · obtain ⟨d, kvs, ks, es, rfl, hd, hs, hne, hz, q⟩ := h
    refine ⟨_, (pss_one (ps_ret (pe_lc (own := [("place", 1)]) (g := (gName 1)) rfl sc_row_of.nd (pi_list (pe_callB (cr_sortedDT rfl) (by rfl) T.n_sorted OT.b_sorted (pa_cons (pv 0) pa_nil))) (blkOk_by (N := ["numbers", "place"]) (sc := C8.fnScope s_row_of) (by decide +kernel)) (fun _ _ _ _ _ => (pg_name (i := 1) sc_row_of.nd rfl (Or.inl rfl))) (fun _ _ _ _ _ => (pts_one (pt_cmpR op_ne (pe_dget (hu_of hr) (pv 0) (pv 1) (fun _ _ => rfl)) pe_int (nomark _)))) (fun _ _ _ _ _ => (pe_tup (pa_cons (pv 1) (pa_cons (pe_dget (hu_of hr) (pv 0) (pv 1) (fun _ _ => rfl)) pa_nil))))))), ?_⟩
    refine ⟨_, rfl, d, kvs, ks, rfl, .inl hd, hs.keys, fun _ => hne, fun out p perm pw nod held np => ?_⟩
    refine ⟨p, rfl, ⟨_, .inl (.inl upd_same)⟩, fun D nD => ?_⟩
    have hpD : p ≠ D := ne_of_none upd_same nD
    obtain ⟨hDn, _⟩ := none_of_upd nD
    have hkd : ∀ x ∈ out, x.2 ∈ ks := fun x hx => perm.mem_iff.mp (List.mem_map_of_mem hx)
    refine lc_list (K := K) (a := p) (xs := out.map fun x => V.ref x.1) (fun i H2 => Same H H2 ∧ H2 p = some (.lst (out.map fun x => V.ref x.1)) ∧ ∃ ws, H2 D = some (.lst ws) ∧ Ents H2 ws (mkR (numAt es) ((out.take i).map (·.2)))) ?_ ?_ ?_ ?_
    · refine ⟨(same_upd np).trans (same_upd nD), ?_, [], upd_same, .nil⟩
      rw [upd_ne hpD, upd_same]
    · rintro i H2 _ ⟨_, hp, _⟩
      exact .inl (.inl hp)
    · rintro i x H2 hx ⟨sm, hp, ws, hD, hE⟩
      obtain ⟨hi, rfl⟩ := getm hx
      have hm := List.getElem_mem hi
      have hk := sm _ _ (held _ hm)
      have hv := hs.get (hkd _ hm)
      have hd2 := sm _ _ hd
      refine ⟨rfl, _, rfl, _, rfl, d, _, rfl, dgetT hd2 hk hv, ?_⟩
      refine ⟨rfl, _, rfl, ?_⟩
      have htk : (out.take (i + 1)).map (·.2) = (out.take i).map (·.2) ++ [out[i].2] := take_map_succ (·.2) hi
      rw [htk, mkR_snoc]
      refine iteND (fun hn => ?_) (fun h0 => ?_)
      · have hn0 : numAt es out[i].2 ≠ 0 := fun z => hn (by rw [z])
        rw [if_neg hn0]
        refine ⟨_, rfl, _, rfl, _, rfl, d, _, rfl, dgetT hd2 hk hv, (by show 2 ≤ sizeLine; decide), fun t nt => ?_⟩
        have ntD : D ≠ t := ne_of_none hD nt
        have smt : Same H2 (upd H2 t (.tup [.ref out[i].1, .int (numAt es out[i].2)])) := same_upd nt
        have hD3 := smt _ _ hD
        refine ⟨ws, hD3, ?_, same_mut (sm.trans smt) hDn, ?_, ws ++ [.ref t], upd_same, ?_⟩
        · have h1 := hE.len
          have h2 := mkR_len (numAt es) ((out.take i).map (·.2))
          have h3 := perm.length_eq
          rw [List.length_map] at h2 h3
          rw [List.length_take] at h2
          omega
        · rw [upd_ne hpD]
          exact smt _ _ hp
        · refine ((hE.mono smt).updL hD3).app (.cons (EntAt.updL hD3 ⟨t, _, rfl, upd_same, ?_⟩) .nil)
          exact smt _ _ hk
      · have h0' : numAt es out[i].2 = 0 := V.int.inj h0
        rw [if_pos h0', List.append_nil]
        exact ⟨sm, hp, ws, hD, hE⟩
    · rintro H2 ⟨sm, hp, ws, hD, hE⟩
      rw [List.length_map, List.take_length] at hE
      exact q _ D ws H2 (row_sorted perm pw nod hs.out) sm hDn hD hE
theorem c_gather {f : Addr} {fd : FuncData} (D : C8.Def K mg "gather" s_gather f fd) (b : Binds K fd ["entries"] []) (T : Bi mg) (c_row_of : C8.Cal P w K mg base 1 "row_of" (spRowOf K) []) : C8.Cal P w K mg base 2 "gather" (spGather K) [] := by
  refine C8.cal0 D b .nil sc_gather (fun vs H Q E h => ?_) (fun cdv A outer s H vs Q E hr h => ?_)
  · obtain ⟨a, xs, es, rfl, _⟩ := h
    rfl
  · obtain ⟨a, xs, es, rfl, hE, hne, q⟩ := h
    refine ⟨_, (pss_cons (ps_set (i := 1) sc_gather.nd rfl (Or.inl rfl) pe_dnewT)
  (pss_cons (ps_for PassesOwn.never rfl (pi_list (pv 0)) (pg_tup rfl (pgs_cons (pg_name (i := 2) sc_gather.nd rfl (Or.inl rfl)) (pgs_cons (pg_name (i := 3) sc_gather.nd rfl (Or.inl rfl)) pgs_nil))) (pss_one (ps_dput (hu_of hr) (pv 1) (pv 2) (pe_op op_add (pe_dget2 (hu_of hr) (pv 1) (pv 2) pe_int ⟨rfl, rfl, rfl, rfl⟩) (pv 3)) rfl)))
  (pss_one (ps_ret (C8.pe_c c_row_of hr (by decide) (by rfl) (pa_cons (pv 1) pa_nil)))))), ?_⟩
    refine fun d nd => ?_
    have s1 : Same H (upd H d (.dT [])) := same_upd nd
    refine ⟨_, rfl, a, rfl, ⟨xs, s1.seq hE.l⟩, ?_⟩
    refine for_list (K := K) (xs := xs) (fun i σ H2 => ∃ (kvs : List (List Key × V)) (ks : List Pl) (y2 y3 : Option V), σ = [some (.ref a), some (.ref d), y2, y3] ∧ Same H H2 ∧ H2 d = some (.dT kvs) ∧ Sums kvs ks (numAt (es.take i)) ∧ (∀ k ∈ ks, k ≠ []) ∧ ks.length ≤ i) ?_ ?_ ?_ ?_
    · exact ⟨[], [], none, none, rfl, s1, upd_same, Sums.nil, fun k hk => (by cases hk), Nat.le_refl _⟩
    · rintro i σ H2 _ ⟨_, _, _, _, _, sm, _⟩
      exact sm.seq hE.l
    · rintro i x σ H2 hx ⟨kvs, ks, y2, y3, rfl, sm, hd, hs, hk, hl⟩
      obtain ⟨e, he, hv⟩ := (hE.e.mono sm).get hx
      obtain ⟨t, p, rfl, ht, hp⟩ := hv
      have hi := (List.getElem?_eq_some_iff.mp he).1
      have hm : e ∈ es := List.mem_of_getElem? he
      have hz := hE.z
      refine ⟨t, _, rfl, .inl (.inl ht), rfl, _, _, rfl, _, _, rfl, rfl, ?_⟩
      refine ⟨_, rfl, d, rfl, .inr ⟨kvs, .inl hd⟩, _, rfl, _, dgetT hd hp rfl, _, rfl, numAt (es.take i) e.1, e.2, hs.getD _, rfl, _, rfl, _, rfl, d, _, rfl, DPut.t hd (k := e.1.map Sum.inl) (by rw [kV_ints]; exact hp) ?_, ?_⟩
      · rw [hs.len]
        omega
      · exact ⟨_, _, _, _, rfl, same_mut sm nd, upd_same, hs.next he, put_keys_ne hk (hne e hm), put_keys_len hl⟩
    · rintro σ H2 ⟨kvs, ks, y2, y3, rfl, sm, hd, hs, hk, hl⟩
      have hz := hE.z
      have hlen := hE.e.len
      rw [hlen, List.take_length] at hs
      refine ⟨_, rfl, d, kvs, ks, es, rfl, hd, hs, hk, by omega, fun r p ws H3 hr sm3 np hp he => ?_⟩
      refine q r p ws H3 hr (sm.trans sm3) ?_ hp he
      cases z : H p with
      | none => rfl
      | some o =>
        rw [sm _ _ z] at np
        cases np
end
end OT

set_option Elab.async false
set_option linter.all false
set_option maxRecDepth 100000
set_option maxHeartbeats 2000000
namespace OT
open PySem PySem.Spec PyProof.Rows L2
def rowT (e : Ent) (fs : List Ent) : List Ent := fs.map fun g => (plusP e.1 g.1, e.2 * g.2)
def timesL (es fs : List Ent) : List Ent := es.flatMap fun e => rowT e fs
theorem timesL_snoc (es fs : List Ent) (e : Ent) : timesL (es ++ [e]) fs = timesL es fs ++ rowT e fs := by
  unfold timesL
  rw [List.flatMap_append]
  simp
theorem timesL_mem {es fs : List Ent} {x : Ent} (h : x ∈ timesL es fs) : ∃ e ∈ es, ∃ g ∈ fs, x = (plusP e.1 g.1, e.2 * g.2) := by
  unfold timesL rowT at h
  obtain ⟨e, he, h⟩ := List.mem_flatMap.mp h
  obtain ⟨g, hg, rfl⟩ := List.mem_map.mp h
  exact ⟨e, he, g, hg, rfl⟩
theorem timesL_len : ∀ (es fs : List Ent), (timesL es fs).length = es.length * fs.length
  | [], fs => by rw [List.length_nil, Nat.zero_mul]; rfl
  | e :: r, fs => by
    have ih := timesL_len r fs
    show (rowT e fs ++ timesL r fs).length = _
    rw [List.length_append, ih, show (rowT e fs).length = fs.length from List.length_map _, List.length_cons, Nat.succ_mul]
    omega
section
variable {P : Program} {w : World} {K : PySem.W.Frag} {mg : Str → Option Value} {base : Heap}
/-- the same, of the law -/
def spTimes (K : PySem.W.Frag) : Sp := fun vs H Q _ => ∃ (a b : Addr) (xs ys : List V) (es fs : List Ent), vs = [.ref a, .ref b] ∧ SqL K H a xs ∧ SqL K H b ys ∧ Ents H xs es ∧ Ents H ys fs ∧ es.length * fs.length ≤ 10000 ∧ (∀ e ∈ es, ∀ g ∈ fs, e.1.length = g.1.length) ∧ (∀ e ∈ es, e.1 ≠ [] ∧ e.1.length ≤ 1000) ∧ (∀ g ∈ fs, -(2 ^ 64) < g.2 ∧ g.2 < 2 ^ 64) ∧ wantRow H (timesL es fs) Q
theorem c__law_times {f : Addr} {fd : FuncData} (D : C8.Def K mg "_law_times" s__law_times f fd) (b : Binds K fd ["_law_first", "_law_second"] []) (T : Bi mg) (c__law_plus : C8.Cal P w K mg base 1 "_law_plus" (spPlus K) []) (c__law_row : C8.Cal P w K mg base 1 "_law_row" (spGather K) []) : C8.Cal P w K mg base 2 "_law_times" (spTimes K) [] := by
  refine C8.cal0 D b .nil sc__law_times (fun vs H Q E h => ?_) (fun cdv A outer s H vs Q E hr h => ?_)
  · obtain ⟨a, b, xs, ys, es, fs, rfl, _⟩ := h
    rfl
  · obtain ⟨a, b, xs, ys, es, fs, rfl, hS, hT, hE, hF, hz, hl, hne, hnum, q⟩ := h
    refine ⟨_, (pss_cons (ps_set (i := 2) sc__law_times.nd rfl (Or.inl rfl) (pe_lst pa_nil))
  (pss_cons (ps_for PassesOwn.never rfl (pi_list (pv 0)) (pg_tup rfl (pgs_cons (pg_name (i := 3) sc__law_times.nd rfl (Or.inl rfl)) (pgs_cons (pg_name (i := 4) sc__law_times.nd rfl (Or.inl rfl)) pgs_nil))) (pss_one (ps_for PassesOwn.never rfl (pi_list (pv 1)) (pg_tup rfl (pgs_cons (pg_name (i := 5) sc__law_times.nd rfl (Or.inl rfl)) (pgs_cons (pg_name (i := 6) sc__law_times.nd rfl (Or.inl rfl)) pgs_nil))) (pss_one (ps_expr (pe_bm PySem.F.plainAttrs_list PySem.F.slot_list_append PySem.F.type_list_append mt_append (pv 2) (pa_cons (pe_tup (pa_cons (C8.pe_c c__law_plus hr (by decide) (by rfl) (pa_cons (pv 3) (pa_cons (pv 5) pa_nil))) (pa_cons (pe_op op_mul (pv 4) (pv 6)) pa_nil))) pa_nil)))))))
  (pss_one (ps_ret (C8.pe_c c__law_row hr (by decide) (by rfl) (pa_cons (pv 2) pa_nil)))))), ?_⟩
    refine ⟨by decide, fun p np => ?_⟩
    have s1 : Same H (upd H p (.lst [])) := same_upd np
    refine ⟨_, rfl, a, rfl, ⟨_, s1.seq hS⟩, ?_⟩
    refine for_list (K := K) (xs := xs) (fun i σ H2 => ∃ (ws : List V) (y3 y4 y5 y6 : Option V), σ = [some (.ref a), some (.ref b), some (.ref p), y3, y4, y5, y6] ∧ Same H H2 ∧ H2 p = some (.lst ws) ∧ Ents H2 ws (timesL (es.take i) fs)) ⟨[], none, none, none, none, rfl, s1, upd_same, .nil⟩ ?_ ?_ ?_
    · rintro i σ H2 _ ⟨_, _, _, _, _, _, sm, _⟩
      exact sm.seq hS
    · rintro i x σ H2 hx ⟨ws, y3, y4, y5, y6, rfl, sm, hp, hW⟩
      obtain ⟨e, hee, t, pe, rfl, ht, hpe⟩ := hE.get hx
      have hi := (List.getElem?_eq_some_iff.mp hee).1
      have hem : e ∈ es := List.mem_of_getElem? hee
      refine ⟨t, _, rfl, .inl (.inl (sm _ _ ht)), rfl, _, _, rfl, _, _, rfl, rfl, ?_⟩
      refine ⟨_, rfl, b, rfl, ⟨_, sm.seq hT⟩, ?_⟩
      refine for_list (K := K) (xs := ys) (fun j σ H3 => ∃ (ws : List V) (y5 y6 : Option V), σ = [some (.ref a), some (.ref b), some (.ref p), some (.ref pe), some (.int e.2), y5, y6] ∧ Same H H3 ∧ H3 p = some (.lst ws) ∧ Ents H3 ws (timesL (es.take i) fs ++ rowT e (fs.take j))) ?_ ?_ ?_ ?_
      · refine ⟨ws, y5, y6, rfl, sm, hp, ?_⟩
        rw [show rowT e (fs.take 0) = [] from rfl, List.append_nil]
        exact hW
      · rintro j σ H3 _ ⟨_, _, _, _, sm, _⟩
        exact sm.seq hT
      · rintro j x σ H3 hx ⟨ws, y5, y6, rfl, sm, hp, hW⟩
        obtain ⟨z, hzz, t2, pz, rfl, ht2, hpz⟩ := hF.get hx
        have hj := (List.getElem?_eq_some_iff.mp hzz).1
        have hzm : z ∈ fs := List.mem_of_getElem? hzz
        refine ⟨t2, _, rfl, .inl (.inl (sm _ _ ht2)), rfl, _, _, rfl, _, _, rfl, rfl, ?_⟩
        have hle := hl e hem z hzm
        refine ⟨_, rfl, .inl ⟨rfl, _, .inl (.inl hp)⟩, _, rfl, _, rfl, pe, pz, e.1, z.1, rfl, .inl (.inl (sm _ _ hpe)), .inl (.inl (sm _ _ hpz)), Nat.le_of_eq hle, (hne e hem).2, fun p4 H4 s4 hp4 => ?_⟩
        refine ⟨_, rfl, _, rfl, _, _, rfl, rfl, .inr (hnum z hzm), (by show 2 ≤ sizeLine; decide), fun t5 nt5 => ?_⟩
        have s5 : Same H4 (upd H4 t5 (.tup [.ref p4, .int (e.2 * z.2)])) := same_upd nt5
        have s45 := s4.trans s5
        have hD := s45 _ _ hp
        have hwl := hW.len
        refine ⟨p, ws, _, rfl, rfl, hD, ?_, ?_⟩
        · rw [hwl, List.length_append, timesL_len, List.length_take, show (rowT e (fs.take j)).length = (fs.take j).length from List.length_map _, List.length_take, Nat.min_eq_left (Nat.le_of_lt hi), Nat.min_eq_left (Nat.le_of_lt hj)]
          have h1 : i * fs.length + fs.length ≤ es.length * fs.length := by
            rw [← Nat.succ_mul]
            exact Nat.mul_le_mul_right _ hi
          exact small100k (by omega)
        · refine ⟨ws ++ [.ref t5], _, _, rfl, same_mut (sm.trans s45) np, upd_same, ?_⟩
          have e1 : timesL (es.take i) fs ++ rowT e (fs.take (j + 1)) = (timesL (es.take i) fs ++ rowT e (fs.take j)) ++ [(plusP e.1 z.1, e.2 * z.2)] := by
            rw [take_snoc hzz]
            unfold rowT
            rw [List.map_append, List.append_assoc]
            rfl
          rw [e1]
          exact ((hW.mono s45).updL hD).app (.cons (EntAt.updL hD ⟨t5, p4, rfl, upd_same, s5 _ _ hp4⟩) .nil)
      · rintro σ H3 ⟨ws, y5, y6, rfl, sm, hp, hW⟩
        rw [hF.len, List.take_length] at hW
        refine ⟨ws, _, _, y5, y6, rfl, sm, hp, ?_⟩
        rw [take_snoc hee, timesL_snoc]
        exact hW
    · rintro σ H2 ⟨ws, y3, y4, y5, y6, rfl, sm, hp, hW⟩
      rw [hE.len, List.take_length] at hW
      refine ⟨_, rfl, p, ws, timesL es fs, rfl, ⟨.inl (.inl hp), hW, ?_⟩, fun x hx => ?_, wantRow.mono sm q⟩
      · rw [timesL_len]
        exact small100k (by omega)
      · obtain ⟨e, he, g, hg, rfl⟩ := timesL_mem hx
        intro h0
        have h1 := plusP_len (Nat.le_of_eq (hl e he g hg))
        have h2 : (plusP e.1 g.1).length = 0 := by
          show (plusP e.1 g.1).length = 0
          rw [show plusP e.1 g.1 = [] from h0]
          rfl
        exact (hne e he).1 (List.length_eq_zero_iff.mp (by omega))
end
end OT

set_option Elab.async false
set_option linter.all false
set_option maxRecDepth 100000
set_option maxHeartbeats 4000000
namespace OT
open PySem PySem.Spec PyProof.Rows L2
theorem RowIs.self {r : List Ent} (h : Valid r) : RowIs r r := ⟨h, fun _ => rfl⟩
theorem negP_lt : ∀ {a b : Pl}, a.length = b.length → HT.lexLt (negP b) (negP a) = HT.lexLt a b
  | [], [], _ => rfl
  | x :: a, y :: b, h => by
    show (if -y = -x then HT.lexLt (negP b) (negP a) else decide (-y < -x)) = if x = y then HT.lexLt a b else decide (x < y)
    rw [negP_lt (Nat.succ.inj h)]
    by_cases e : x = y
    · rw [if_pos e, if_pos (by rw [e])]
    · rw [if_neg e, if_neg (by omega)]
      by_cases c : x < y
      · rw [decide_eq_true c, decide_eq_true (by omega)]
      · rw [decide_eq_false c, decide_eq_false (by omega)]
theorem numAt_rev (es : List Ent) (q : Pl) : numAt es.reverse q = numAt es q := by
  induction es with
  | nil => rfl
  | cons e r ih =>
    rw [List.reverse_cons, numAt_app, ih]
    show numAt r q + ((if e.1 = q then e.2 else 0) + 0) = (if e.1 = q then e.2 else 0) + numAt r q
    omega
def mirP (es : List Ent) : List Ent := es.reverse.map fun e => (negP e.1, e.2)
theorem mirP_valid {es : List Ent} {n : Nat} (h : Valid es) (hn : ∀ e ∈ es, e.1.length = n) : Valid (mirP es) := by
  unfold mirP
  refine ⟨?_, fun e he => ?_⟩
  · rw [List.pairwise_map, List.pairwise_reverse]
    refine List.Pairwise.imp_of_mem (fun {x y} hx hy q => ?_) h.asc
    rw [negP_lt ((hn x hx).trans (hn y hy).symm)]
    exact q
  · obtain ⟨y, hy, rfl⟩ := List.mem_map.mp he
    exact h.nz y (List.mem_reverse.mp hy)
theorem mirP_is {es : List Ent} {n : Nat} (h : Valid es) (hn : ∀ e ∈ es, e.1.length = n) : RowIs (mirP es) (mirL es) := by
  refine ⟨mirP_valid h hn, fun q => ?_⟩
  have e : mirP es = (mirL es).reverse := by
    unfold mirP mirL
    rw [List.map_reverse]
  rw [e, numAt_rev]
theorem none_back {H H2 : Hp} {p : Addr} (s : Same H H2) (h : H2 p = none) : H p = none := by
  cases z : H p with
  | none => rfl
  | some o =>
    rw [s _ _ z] at h
    cases h
structure RQ (H : Hp) (p : Addr) (xs : List V) (es : List Ent) (n : Nat) : Prop where
  l : H p = some (.lst xs)
  e : Ents H xs es
  v : Valid es
  d : ∀ e ∈ es, e.1.length = n
  n1 : 1 ≤ n
  n3 : n ≤ 3
  z : es.length ≤ 100
theorem RQ.mono {H H' : Hp} {p : Addr} {xs : List V} {es : List Ent} {n : Nat} (s : Same H H') (h : RQ H p xs es n) : RQ H' p xs es n := ⟨s _ _ h.l, h.e.mono s, h.v, h.d, h.n1, h.n3, h.z⟩
theorem RQ.dp {K : PySem.W.Frag} {H : Hp} {p : Addr} {xs : List V} {es : List Ent} {n : Nat} (h : RQ H p xs es n) : Dp K H (.ref p) (dRow es) := h.e.dp (.inl (.inl h.l))
theorem RQ.rn {H : Hp} {p : Addr} {xs : List V} {es : List Ent} {n : Nat} (h : RQ H p xs es n) : RowN n es := ⟨h.v, h.n1, h.n3, h.d⟩
theorem RQ.lst {H : Hp} {p : Addr} {xs : List V} {es : List Ent} {n : Nat} (h : RQ H p xs es n) : Lst H p xs es := ⟨h.l, h.e, by have := h.z; omega, fun e he z => by
  have := h.d e he
  rw [z] at this
  have h0 : (0 : Nat) = n := this
  have := h.n1
  omega⟩
theorem RQ.le1000 {H : Hp} {p : Addr} {xs : List V} {es : List Ent} {n : Nat} (h : RQ H p xs es n) : ∀ e ∈ es, e.1.length ≤ 1000 := fun e he => by
  rw [h.d e he]
  have := h.n3
  omega
theorem RQ.nil {H : Hp} {p : Addr} {n : Nat} (h : H p = some (.lst [])) (n1 : 1 ≤ n) (n3 : n ≤ 3) : RQ H p [] [] n := ⟨h, .nil, ⟨.nil, fun e h => (by cases h)⟩, fun e h => (by cases h), n1, n3, Nat.zero_le _⟩
theorem times_congr {a b c d : List Ent} (h : ∀ q, numAt a q = numAt b q) (k : ∀ q, numAt c q = numAt d q) (q : Pl) : numAt (timesL a c) q = numAt (timesL b d) q := numAt_prodL_eq plusP h k q
theorem mir_congr {a b : List Ent} (h : ∀ q, numAt a q = numAt b q) (q : Pl) : numAt (mirL a) q = numAt (mirL b) q := numAt_mapF_eq negP h q
/-- the numbers stay within a bound -/
def NB (U : Nat) (es : List Ent) : Prop := ∀ e ∈ es, e.2.natAbs ≤ U
theorem numAt_le {U : Nat} : ∀ {es : List Ent}, NB U es → ∀ q, (numAt es q).natAbs ≤ es.length * U
  | [], _, _ => Nat.zero_le _
  | e :: r, h, q => by
    have ih := numAt_le (fun x hx => h x (List.mem_cons_of_mem _ hx)) q
    have he := h e List.mem_cons_self
    show ((if e.1 = q then e.2 else 0) + numAt r q).natAbs ≤ (r.length + 1) * U
    rw [Nat.succ_mul]
    by_cases c : e.1 = q
    · rw [if_pos c]
      omega
    · rw [if_neg c]
      omega
theorem RowIs.nb {r es : List Ent} {U : Nat} (h : RowIs r es) (hb : NB U es) : NB (es.length * U) r := fun e he => by
  have h1 := h.v.at e he
  rw [← h1, h.s]
  exact numAt_le hb _
theorem NB.le {U W : Nat} {es : List Ent} (h : NB U es) (k : U ≤ W) : NB W es := fun e he => Nat.le_trans (h e he) k
theorem NB.map {U : Nat} {es : List Ent} {f : Pl → Pl} (h : NB U es) : NB U (mapF f es) := fun e he => by
  obtain ⟨y, hy, rfl⟩ := List.mem_map.mp he
  exact h y hy
theorem NB.num {U : Nat} {es : List Ent} (h : NB U es) (k : U ≤ 1000000000000) : ∀ e ∈ es, -(2 ^ 64) < e.2 ∧ e.2 < 2 ^ 64 := fun e he => by
  have := h e he
  have h0 : (2 : Int) ^ 64 = 18446744073709551616 := by decide
  omega
section
variable {P : Program} {w : World} {K : PySem.W.Frag} {mg : Str → Option Value} {base : Heap}
def spCross (K : PySem.W.Frag) : Sp := fun vs H Q _ => ∃ (a b : Addr) (xs ys : List V) (es fs : List Ent) (n : Nat), vs = [.ref a, .ref b] ∧ RQ H a xs es n ∧ RQ H b ys fs n ∧ NB 1000000 fs ∧ wantRow H (timesL es (mirL fs)) Q
theorem c__law_cross {f : Addr} {fd : FuncData} (D : C8.Def K mg "_law_cross" s__law_cross f fd) (b : Binds K fd ["_law_first", "_law_second"] []) (T : Bi mg) (c__law_times : C8.Cal P w K mg base 2 "_law_times" (spTimes K) []) (c__law_mirror : C8.Cal P w K mg base 2 "_law_mirror" spMir []) : C8.Cal P w K mg base 3 "_law_cross" (spCross K) [] := by
  refine C8.cal0 D b .nil sc__law_cross (fun vs H Q E h => ?_) (fun cdv A outer s H vs Q E hr h => ?_)
  · obtain ⟨a, b, xs, ys, es, fs, n, rfl, _⟩ := h
    rfl
  · obtain ⟨a, b, xs, ys, es, fs, n, rfl, R, S, hb, q⟩ := h
    refine ⟨_, (pss_one (ps_ret (C8.pe_c c__law_times hr (by decide) (by rfl) (pa_cons (pv 0) (pa_cons (C8.pe_c c__law_mirror hr (by decide) (by rfl) (pa_cons (pv 1) pa_nil)) pa_nil))))), ?_⟩
    have hz := R.z
    have hz2 := S.z
    refine ⟨_, rfl, _, rfl, b, ys, fs, rfl, S.lst, S.le1000, fun m p ws H2 hm s2 np hp hE => ?_⟩
    have hmm : m = mirP fs := hm.one (mirP_is S.v S.d)
    have R2 := R.mono s2
    have hml : m.length ≤ 100 := by
      have := hm.len
      rw [show (mirL fs).length = fs.length from List.length_map _] at this
      omega
    have hmd : ∀ e ∈ m, e.1.length = n := fun e he => by
      obtain ⟨x, hx, ex⟩ := hm.mem he
      obtain ⟨y, hy, rfl⟩ := List.mem_map.mp hx
      rw [← ex]
      show (negP y.1).length = n
      rw [negP_len, S.d y hy]
    have hmb : NB 1000000 m := fun e he => by
      rw [hmm] at he
      obtain ⟨y, hy, rfl⟩ := List.mem_map.mp he
      exact hb y (List.mem_reverse.mp hy)
    refine ⟨a, p, xs, ws, es, m, rfl, .inl (.inl R2.l), .inl (.inl hp), R2.e, hE, ?_, fun e he g hg => by rw [R.d e he, hmd g hg], fun e he => ⟨R2.lst.p e he, R.le1000 e he⟩, hmb.num (by decide), ?_⟩
    · exact Nat.le_trans (Nat.mul_le_mul (show es.length ≤ 100 from hz) hml) (by decide)
    · intro r p3 ws3 H3 hr s3 np3 hp3 hE3
      exact q r p3 ws3 H3 (hr.congr (times_congr (fun _ => rfl) hm.s)) (s2.trans s3) (none_back s2 np3) hp3 hE3
def spOwn (K : PySem.W.Frag) : Sp := fun vs H Q _ => ∃ (a : Addr) (xs : List V) (es : List Ent) (n : Nat), vs = [.ref a] ∧ RQ H a xs es n ∧ NB 1000000 es ∧ wantRow H (timesL es (mirL es)) Q
theorem c__law_own {f : Addr} {fd : FuncData} (D : C8.Def K mg "_law_own" s__law_own f fd) (b : Binds K fd ["_law_row_here"] []) (T : Bi mg) (c__law_cross : C8.Cal P w K mg base 3 "_law_cross" (spCross K) []) : C8.Cal P w K mg base 4 "_law_own" (spOwn K) [] := by
  refine C8.cal0 D b .nil sc__law_own (fun vs H Q E h => ?_) (fun cdv A outer s H vs Q E hr h => ?_)
  · obtain ⟨a, xs, es, n, rfl, _⟩ := h
    rfl
  · obtain ⟨a, xs, es, n, rfl, R, hb, q⟩ := h
    refine ⟨_, (pss_one (ps_ret (C8.pe_c c__law_cross hr (by decide) (by rfl) (pa_cons (pv 0) (pa_cons (pv 0) pa_nil))))), ?_⟩
    exact ⟨_, rfl, _, rfl, a, a, xs, xs, es, es, n, rfl, R, R, hb, q⟩
end
end OT

set_option Elab.async false
set_option linter.all false
set_option maxRecDepth 100000
set_option maxHeartbeats 2000000
namespace OT
open PySem PySem.Spec PyProof.Rows L2
/-! ### lists of ints: the sorted list, the first repeated one, the differences of all pairs -/
def insI (x : Int) : List Int → List Int
  | [] => [x]
  | y :: t => if x ≤ y then x :: y :: t else y :: insI x t
def srt : List Int → List Int
  | [] => []
  | x :: t => insI x (srt t)
theorem insI_perm (x : Int) : ∀ t : List Int, (insI x t).Perm (x :: t)
  | [] => List.Perm.refl _
  | y :: t => by
    unfold insI
    by_cases h : x ≤ y
    · rw [if_pos h]
    · rw [if_neg h]
      exact ((insI_perm x t).cons y).trans (List.Perm.swap _ _ _)
theorem srt_perm : ∀ t : List Int, (srt t).Perm t
  | [] => List.Perm.refl _
  | x :: t => (insI_perm x (srt t)).trans ((srt_perm t).cons x)
theorem insI_asc (x : Int) : ∀ {t : List Int}, t.Pairwise (· ≤ ·) → (insI x t).Pairwise (· ≤ ·)
  | [], _ => List.pairwise_singleton _ _
  | y :: t, h => by
    unfold insI
    have h1 := List.pairwise_cons.mp h
    by_cases c : x ≤ y
    · rw [if_pos c]
      refine List.pairwise_cons.mpr ⟨fun z hz => ?_, h⟩
      rcases List.mem_cons.mp hz with rfl | hz
      · exact c
      · exact Int.le_trans c (h1.1 z hz)
    · rw [if_neg c]
      refine List.pairwise_cons.mpr ⟨fun z hz => ?_, insI_asc x h1.2⟩
      rcases List.mem_cons.mp ((insI_perm x t).mem_iff.mp hz) with rfl | hz
      · omega
      · exact h1.1 z hz
theorem srt_asc : ∀ t : List Int, (srt t).Pairwise (· ≤ ·)
  | [] => .nil
  | x :: t => insI_asc x (srt_asc t)
theorem asc_uniq : ∀ {a b : List Int}, a.Perm b → a.Pairwise (· ≤ ·) → b.Pairwise (· ≤ ·) → a = b
  | [], b, h, _, _ => h.nil_eq
  | x :: a, [], h, _, _ => absurd h.symm.nil_eq (by simp)
  | x :: a, y :: b, h, ha, hb => by
    have h1 := List.pairwise_cons.mp ha
    have h2 := List.pairwise_cons.mp hb
    have e : x = y := by
      have hx : x ∈ y :: b := h.mem_iff.mp List.mem_cons_self
      have hy : y ∈ x :: a := h.mem_iff.mpr List.mem_cons_self
      rcases List.mem_cons.mp hx with c | hx
      · exact c
      · rcases List.mem_cons.mp hy with c | hy
        · exact c.symm
        · have := h1.1 y hy
          have := h2.1 x hx
          omega
    subst e
    rw [asc_uniq h.cons_inv h1.2 h2.2]
theorem srt_eq {a b : List Int} (h : a.Perm b) (k : a.Pairwise (· ≤ ·)) : a = srt b := asc_uniq (h.trans (srt_perm b).symm) k (srt_asc b)
theorem srt_congr {a b : List Int} (h : a.Perm b) : srt a = srt b := srt_eq ((srt_perm a).trans h) (srt_asc a)
theorem srt_len (a : List Int) : (srt a).length = a.length := (srt_perm a).length_eq
theorem srt_mem {a : List Int} {x : Int} : x ∈ srt a ↔ x ∈ a := (srt_perm a).mem_iff
/-- the first index whose item occurs before it -/
def frA (seen : List Int) (k : Nat) : List Int → Option Nat
  | [] => none
  | x :: t => if x ∈ seen then some k else frA (seen ++ [x]) (k + 1) t
theorem frA_hit {seen : List Int} {k : Nat} {x : Int} {t : List Int} (h : x ∈ seen) : frA seen k (x :: t) = some k := if_pos h
theorem frA_miss {seen : List Int} {k : Nat} {x : Int} {t : List Int} (h : ¬ x ∈ seen) : frA seen k (x :: t) = frA (seen ++ [x]) (k + 1) t := if_neg h
theorem frA_nodup : ∀ {t seen : List Int} {k : Nat}, frA seen k t = none → seen.Nodup → (seen ++ t).Nodup
  | [], seen, k, _, h => by
    rw [List.append_nil]
    exact h
  | x :: t, seen, k, e, h => by
    by_cases c : x ∈ seen
    · rw [frA_hit c] at e
      cases e
    · rw [frA_miss c] at e
      have := frA_nodup e (List.nodup_append.mpr ⟨h, (by simp), fun a ha b hb => by
        rw [List.mem_singleton.mp hb]
        rintro rfl
        exact c ha⟩)
      rw [List.append_assoc] at this
      exact this
theorem frA_lt : ∀ {t seen : List Int} {k i : Nat}, frA seen k t = some i → i < k + t.length
  | x :: t, seen, k, i, e => by
    by_cases c : x ∈ seen
    · rw [frA_hit c] at e
      cases e
      simp
    · rw [frA_miss c] at e
      have := frA_lt e
      rw [List.length_cons]
      omega
def fr (xs : List Int) : Option Nat := frA [] 0 xs
theorem fr_nodup {xs : List Int} (h : fr xs = none) : xs.Nodup := by
  have := frA_nodup h List.nodup_nil
  rwa [List.nil_append] at this
/-- the greater minus the lesser -/
def dif (a b : Int) : Int := ((a - b).natAbs : Int)
theorem dif_comm (a b : Int) : dif a b = dif b a := by
  unfold dif
  omega
def pd : List Int → List Int
  | [] => []
  | x :: t => t.map (dif x) ++ pd t
theorem pd_perm {a b : List Int} (h : a.Perm b) : (pd a).Perm (pd b) := by
  induction h with
  | nil => exact List.Perm.refl _
  | cons x h ih => exact (h.map (dif x)).append ih
  | swap x y t =>
    show (dif y x :: (t.map (dif y) ++ (t.map (dif x) ++ pd t))).Perm (dif x y :: (t.map (dif x) ++ (t.map (dif y) ++ pd t)))
    rw [dif_comm y x]
    refine List.Perm.cons _ ?_
    rw [← List.append_assoc, ← List.append_assoc]
    exact List.perm_append_comm.append (List.Perm.refl _)
  | trans _ _ h1 h2 => exact h1.trans h2
def dR : List Int → List Int
  | [] => []
  | x :: t => dR t ++ t.reverse.map (dif x)
/-- in the order of the loops: each one against those before it -/
def dS (xs : List Int) : List Int := dR xs.reverse
theorem dS_snoc (xs : List Int) (x : Int) : dS (xs ++ [x]) = dS xs ++ xs.map (dif x) := by
  unfold dS
  rw [List.reverse_append]
  show dR xs.reverse ++ (xs.reverse.reverse).map (dif x) = _
  rw [List.reverse_reverse]
theorem dR_pd : ∀ xs : List Int, (dR xs).Perm (pd xs)
  | [] => List.Perm.refl _
  | x :: t => by
    show (dR t ++ t.reverse.map (dif x)).Perm (t.map (dif x) ++ pd t)
    exact List.perm_append_comm.trans (((List.reverse_perm t).map (dif x)).append (dR_pd t))
theorem dS_pd (xs : List Int) : (dS xs).Perm (pd xs) := (dR_pd _).trans (pd_perm (List.reverse_perm xs))
theorem dS_perm {a b : List Int} (h : a.Perm b) : (dS a).Perm (dS b) := (dS_pd a).trans ((pd_perm h).trans (dS_pd b).symm)
theorem pd_len : ∀ xs : List Int, 2 * (pd xs).length = xs.length * (xs.length - 1)
  | [] => rfl
  | x :: t => by
    have ih := pd_len t
    show 2 * (t.map (dif x) ++ pd t).length = (t.length + 1) * t.length
    rw [List.length_append, List.length_map, Nat.mul_add, ih]
    cases t with
    | nil => rfl
    | cons y r =>
      show 2 * (r.length + 1) + (r.length + 1) * r.length = (r.length + 2) * (r.length + 1)
      rw [Nat.add_mul (r.length) 2, Nat.mul_comm (r.length + 1) r.length]
      omega
theorem dS_len (xs : List Int) : 2 * (dS xs).length = xs.length * (xs.length - 1) := by rw [(dS_pd xs).length_eq, pd_len]
theorem dS_le {xs : List Int} {n : Nat} (h : xs.length ≤ n) : (dS xs).length ≤ n * n := by
  have h1 := dS_len xs
  have h2 : xs.length * (xs.length - 1) ≤ n * n := Nat.mul_le_mul h (by omega)
  omega
theorem dS_mem {xs : List Int} {B : Nat} (h : ∀ x ∈ xs, x.natAbs ≤ B) : ∀ d ∈ dS xs, d.natAbs ≤ 2 * B := fun d hd => by
  have hp := (dS_pd xs).mem_iff.mp hd
  clear hd
  induction xs with
  | nil => cases hp
  | cons x t ih =>
    rcases List.mem_append.mp hp with hp | hp
    · obtain ⟨y, hy, rfl⟩ := List.mem_map.mp hp
      have h1 := h x List.mem_cons_self
      have h2 := h y (List.mem_cons_of_mem _ hy)
      unfold dif
      omega
    · exact ih (fun y hy => h y (List.mem_cons_of_mem _ hy)) hp
/-! sums over lists of ints -/
def sumI (f : Int → Int) : List Int → Int
  | [] => 0
  | x :: t => f x + sumI f t
theorem sumI_app (f : Int → Int) : ∀ a b : List Int, sumI f (a ++ b) = sumI f a + sumI f b
  | [], b => by
    show sumI f b = 0 + sumI f b
    omega
  | x :: a, b => by
    show f x + sumI f (a ++ b) = f x + sumI f a + sumI f b
    rw [sumI_app f a b]
    omega
theorem sumI_perm (f : Int → Int) {a b : List Int} (h : a.Perm b) : sumI f a = sumI f b := by
  induction h with
  | nil => rfl
  | cons x _ ih =>
    show f x + _ = f x + _
    rw [ih]
  | swap x y t =>
    show f y + (f x + _) = f x + (f y + _)
    omega
  | trans _ _ h1 h2 => exact h1.trans h2
theorem sumI_map (f g : Int → Int) : ∀ a : List Int, sumI f (a.map g) = sumI (fun x => f (g x)) a
  | [] => rfl
  | x :: a => by
    show f (g x) + sumI f (a.map g) = _ + _
    rw [sumI_map f g a]
theorem sumI_add (f g : Int → Int) : ∀ a : List Int, sumI f a + sumI g a = sumI (fun x => f x + g x) a
  | [] => rfl
  | x :: a => by
    have ih := sumI_add f g a
    show (f x + sumI f a) + (g x + sumI g a) = (f x + g x) + sumI _ a
    omega
theorem sumI_congr {f g : Int → Int} : ∀ {a : List Int}, (∀ x ∈ a, f x = g x) → sumI f a = sumI g a
  | [], _ => rfl
  | x :: a, h => by
    show f x + sumI f a = g x + sumI g a
    rw [h x List.mem_cons_self, sumI_congr fun y hy => h y (List.mem_cons_of_mem _ hy)]
theorem sumI_dif (w : Int → Int) (x : Int) (t : List Int) : sumI w (t.map (dif x)) + sumI (fun d => w (-d)) (t.map (dif x)) = sumI (fun b => w (x - b)) t + sumI (fun b => w (b - x)) t := by
  rw [sumI_map, sumI_map, sumI_add, sumI_add]
  refine sumI_congr fun b _ => ?_
  unfold dif
  by_cases h : x ≤ b
  · rw [show ((x - b).natAbs : Int) = b - x by omega, show -(b - x) = x - b by omega]
    omega
  · rw [show ((x - b).natAbs : Int) = x - b by omega, show -(x - b) = b - x by omega]
/-- the own table of a set, told by the differences -/
theorem own_pairs (w : Int → Int) : ∀ S : List Int, sumI (fun a => sumI (fun b => w (a - b)) S) S = (S.length : Int) * w 0 + sumI w (pd S) + sumI (fun d => w (-d)) (pd S)
  | [] => by
    show (0 : Int) = ((0 : Nat) : Int) * w 0 + 0 + 0
    rw [show ((0 : Nat) : Int) = 0 from rfl, Int.zero_mul]
    rfl
  | x :: t => by
    have ih := own_pairs w t
    have h := sumI_dif w x t
    have e1 : sumI (fun a => sumI (fun b => w (a - b)) (x :: t)) t = sumI (fun a => w (a - x)) t + sumI (fun a => sumI (fun b => w (a - b)) t) t := (sumI_add _ _ t).symm
    show w (x - x) + sumI (fun b => w (x - b)) t + sumI (fun a => sumI (fun b => w (a - b)) (x :: t)) t = ((t.length + 1 : Nat) : Int) * w 0 + sumI w (t.map (dif x) ++ pd t) + sumI _ (t.map (dif x) ++ pd t)
    rw [e1, sumI_app, sumI_app, ih, show x - x = 0 by omega, show ((t.length + 1 : Nat) : Int) = (t.length : Int) + 1 by omega, Int.add_mul, Int.one_mul]
    omega
/-! rows of points -/
def ptL (xs : List Int) : List Ent := xs.map fun x => ([x], 1)
theorem sumW_ptL (w : Pl → Int) (g : Int → Int) : ∀ xs : List Int, sumW w (xs.map fun x => ([g x], 1)) = sumI (fun x => w [g x]) xs
  | [] => rfl
  | x :: t => by
    have ih := sumW_ptL w g t
    show (1 : Int) * w [g x] + sumW w (t.map _) = w [g x] + _
    rw [ih]
    omega
/-- the table of distances -/
def tblL (c : Int) (ds : List Int) : List Ent := ([0], c) :: (ds.map (fun d => ([d], 1)) ++ ds.map (fun d => ([-d], 1)))
theorem tblL_num (c : Int) (ds : List Int) (q : Pl) : numAt (tblL c ds) q = c * at1 q [0] + sumI (fun d => at1 q [d]) ds + sumI (fun d => at1 q [-d]) ds := by
  rw [numAt_sumW]
  show c * at1 q [0] + sumW (at1 q) (_ ++ _) = _
  rw [sumW_app, sumW_ptL (at1 q) (fun d => d), sumW_ptL (at1 q) (fun d => -d)]
  omega
theorem tblL_perm {c : Int} {ds es : List Int} (h : ds.Perm es) (q : Pl) : numAt (tblL c ds) q = numAt (tblL c es) q := by
  rw [tblL_num, tblL_num, sumI_perm _ h, sumI_perm (fun d => at1 q [-d]) h]
theorem own_row (q : Pl) (S : List Int) : ∀ xs : List Int, numAt (timesL (ptL xs) (mirL (ptL S))) q = sumI (fun a => sumI (fun b => at1 q [a - b]) S) xs
  | [] => rfl
  | x :: t => by
    have ih := own_row q S t
    show numAt (rowT ([x], 1) (mirL (ptL S)) ++ timesL (ptL t) (mirL (ptL S))) q = sumI _ S + _
    rw [numAt_app, ih]
    congr 1
    have e : rowT ([x], 1) (mirL (ptL S)) = S.map fun b => ([x - b], 1) := by
      show List.map _ (List.map _ (List.map _ S)) = _
      rw [List.map_map, List.map_map]
      refine List.map_congr_left fun b _ => ?_
      show ([x + -b], (1 : Int) * 1) = ([x - b], 1)
      rw [Int.one_mul, Int.sub_eq_add_neg]
    rw [e, numAt_sumW, sumW_ptL (at1 q) (fun b => x - b)]
theorem own_tbl {S ds : List Int} (h : ds.Perm (pd S)) (q : Pl) : numAt (timesL (ptL S) (mirL (ptL S))) q = numAt (tblL (S.length : Int) ds) q := by
  rw [tblL_perm h, tblL_num, own_row, own_pairs (fun x => at1 q [x])]
theorem ptL_valid {S : List Int} (a : S.Pairwise (· ≤ ·)) (n : S.Nodup) : Valid (ptL S) := by
  refine ⟨?_, fun e he => ?_⟩
  · unfold ptL
    rw [List.pairwise_map]
    refine List.Pairwise.imp (fun {x y} h => ?_) (a.and n)
    show (if x = y then HT.lexLt [] [] else decide (x < y)) = true
    rw [if_neg h.2]
    exact decide_eq_true (by have := h.1; have := h.2; omega)
  · obtain ⟨x, _, rfl⟩ := List.mem_map.mp he
    show (1 : Int) ≠ 0
    decide
end OT

set_option Elab.async false
set_option linter.all false
set_option maxRecDepth 100000
set_option maxHeartbeats 2000000
namespace OT
open PySem PySem.Spec PyProof.Rows L2
section
variable {P : Program} {w : World} {K : PySem.W.Frag} {mg : Str → Option Value} {base : Heap}
theorem ok_te {f : Addr} {fd : FuncData} (F : C8.Fun K "__init__" "TableError.__init__" s_TableError___init__ f fd) : FnOk P w K mg base L2.CX0 1 f fd ["self"] (spTE K) := by
  refine C8.fn0 F sc_TableError___init__ (fun vs H Q E h => ?_) (fun cdv A outer s H vs Q E hr h => ?_)
  · obtain ⟨a, C, nm, rfl, _⟩ := h
    rfl
  · obtain ⟨a, C, nm, rfl, ha, T, k⟩ := h
    refine ⟨_, pss_one (ps_ost (pv 0) (pe_otname (pv 0))), ?_⟩
    exact ⟨_, rfl, a, C, nm, rfl, ha, T.oc, T.on, _, rfl, a, C, rfl, T.ox, T.nw, Or.inl ⟨ha, fun d nd ne => k d nd ne⟩⟩
theorem ok_ie {f B fB : Addr} {fd fdB : FuncData} (F : C8.Fun K "__init__" "IndexedError.__init__" s_IndexedError___init__ f fd) (GB : FnOk P w K mg base L2.CX0 1 fB fdB ["self"] (spTE K)) (bB : Binds K fdB ["self"] []) (R : OtRead K B "__init__" fB) (gB : mg "TableError" = some (.ref B)) :
    FnOk P w K mg base L2.CX0 2 f fd ["self", "index"] (spIE K) := by
  refine C8.fn0 F sc_IndexedError___init__ (fun vs H Q E h => ?_) (fun cdv A outer s H vs Q E hr h => ?_)
  · obtain ⟨a, C, nm, x, rfl, _⟩ := h
    rfl
  · obtain ⟨a, C, nm, x, rfl, ha, T, k⟩ := h
    refine ⟨_, pss_cons (ps_expr (pe_otcall (pe_glob (v := .ref B) (by rfl) gB rfl) R GB hr bB pass0 (pa_cons (pv 0) pa_nil)))
      (pss_one (ps_ost (pv 0) (pv 1))), ?_⟩
    refine ⟨rfl, _, rfl, a, C, nm, rfl, ha, T, fun d nd ne => ?_⟩
    refine ⟨_, rfl, _, rfl, a, C, rfl, T.ox, T.ni, Or.inr ⟨d, _, upd_same, ?_, (by show 1 ≤ 900; decide), k d nd ne⟩⟩
    rw [upd_ne ne, upd_same]
structure ErrI (K : PySem.W.Frag) (mg : Str → Option Value) (nm : Str) (C fI : Addr) : Prop where
  g : mg nm = some (.ref C)
  t : OtErr K C nm
  i : PySem.W.findIn K (.ref C) "__init__" = some (some (.ref fI))
  ty : PySem.W.typeIn K (.ref fI) = some (.type "function")
def errD (i : Nat) : List (Str × V) := [("index", .int (i : Nat)), ("word", .str "DuplicatePoint")]
theorem drop_consI {α : Type} {l : List α} {i : Nat} (h : i < l.length) : l.drop i = l[i] :: l.drop (i + 1) := List.drop_eq_getElem_cons h
/-- a list of ints, or the error at the first repeated one -/
def spReqD (K : PySem.W.Frag) (C : Addr) : Sp := fun vs H Q E => ∃ (a : Addr) (ns : List Int), vs = [.ref a] ∧ SqL K H a (ns.map V.int) ∧ ns.length ≤ 1000 ∧
  (∀ i, fr ns = some i → ∀ d H', Same H H' → H' d = some (.xd (errD i)) → E (.ref C) (some d) H') ∧
  (fr ns = none → ∀ H', Same H H' → Q .non H')
theorem ok_require_different {f C fI : Addr} {fd fdI : FuncData} (D : C8.Def K mg "require_different" s_require_different f fd) (T : Bi mg) (X : ErrI K mg "DuplicatePoint" C fI) (GI : FnOk P w K mg base L2.CX0 2 fI fdI ["self", "index"] (spIE K)) (bI : Binds K fdI ["self", "index"] []) :
    FnOk P w K mg base (L2.CX P w) 4 f fd ["points"] (spReqD K C) := by
  obtain ⟨oc, od, dV, kV, doc, pm, an, cdv, ct, osl, rfl, lk, hcd⟩ := D.fn.ex
  refine fn_of lk hcd sc_require_different (fun vs H Q E h => ?_) fun A outer s H vs Q E hr h => ?_
  · obtain ⟨a, ns, rfl, _⟩ := h
    rfl
  · obtain ⟨a, ns, rfl, hS, hz, qE, qN⟩ := h
    refine ⟨_, (pss_cons (ps_set (i := 1) sc_require_different.nd rfl (Or.inl rfl) (pe_callTy0 (show CallR _ _ (rSet0K P w) from cr_set0K) (by rfl) T.n_set OT.b_set))
  (pss_one (ps_for (passes_of rfl) rfl (pi_enum (by rfl) T.n_enumerate (pa_cons (pv 0) pa_nil)) (pg_tup rfl (pgs_cons (pg_name (i := 2) sc_require_different.nd rfl (Or.inl rfl)) (pgs_cons (pg_name (i := 3) sc_require_different.nd rfl (Or.inl rfl)) pgs_nil))) (pss_cons (ps_if (pt_cmpR (show OpR _ _ (rSInK P w false) from or_sinK) (pv 3) (pv 1) rfl) (pss_one (ps_raise rfl (takes_of rfl rfl rfl rfl) (pmk_oex X.t.ox X.i X.ty GI hr bI .nil pass0 (by rfl) X.g (pa_cons (pv 2) pa_nil)))) pss_nil)
  (pss_one (ps_expr (pe_saddK (pv 1) (pa_cons (pv 3) pa_nil)))))))), ?_⟩
    refine ⟨rfl, fun p np => ?_⟩
    have s1 : Same H (upd H p (SetK P w p (fun _ => false) 0)) := same_upd np
    refine ⟨_, rfl, a, _, rfl, s1.seq hS, ?_⟩
    refine for_it (walk_enum (xs := ns.map V.int)) (fun i σ H2 => ∃ (S : Key → Bool) (n : Nat) (y2 y3 : Option V), σ = [some (.ref a), some (.ref p), y2, y3] ∧ Same H H2 ∧ H2 p = some (SetK P w p S n) ∧ n ≤ i ∧ (∀ x : Int, S (.inl x) = decide (x ∈ ns.take i)) ∧ frA (ns.take i) i (ns.drop i) = fr ns) ?_ ?_ ?_ ?_
    · exact ⟨fun _ => false, 0, none, none, rfl, s1, upd_same, Nat.le_refl _, fun x => rfl, rfl⟩
    · rintro i σ H2 _ ⟨_, _, _, _, _, sm, _⟩
      exact sm.seq hS
    · rintro i x σ H2 H3 hi ⟨S, n, y2, y3, rfl, sm, hp, hn, hs, e⟩ ⟨t, x1, x2, rfl, nt, rfl, e1, e2⟩
      cases e1
      obtain ⟨hi2, rfl⟩ := getm e2
      have smt : Same H2 (upd H2 t (.tup [.int (i : Nat), .int ns[i]])) := same_upd nt
      have sm2 := sm.trans smt
      have hp2 := smt _ _ hp
      rw [drop_consI hi2] at e
      have htk : ns.take (i + 1) = ns.take i ++ [ns[i]] := by rw [List.take_add_one, List.getElem?_eq_getElem hi2]; rfl
      refine ⟨t, _, rfl, .inl (.inl upd_same), rfl, _, _, rfl, _, _, rfl, rfl, ?_⟩
      refine ⟨_, rfl, _, rfl, .inl ns[i], p, S, n, rfl, rfl, hp2, _, rfl, ?_⟩
      by_cases c : ns[i] ∈ ns.take i
      · rw [frA_hit c] at e
        have hT : S (.inl ns[i]) = true := by rw [hs]; exact decide_eq_true c
        show if S (.inl ns[i]) = true then _ else _
        rw [if_pos hT]
        refine ⟨_, rfl, (by show 1 ≤ 1000; decide), fun a2 na => ⟨a2, C, _, _, rfl, upd_same, X.t, fun d nd ne => ?_⟩⟩
        have nd2 : (upd H2 t (.tup [.int (i : Nat), .int ns[i]])) d = none := by
          rw [upd_ne ne] at nd
          exact nd
        refine ⟨rfl, d, _, ?_, upd_same, nd2, qE i e.symm d _ ?_ upd_same⟩
        · rw [upd_ne ne.symm, upd_same]
        · intro b o hb
          have hb2 := sm2 b o hb
          have nba : b ≠ a2 := ne_of_none hb2 na
          have nbd : b ≠ d := ne_of_none hb2 nd2
          rw [upd_ne nbd, del_ne nba, upd_ne nbd, upd_ne nba, upd_ne nbd, upd_ne nba]
          exact hb2
      · rw [frA_miss c] at e
        have hF : ¬ S (.inl ns[i]) = true := by rw [hs, decide_eq_false c]; decide
        show if S (.inl ns[i]) = true then _ else _
        rw [if_neg hF]
        refine ⟨_, rfl, ⟨p, S, n, rfl, hp2⟩, _, rfl, p, .inl ns[i], S, n, rfl, rfl, hp2, Nat.lt_of_le_of_lt (show n + 1 ≤ 1001 by omega) (by decide), ?_⟩
        rw [if_neg hF]
        refine ⟨_, n + 1, _, _, rfl, same_mut sm2 np, upd_same, by omega, fun x => ?_, ?_⟩
        · rw [htk]
          show (S (.inl x) || decide ((Sum.inl x : Key) = Sum.inl ns[i])) = _
          rw [hs x, ← Bool.decide_or]
          refine decide_eq_decide.mpr ?_
          rw [List.mem_append, List.mem_singleton, Sum.inl.injEq]
        · rw [htk]
          exact e
    · rintro σ H2 ⟨S, n, y2, y3, rfl, sm, hp, hn, hs, e⟩
      rw [List.length_map, List.take_length, List.drop_length] at e
      exact qN e.symm H2 sm
end
end OT

set_option Elab.async false
set_option linter.all false
set_option maxRecDepth 100000
set_option maxHeartbeats 2000000
namespace OT
open PySem PySem.Spec PyProof.Rows L2
/-- two fors: the outer one over any walk -/
theorem lc2_itO {J : It} {n : Nat} {G : Hp → Prop} {Y : Nat → Hp → V → Hp → Prop} (w : Walk J n G Y) {g : TG} {tt : TT} {wi1 : TI} {g1 : TG} {tt1 : TT} {te : TE} {vs vs1 : List Nat} {σ : L2.St} {H1 : Hp} {D : Addr} {Qd : Hp → Prop} (Pv : Nat → Hp → Prop) (h0 : Pv 0 (upd H1 D (.lst []))) (hl : ∀ i H, i ≤ n → Pv i H → G H)
    (hs : ∀ i x H H', i < n → Pv i H → Y i H x H' → g x (wipe σ vs) H' fun σ2 H2 => wipe σ2 vs = wipe σ vs ∧ tt σ2 H2 fun b H3 =>
      if b = true then wi1 σ2 H3 fun J1 H4 => ∃ W1 : Nat → Nat → Hp → Prop, (∃ m, W1 0 m H4) ∧ ∀ j k H, W1 j k H →
        (J1.stop j H ∧ Pv (i + 1) H) ∨ (J1.go j H ∧ ∃ Nx1 : Hp → Prop, (∀ H', Nx1 H' → ∃ k', k' < k ∧ W1 (j + 1) k' H') ∧ ∀ x H', J1.yld j H x H' → g1 x (wipe σ2 vs1) H' fun σ3 H5 => wipe σ3 vs1 = wipe σ2 vs1 ∧ tt1 σ3 H5 fun b H6 =>
          if b = true then te σ3 H6 fun y H7 => ∃ acc, H7 D = some (.lst acc) ∧ acc.length < sizeLine ∧ Nx1 (upd H7 D (.lst (acc ++ [y]))) else Nx1 H6)
      else Pv (i + 1) H3) (hd : ∀ H, Pv n H → Qd H) :
    ∃ W : Nat → Nat → Hp → Prop, (∃ m, W 0 m (upd H1 D (.lst []))) ∧ ∀ i m H, W i m H →
      (J.stop i H ∧ Qd H) ∨ (J.go i H ∧ ∃ Nx : Hp → Prop, (∀ H', Nx H' → ∃ m', m' < m ∧ W (i + 1) m' H') ∧ ∀ x H', J.yld i H x H' → g x (wipe σ vs) H' fun σ2 H2 => wipe σ2 vs = wipe σ vs ∧ tt σ2 H2 fun b H3 =>
        if b = true then wi1 σ2 H3 fun J1 H4 => ∃ W1 : Nat → Nat → Hp → Prop, (∃ m, W1 0 m H4) ∧ ∀ j k H, W1 j k H →
          (J1.stop j H ∧ Nx H) ∨ (J1.go j H ∧ ∃ Nx1 : Hp → Prop, (∀ H', Nx1 H' → ∃ k', k' < k ∧ W1 (j + 1) k' H') ∧ ∀ x H', J1.yld j H x H' → g1 x (wipe σ2 vs1) H' fun σ3 H5 => wipe σ3 vs1 = wipe σ2 vs1 ∧ tt1 σ3 H5 fun b H6 =>
            if b = true then te σ3 H6 fun y H7 => ∃ acc, H7 D = some (.lst acc) ∧ acc.length < sizeLine ∧ Nx1 (upd H7 D (.lst (acc ++ [y]))) else Nx1 H6)
        else Nx H3) := by
  refine ⟨fun i m H => m = n - i ∧ i ≤ n ∧ Pv i H, ⟨n, by simp, Nat.zero_le _, h0⟩, ?_⟩
  rintro i m H ⟨rfl, hi, p⟩
  have q := hl i H hi p
  by_cases hlt : i < n
  · exact .inr ⟨w.goes i H hlt q, Pv (i + 1), fun H' p' => ⟨n - (i + 1), by omega, rfl, hlt, p'⟩, fun x H' y => hs i x H H' hlt p (w.yields i H x H' hlt q y)⟩
  · have e : i = n := by omega
    subst e
    exact .inl ⟨w.stops H q, hd H p⟩
/-- the inner one over any walk -/
theorem lc2_itI {J : It} {n : Nat} {G : Hp → Prop} {Y : Nat → Hp → V → Hp → Prop} (w : Walk J n G Y) {g1 : TG} {tt1 : TT} {te : TE} {vs1 : List Nat} {σ2 : L2.St} {H4 : Hp} {D : Addr} {Nx : Hp → Prop} (Pw : Nat → Hp → Prop) (h0 : Pw 0 H4) (hl : ∀ j H, j ≤ n → Pw j H → G H)
    (hs : ∀ j y H H', j < n → Pw j H → Y j H y H' → g1 y (wipe σ2 vs1) H' fun σ3 H5 => wipe σ3 vs1 = wipe σ2 vs1 ∧ tt1 σ3 H5 fun b H6 =>
      if b = true then te σ3 H6 fun y H7 => ∃ acc, H7 D = some (.lst acc) ∧ acc.length < sizeLine ∧ Pw (j + 1) (upd H7 D (.lst (acc ++ [y]))) else Pw (j + 1) H6) (hd : ∀ H, Pw n H → Nx H) :
    ∃ W1 : Nat → Nat → Hp → Prop, (∃ m, W1 0 m H4) ∧ ∀ j k H, W1 j k H →
      (J.stop j H ∧ Nx H) ∨ (J.go j H ∧ ∃ Nx1 : Hp → Prop, (∀ H', Nx1 H' → ∃ k', k' < k ∧ W1 (j + 1) k' H') ∧ ∀ x H', J.yld j H x H' → g1 x (wipe σ2 vs1) H' fun σ3 H5 => wipe σ3 vs1 = wipe σ2 vs1 ∧ tt1 σ3 H5 fun b H6 =>
        if b = true then te σ3 H6 fun y H7 => ∃ acc, H7 D = some (.lst acc) ∧ acc.length < sizeLine ∧ Nx1 (upd H7 D (.lst (acc ++ [y]))) else Nx1 H6) := by
  refine ⟨fun j k H => k = n - j ∧ j ≤ n ∧ Pw j H, ⟨n, by simp, Nat.zero_le _, h0⟩, ?_⟩
  rintro j k H ⟨rfl, hj, p⟩
  have q := hl j H hj p
  by_cases hlt : j < n
  · exact .inr ⟨w.goes j H hlt q, Pw (j + 1), fun H' p' => ⟨n - (j + 1), by omega, rfl, hlt, p'⟩, fun x H' y => hs j x H H' hlt p (w.yields j H x H' hlt q y)⟩
  · have e : j = n := by omega
    subst e
    exact .inl ⟨w.stops H q, hd H p⟩
theorem cut_take {xs : List Int} {n : Nat} (h : n ≤ xs.length) : cutV (xs.map V.int) none (some (n : Int)) = (xs.take n).map V.int := by
  unfold cutV
  rw [HT.sIx_none, HT.sIx_nat, List.length_map, Nat.min_eq_left h, List.drop_zero, Nat.sub_zero, List.map_take]
section
variable {P : Program} {w : World} {K : PySem.W.Frag} {mg : Str → Option Value} {base : Heap}
/-- the row of points, or the error -/
def spRowPts (K : PySem.W.Frag) (C : Addr) : Sp := fun vs H Q E => ∃ (a : Addr) (ns : List Int), vs = [.ref a] ∧ SqL K H a (ns.map V.int) ∧ ns.length ≤ 1000 ∧
  (∀ i, fr ns = some i → ∀ d H', Same H H' → H' d = some (.xd (errD i)) → E (.ref C) (some d) H') ∧
  (fr ns = none → ∀ p ws H', Same H H' → H p = none → H' p = some (.lst ws) → Ents H' ws (ptL (srt ns)) → Q (.ref p) H')
theorem ok_row_of_points {f C fR : Addr} {fd fdR : FuncData} (D : C8.Def K mg "row_of_points" s_row_of_points f fd) (T : Bi mg) (DR : C8.Def K mg "require_different" s_require_different fR fdR) (bR : Binds K fdR ["points"] []) (GR : FnOk P w K mg base (L2.CX P w) 4 fR fdR ["points"] (spReqD K C)) :
    FnOk P w K mg base (L2.CX P w) 5 f fd ["points"] (spRowPts K C) := by
  obtain ⟨oc, od, dV, kV, doc, pm, an, cdv, ct, osl, rfl, lk, hcd⟩ := D.fn.ex
  refine fn_of lk hcd sc_row_of_points (fun vs H Q E h => ?_) fun A outer s H vs Q E hr h => ?_
  · obtain ⟨a, ns, rfl, _⟩ := h
    rfl
  · obtain ⟨a, ns, rfl, hS, hz, qE, qN⟩ := h
    refine ⟨_, (pss_cons (ps_expr (pe_callS GR hr rfl DR.mgf DR.kp bR (fun σ => passAt (takes_of rfl rfl rfl rfl) σ) (pa_cons (pv 0) pa_nil)))
  (pss_one (ps_ret (pe_lc (own := [("point", 1)]) (g := (gName 1)) (tt := tYes) rfl sc_row_of_points.nd (pi_list (pe_callB (show CallR _ _ (rSortedI K) from cr_sortedI) (by rfl) T.n_sorted OT.b_sorted (pa_cons (pv 0) pa_nil))) (blkOk_by (N := ["points", "point"]) (sc := C8.fnScope s_row_of_points) (by decide +kernel)) (fun _ _ _ _ _ => (pg_name (i := 1) sc_row_of_points.nd rfl (Or.inl rfl))) (fun _ _ _ _ _ => pts_nil) (fun _ _ _ _ _ => (pe_tup (pa_cons (pe_tup (pa_cons (pv 1) pa_nil)) (pa_cons pe_int pa_nil)))))))), ?_⟩
    refine ⟨_, rfl, a, ns, rfl, hS, hz, qE, fun hn H1 s1 => ?_⟩
    have q := qN hn
    refine ⟨_, rfl, a, ns, rfl, s1.seq hS, fun out p2 perm asc np2 => ?_⟩
    rw [srt_eq perm asc]
    clear perm asc
    have hl := srt_len ns
    generalize srt ns = m at q hl
    have s2 : Same H1 (upd H1 p2 (.lst (m.map V.int))) := same_upd np2
    refine ⟨p2, rfl, ⟨_, .inl (.inl upd_same)⟩, fun D nD => ?_⟩
    have h2 : (upd H1 p2 (.lst (m.map V.int))) p2 = some (.lst (m.map V.int)) := upd_same
    generalize upd H1 p2 (.lst (m.map V.int)) = H2 at s2 nD h2
    have nD0 : H D = none := none_back (s1.trans s2) nD
    refine lc_list (K := K) (xs := m.map V.int) (fun i H3 => Same H2 H3 ∧ ∃ ws, H3 D = some (.lst ws) ∧ Ents H3 ws (ptL (m.take i))) ⟨same_upd nD, [], upd_same, .nil⟩ ?_ ?_ ?_
    · rintro i H3 _ ⟨sm, _⟩
      exact .inl (.inl (sm _ _ h2))
    · rintro i x H3 hx ⟨sm, ws, hD, hE⟩
      obtain ⟨hi, rfl⟩ := getm hx
      refine ⟨rfl, tYes_of ?_⟩
      refine ⟨_, rfl, (by show 1 ≤ sizeLine; decide), fun t1 n1 => ?_⟩
      have sA : Same H3 (upd H3 t1 (.tup [.int m[i]])) := same_upd n1
      have h1 : (upd H3 t1 (.tup [.int m[i]])) t1 = some (.tup [.int m[i]]) := upd_same
      generalize upd H3 t1 (.tup [.int m[i]]) = H4 at sA h1
      refine ⟨(by show 2 ≤ sizeLine; decide), fun t2 n2 => ?_⟩
      have sB : Same H4 (upd H4 t2 (.tup [.ref t1, .int 1])) := same_upd n2
      have hb : (upd H4 t2 (.tup [.ref t1, .int 1])) t2 = some (.tup [.ref t1, .int 1]) := upd_same
      generalize upd H4 t2 (.tup [.ref t1, .int 1]) = H5 at sB hb
      have sC := sA.trans sB
      have hl2 := hE.len
      refine ⟨ws, sC _ _ hD, ?_, same_mut (sm.trans sC) nD, ws ++ [.ref t2], upd_same, ?_⟩
      · rw [hl2, show (ptL (m.take i)).length = (m.take i).length from List.length_map _, List.length_take]
        exact small100k (by omega)
      · have e : ptL (m.take (i + 1)) = ptL (m.take i) ++ [([m[i]], 1)] := take_map_succ (fun x => ([x], (1 : Int))) hi
        rw [e]
        refine ((hE.mono sC).updL (sC _ _ hD)).app (.cons (EntAt.updL (sC _ _ hD) ⟨t2, t1, rfl, hb, ?_⟩) .nil)
        exact sB _ _ h1
    · rintro H3 ⟨sm, ws, hD, hE⟩
      rw [List.length_map, List.take_length] at hE
      exact q D ws H3 ((s1.trans s2).trans sm) nD0 hD hE
def spDist (K : PySem.W.Frag) (C : Addr) : Sp := fun vs H Q E => ∃ (a : Addr) (ns : List Int), vs = [.ref a] ∧ SqL K H a (ns.map V.int) ∧ ns.length ≤ 1000 ∧
  (∀ i, fr ns = some i → ∀ d H', Same H H' → H' d = some (.xd (errD i)) → E (.ref C) (some d) H') ∧
  (fr ns = none → ∀ p H', Same H H' → H p = none → H' p = some (.lst ((srt (dS ns)).map V.int)) → Q (.ref p) H')
theorem ok_distances {f C fR : Addr} {fd fdR : FuncData} (D : C8.Def K mg "distances" s_distances f fd) (T : Bi mg) (DR : C8.Def K mg "require_different" s_require_different fR fdR) (bR : Binds K fdR ["points"] []) (GR : FnOk P w K mg base (L2.CX P w) 4 fR fdR ["points"] (spReqD K C)) :
    FnOk P w K mg base (L2.CX P w) 5 f fd ["points"] (spDist K C) := by
  obtain ⟨oc, od, dV, kV, doc, pm, an, cdv, ct, osl, rfl, lk, hcd⟩ := D.fn.ex
  refine fn_of lk hcd sc_distances (fun vs H Q E h => ?_) fun A outer s H vs Q E hr h => ?_
  · obtain ⟨a, ns, rfl, _⟩ := h
    rfl
  · obtain ⟨a, ns, rfl, hS, hz, qE, qN⟩ := h
    refine ⟨_, (pss_cons (ps_expr (pe_callS GR hr rfl DR.mgf DR.kp bR (fun σ => passAt (takes_of rfl rfl rfl rfl) σ) (pa_cons (pv 0) pa_nil)))
  (pss_cons (ps_set (i := 1) sc_distances.nd rfl (Or.inr rfl) (pe_callB cr_sortedI (by rfl) T.n_sorted OT.b_sorted (pa_cons (pv 0) pa_nil)))
  (pss_one (ps_ret (pe_callB cr_sortedI (by rfl) T.n_sorted OT.b_sorted (pa_cons (pe_lc2 (own := [("at", 3), ("high", 4), ("low", 2)]) (vs1 := [2]) (g := (gTup K 2 (gCons (gName 3) (gCons (gName 4) gNil)))) (g1 := (gName 2)) (tt := tYes) (tt1 := tYes) rfl sc_distances.nd (pi_enum (by rfl) T.n_enumerate (pa_cons (pv 1) pa_nil)) (blkOk_by (N := ["points", "ordered", "low", "at", "high"]) (sc := C8.fnScope s_distances) (by decide +kernel)) (by decide) (fun _ _ _ _ _ => (pg_tup rfl (pgs_cons (pg_name (i := 3) sc_distances.nd rfl (Or.inl rfl)) (pgs_cons (pg_name (i := 4) sc_distances.nd rfl (Or.inl rfl)) pgs_nil)))) (fun _ _ _ _ _ => pts_nil) (fun _ _ _ _ _ => (show PI _ _ _ (iList K (tSl (rSlL K) (tVar 1) tNoPart (tPart (tVar 3)))) from pi_list (pe_slice sl_list (pe_var (i := 1) rfl (.inr (.inl rfl))) po_none (po_some (pe_var (i := 3) rfl (.inl rfl)))))) (fun _ _ _ _ _ => (pg_name (i := 2) sc_distances.nd rfl (Or.inl rfl))) (fun _ _ _ _ _ => pts_nil) (fun _ _ _ _ _ => (pe_op op_sub (pv 4) (pv 2)))) pa_nil)))))), ?_⟩
    refine ⟨_, rfl, a, ns, rfl, hS, hz, qE, fun hn H1 s1 => ?_⟩
    have q := qN hn
    refine ⟨_, rfl, a, ns, rfl, s1.seq hS, fun out p2 perm asc np2 => ?_⟩
    have ed : srt (dS ns) = srt (dS out) := srt_congr (dS_perm perm.symm)
    have hl := perm.length_eq
    rw [ed] at q
    clear perm ed
    have s2 : Same H1 (upd H1 p2 (.lst (out.map V.int))) := same_upd np2
    have h2 : (upd H1 p2 (.lst (out.map V.int))) p2 = some (.lst (out.map V.int)) := upd_same
    generalize upd H1 p2 (.lst (out.map V.int)) = H2 at s2 h2
    have s12 := s1.trans s2
    have hP : SqL K H2 p2 (out.map V.int) := .inl (.inl h2)
    refine ⟨_, rfl, p2, _, rfl, hP, fun D nD => ?_⟩
    have nD0 : H D = none := none_back s12 nD
    refine lc2_itO (walk_enum (xs := out.map V.int)) (fun i H3 => Same H2 H3 ∧ H3 D = some (.lst ((dS (out.take i)).map V.int))) ⟨same_upd nD, upd_same⟩ ?_ ?_ ?_
    · rintro i H3 _ ⟨sm, _⟩
      exact sm.seq hP
    · rintro i x H3 H4 hi ⟨sm, hD⟩ ⟨t, x1, x2, rfl, nt, rfl, e1, e2⟩
      cases e1
      obtain ⟨hi2, rfl⟩ := getm e2
      have smt : Same H3 (upd H3 t (.tup [.int (i : Nat), .int out[i]])) := same_upd nt
      have ht : (upd H3 t (.tup [.int (i : Nat), .int out[i]])) t = some (.tup [.int (i : Nat), .int out[i]]) := upd_same
      generalize upd H3 t (.tup [.int (i : Nat), .int out[i]]) = H4 at smt ht
      have sm4 := sm.trans smt
      refine ⟨t, _, rfl, .inl (.inl ht), rfl, _, _, rfl, _, _, rfl, rfl, rfl, tYes_of ?_⟩
      refine ⟨_, rfl, _, rfl, _, rfl, p2, _, rfl, sm4.seq hP, fun p5 np5 => ?_⟩
      have hc : cutV (out.map V.int) none (some (i : Int)) = (out.take i).map V.int := cut_take (by omega)
      rw [hc]
      have s5 : Same H4 (upd H4 p5 (.lst ((out.take i).map V.int))) := same_upd np5
      have h5 : (upd H4 p5 (.lst ((out.take i).map V.int))) p5 = some (.lst ((out.take i).map V.int)) := upd_same
      generalize upd H4 p5 (.lst ((out.take i).map V.int)) = H5 at s5 h5
      have sm5 := sm4.trans s5
      have hP5 : SqL K H5 p5 ((out.take i).map V.int) := .inl (.inl h5)
      have hD5 := s5 _ _ (smt _ _ hD)
      refine ⟨p5, rfl, ⟨_, hP5⟩, ?_⟩
      have hle : ∀ (j : Nat) (hj : j < (out.take i).length), out[i] - (out.take i)[j] = dif out[i] (out.take i)[j] := fun j hj => by
        have hj2 : j < i := by
          rw [List.length_take] at hj
          omega
        have hjl : j < out.length := by omega
        have h1 := List.pairwise_iff_getElem.mp asc j i hjl hi2 hj2
        rw [List.getElem_take]
        unfold dif
        omega
      have hlt : (dS (out.take i)).length ≤ 1000000 := Nat.le_trans (dS_le (n := 1000) (by rw [List.length_take]; omega)) (by decide)
      have npD : p5 ≠ D := fun z => by
        subst z
        rw [smt _ _ hD] at np5
        cases np5
      refine lc2_itI (walk_list (xs := (out.take i).map V.int)) (fun j H6 => Same H2 H6 ∧ H6 p5 = some (.lst ((out.take i).map V.int)) ∧ H6 D = some (.lst ((dS (out.take i) ++ ((out.take i).take j).map (dif out[i])).map V.int))) ?_ ?_ ?_ ?_
      · refine ⟨sm5, h5, ?_⟩
        rw [hD5, List.take_zero, List.map_nil, List.append_nil]
      · rintro j H6 _ ⟨_, h6, _⟩
        exact .inl (.inl h6)
      · rintro j y H6 H7 hj ⟨sm6, h6, hD6⟩ ⟨rfl, ey⟩
        obtain ⟨hj2, rfl⟩ := getm ey
        refine ⟨rfl, tYes_of ?_⟩
        refine ⟨_, rfl, _, rfl, _, _, rfl, rfl, _, hD6, ?_, same_mut sm6 nD, ?_, ?_⟩
        · rw [List.length_map, List.length_append, List.length_map, List.length_take]
          rw [sizeLine_eq]
          rw [List.length_take] at hj2 ⊢
          omega
        · rw [upd_ne npD]
          exact h6
        · rw [upd_same]
          show some (HO.lst (_ ++ [V.int (out[i] - (out.take i)[j])])) = _
          rw [hle j hj2, take_map_succ (dif out[i]) hj2, ← List.append_assoc, List.map_append (l₂ := [dif out[i] (out.take i)[j]])]
          rfl
      · rintro H6 ⟨sm6, _, hD6⟩
        refine ⟨sm6, ?_⟩
        rw [List.length_map, List.take_length] at hD6
        rw [hD6]
        have htk : out.take (i + 1) = out.take i ++ [out[i]] := by rw [List.take_add_one, List.getElem?_eq_getElem hi2]; rfl
        rw [htk, dS_snoc]
    · rintro H3 ⟨sm, hD⟩
      rw [List.length_map, List.take_length] at hD
      refine ⟨D, dS out, rfl, .inl (.inl hD), fun o2 p3 pm2 as2 np3 => ?_⟩
      rw [srt_eq pm2 as2]
      exact q p3 _ ((s12.trans sm).trans (same_upd np3)) (none_back (s12.trans sm) np3) upd_same
end
end OT

set_option Elab.async false
set_option linter.all false
set_option maxRecDepth 100000
set_option maxHeartbeats 2000000
namespace OT
open PySem PySem.Spec PyProof.Rows L2
def upL (ds : List Int) : List Ent := ds.map fun d => ([d], 1)
def loL (ds : List Int) : List Ent := ds.map fun d => ([-d], 1)
theorem ne_sing {f : Int → Int} {ds : List Int} : ∀ e ∈ ds.map (fun d => (([f d], 1) : Ent)), e.1 ≠ [] := fun e he => by
  obtain ⟨x, _, rfl⟩ := List.mem_map.mp he
  exact List.cons_ne_nil _ _
theorem tbl_ne {c : Int} {ds : List Int} : ∀ e ∈ tblL c ds, e.1 ≠ [] := fun e he => by
  rcases List.mem_cons.mp he with rfl | he
  · exact List.cons_ne_nil _ _
  · rcases List.mem_append.mp he with he | he
    · exact ne_sing (f := fun x => x) e he
    · exact ne_sing (f := fun x => -x) e he
section
variable {P : Program} {w : World} {K : PySem.W.Frag} {mg : Str → Option Value} {base : Heap}
def spTbl (K : PySem.W.Frag) : Sp := fun vs H Q _ => ∃ (a : Addr) (c : Int) (ns : List Int), vs = [.int c, .ref a] ∧ SqL K H a (ns.map V.int) ∧ ns.length ≤ 1000 ∧ wantRow H (tblL c ns) Q
theorem c_table_of_distances {f : Addr} {fd : FuncData} (D : C8.Def K mg "table_of_distances" s_table_of_distances f fd) (b : Binds K fd ["count", "differences"] []) (T : Bi mg) (c_gather : C8.Cal P w K mg base 2 "gather" (spGather K) []) : C8.Cal P w K mg base 3 "table_of_distances" (spTbl K) [] := by
  refine C8.cal0 D b .nil sc_table_of_distances (fun vs H Q E h => ?_) (fun cdv A outer s H vs Q E hr h => ?_)
  · obtain ⟨a, c, ns, rfl, _⟩ := h
    rfl
  · obtain ⟨a, c, ns, rfl, hS, hz, q⟩ := h
    refine ⟨_, (pss_cons (ps_setLc (i := 2) (own := [("difference", 4)]) (g := (gName 4)) (tt := tYes) rfl sc_table_of_distances.nd rfl rfl (sw_true rfl rfl rfl rfl) (pi_list (pv 1)) (blkOk_by (N := ["count", "differences", "upper", "lower", "difference"]) (sc := C8.fnScope s_table_of_distances) (by decide +kernel)) (fun _ _ _ _ _ => (pg_name (i := 4) sc_table_of_distances.nd rfl (Or.inl rfl))) (fun _ _ _ _ _ => pts_nil) (fun _ _ _ _ _ => (pe_tup (pa_cons (pe_tup (pa_cons (pv 4) pa_nil)) (pa_cons pe_int pa_nil)))))
  (pss_cons (ps_setLc (i := 3) (own := [("difference", 4)]) (g := (gName 4)) (tt := tYes) rfl sc_table_of_distances.nd rfl rfl (sw_true rfl rfl rfl rfl) (pi_list (pv 1)) (blkOk_by (N := ["count", "differences", "upper", "lower", "difference"]) (sc := C8.fnScope s_table_of_distances) (by decide +kernel)) (fun _ _ _ _ _ => (pg_name (i := 4) sc_table_of_distances.nd rfl (Or.inl rfl))) (fun _ _ _ _ _ => pts_nil) (fun _ _ _ _ _ => (pe_tup (pa_cons (pe_tup (pa_cons (pe_un un_neg (pv 4)) pa_nil)) (pa_cons pe_int pa_nil)))))
  (pss_one (ps_ret (C8.pe_c c_gather hr (by decide) (by rfl) (pa_cons (pe_lst (pa_cons (pe_tup (pa_cons (pe_tup (pa_cons pe_int pa_nil)) (pa_cons (pv 0) pa_nil))) (StX.pa_star (pv 2) (StX.pa_star (pv 3) pa_nil)))) pa_nil)))))), ?_⟩
    refine ⟨_, rfl, a, rfl, ⟨_, hS⟩, fun D1 nD1 => ?_⟩
    refine lc_list (K := K) (xs := ns.map V.int) (fun i H3 => Same H H3 ∧ ∃ ws, H3 D1 = some (.lst ws) ∧ Ents H3 ws (upL (ns.take i))) ⟨same_upd nD1, [], upd_same, .nil⟩ ?_ ?_ ?_
    · rintro i H3 _ ⟨sm, _⟩
      exact sm.seq hS
    · rintro i x H3 hx ⟨sm, ws, hD, hE⟩
      obtain ⟨hi, rfl⟩ := getm hx
      refine ⟨rfl, tYes_of ?_⟩
      refine ⟨_, rfl, (by show 1 ≤ sizeLine; decide), fun t1 n1 => ?_⟩
      have sA : Same H3 (upd H3 t1 (.tup [.int ( ns[i])])) := same_upd n1
      have h1 : (upd H3 t1 (.tup [.int ( ns[i])])) t1 = some (.tup [.int ( ns[i])]) := upd_same
      generalize upd H3 t1 (.tup [.int ( ns[i])]) = H4 at sA h1
      refine ⟨(by show 2 ≤ sizeLine; decide), fun t2 n2 => ?_⟩
      have sB : Same H4 (upd H4 t2 (.tup [.ref t1, .int 1])) := same_upd n2
      have hb : (upd H4 t2 (.tup [.ref t1, .int 1])) t2 = some (.tup [.ref t1, .int 1]) := upd_same
      generalize upd H4 t2 (.tup [.ref t1, .int 1]) = H5 at sB hb
      have sC := sA.trans sB
      have hl2 := hE.len
      refine ⟨ws, sC _ _ hD, ?_, same_mut (sm.trans sC) nD1, ws ++ [.ref t2], upd_same, ?_⟩
      · rw [hl2, show (upL (ns.take i)).length = (ns.take i).length from List.length_map _, List.length_take]
        exact small100k (by omega)
      · have e : upL (ns.take (i + 1)) = upL (ns.take i) ++ [([ ns[i]], 1)] := take_map_succ (fun x => ([ x], (1 : Int))) hi
        rw [e]
        refine ((hE.mono sC).updL (sC _ _ hD)).app (.cons (EntAt.updL (sC _ _ hD) ⟨t2, t1, rfl, hb, ?_⟩) .nil)
        exact sB _ _ h1
    rintro Ha ⟨smHa, wsHa, hDHa, hEHa⟩
    rw [List.length_map, List.take_length] at hEHa
    have hSa := smHa.seq hS
    refine ⟨_, rfl, a, rfl, ⟨_, hSa⟩, fun D2 nD2 => ?_⟩
    refine lc_list (K := K) (xs := ns.map V.int) (fun i H3 => Same Ha H3 ∧ ∃ ws, H3 D2 = some (.lst ws) ∧ Ents H3 ws (loL (ns.take i))) ⟨same_upd nD2, [], upd_same, .nil⟩ ?_ ?_ ?_
    · rintro i H3 _ ⟨sm, _⟩
      exact sm.seq hSa
    · rintro i x H3 hx ⟨sm, ws, hD, hE⟩
      obtain ⟨hi, rfl⟩ := getm hx
      refine ⟨rfl, tYes_of ?_⟩
      refine ⟨_, rfl, _, rfl, (by show 1 ≤ sizeLine; decide), fun t1 n1 => ?_⟩
      have sA : Same H3 (upd H3 t1 (.tup [.int (- ns[i])])) := same_upd n1
      have h1 : (upd H3 t1 (.tup [.int (- ns[i])])) t1 = some (.tup [.int (- ns[i])]) := upd_same
      generalize upd H3 t1 (.tup [.int (- ns[i])]) = H4 at sA h1
      refine ⟨(by show 2 ≤ sizeLine; decide), fun t2 n2 => ?_⟩
      have sB : Same H4 (upd H4 t2 (.tup [.ref t1, .int 1])) := same_upd n2
      have hb : (upd H4 t2 (.tup [.ref t1, .int 1])) t2 = some (.tup [.ref t1, .int 1]) := upd_same
      generalize upd H4 t2 (.tup [.ref t1, .int 1]) = H5 at sB hb
      have sC := sA.trans sB
      have hl2 := hE.len
      refine ⟨ws, sC _ _ hD, ?_, same_mut (sm.trans sC) nD2, ws ++ [.ref t2], upd_same, ?_⟩
      · rw [hl2, show (loL (ns.take i)).length = (ns.take i).length from List.length_map _, List.length_take]
        exact small100k (by omega)
      · have e : loL (ns.take (i + 1)) = loL (ns.take i) ++ [([- ns[i]], 1)] := take_map_succ (fun x => ([- x], (1 : Int))) hi
        rw [e]
        refine ((hE.mono sC).updL (sC _ _ hD)).app (.cons (EntAt.updL (sC _ _ hD) ⟨t2, t1, rfl, hb, ?_⟩) .nil)
        exact sB _ _ h1
    rintro Hb ⟨smHb, wsHb, hDHb, hEHb⟩
    rw [List.length_map, List.take_length] at hEHb
    have hD1 := smHb _ _ hDHa
    have hE1 := hEHa.mono smHb
    have sAB := smHa.trans smHb
    have l1 := hE1.len
    have l2 := hEHb.len
    rw [show (upL ns).length = ns.length from List.length_map _] at l1
    rw [show (loL ns).length = ns.length from List.length_map _] at l2
    refine ⟨(by show 1 ≤ sizeLine; decide), fun t1 n1 => ?_⟩
    have sA : Same Hb (upd Hb t1 (.tup [.int 0])) := same_upd n1
    have h1 : (upd Hb t1 (.tup [.int 0])) t1 = some (.tup [.int 0]) := upd_same
    generalize upd Hb t1 (.tup [.int 0]) = H4 at sA h1
    refine ⟨_, rfl, (by show 2 ≤ sizeLine; decide), fun t2 n2 => ?_⟩
    have sB : Same H4 (upd H4 t2 (.tup [.ref t1, .int c])) := same_upd n2
    have hb : (upd H4 t2 (.tup [.ref t1, .int c])) t2 = some (.tup [.ref t1, .int c]) := upd_same
    generalize upd H4 t2 (.tup [.ref t1, .int c]) = H5 at sB hb
    have sC := sA.trans sB
    have sT := sAB.trans sC
    refine ⟨_, rfl, D1, wsHa, rfl, .inr (.inl (.inl (sC _ _ hD1))), _, rfl, D2, wsHb, rfl, .inr (.inl (.inl (sC _ _ hDHb))), ?_, fun p4 np4 => ?_⟩
    · show (V.ref t2 :: (wsHa ++ (wsHb ++ []))).length ≤ sizeLine
      rw [List.append_nil, List.length_cons, List.length_append]
      exact Nat.le_of_lt (small100k (by omega))
    have s4 : Same H5 (upd H5 p4 (.lst (V.ref t2 :: (wsHa ++ (wsHb ++ []))))) := same_upd np4
    refine ⟨p4, V.ref t2 :: (wsHa ++ wsHb), tblL c ns, rfl, ⟨.inl (.inl (by rw [upd_same, List.append_nil])), .cons ⟨t2, t1, rfl, s4 _ _ hb, s4 _ _ (sB _ _ h1)⟩ ((hE1.mono (sC.trans s4)).app (hEHb.mono (sC.trans s4))), ?_⟩, tbl_ne, wantRow.mono (sT.trans s4) q⟩
    show (([0], c) :: (upL ns ++ loL ns)).length < sizeLine
    rw [List.length_cons, List.length_append, show (upL ns).length = ns.length from List.length_map _, show (loL ns).length = ns.length from List.length_map _]
    exact small100k (by omega)
end
end OT

set_option Elab.async false
set_option linter.all false
set_option maxRecDepth 100000
set_option maxHeartbeats 4000000
namespace OT
open PySem PySem.Spec PyProof.Rows L2
theorem InR.get {ds zs : List Int} (h : InR ds zs) {i : Nat} {z : Int} (hz : zs[i]? = some z) : ∃ d, (ds.map V.int)[i]? = some (.int d) ∧ 0 ≤ d ∧ d < z := by
  have hi : i < ds.length := by
    rw [h.1]
    exact (List.getElem?_eq_some_iff.mp hz).1
  have e : ds[i]? = some ds[i] := List.getElem?_eq_getElem hi
  exact ⟨ds[i], by rw [List.getElem?_map, e]; rfl, h.2 i _ z e hz⟩
section
variable {P : Program} {w : World} {K : PySem.W.Frag} {mg : Str → Option Value} {base : Heap}
def spPoints : Sp := fun vs H Q _ => ∃ (c o wd st : Int) (n : Nat), vs = [.int c, .int o, .int (n : Int), .int wd, .int st] ∧ n ≤ 100 ∧ (n : Int) ≤ wd + 1 ∧ 0 ≤ wd ∧ wd ≤ 100000 ∧
  ∀ (pts : List Int) p H', pts.length = n → pts.Nodup → Same H H' → H p = none → H' p = some (.lst (pts.map V.int)) → Q (.ref p) H'
theorem c__law_points {f : Addr} {fd : FuncData} (D : C8.Def K mg "_law_points" s__law_points f fd) (b : Binds K fd ["_law_cell_here", "_law_other", "_law_count", "_law_widest", "_law_start"] []) (T : Bi mg) (c__law_draws : C8.Cal P w K mg base 1 "_law_draws" (spDraws K) []) : C8.Cal P w K mg base 2 "_law_points" spPoints [] := by
  refine C8.cal0 D b .nil sc__law_points (fun vs H Q E h => ?_) (fun cdv A outer s H vs Q E hr h => ?_)
  · obtain ⟨c, o, wd, st, n, rfl, _⟩ := h
    rfl
  · obtain ⟨c, o, wd, st, n, rfl, hn, hw, hw0, hw1, q⟩ := h
    refine ⟨_, (pss_cons (ps_set (i := 5) sc__law_points.nd rfl (Or.inl rfl) (C8.pe_c c__law_draws hr (by decide) (by rfl) (pa_cons (pv 0) (pa_cons (pe_lc (own := [("_law_k", 10)]) (g := (gName 10)) (tt := tYes) rfl sc__law_points.nd (pi_range1 rfl T.n_range (pa_cons (pv 2) pa_nil)) (blkOk_by (N := ["_law_cell_here", "_law_other", "_law_count", "_law_widest", "_law_start", "_law_gaps", "_law_spots", "_law_left", "_law_point", "_law_points_here", "_law_k", "_law_extra"]) (sc := C8.fnScope s__law_points) (by decide +kernel)) (fun _ _ _ _ _ => (pg_name (i := 10) sc__law_points.nd rfl (Or.inl rfl))) (fun _ _ _ _ _ => pts_nil) (fun _ _ _ _ _ => (pe_op op_add (pv 3) pe_int))) pa_nil))))
  (pss_cons (ps_set (i := 6) sc__law_points.nd rfl (Or.inl rfl) (C8.pe_c c__law_draws hr (by decide) (by rfl) (pa_cons (pv 1) (pa_cons (pe_lc (own := [("_law_k", 10)]) (g := (gName 10)) (tt := tYes) rfl sc__law_points.nd (pi_range1 rfl T.n_range (pa_cons (pv 2) pa_nil)) (blkOk_by (N := ["_law_cell_here", "_law_other", "_law_count", "_law_widest", "_law_start", "_law_gaps", "_law_spots", "_law_left", "_law_point", "_law_points_here", "_law_k", "_law_extra"]) (sc := C8.fnScope s__law_points) (by decide +kernel)) (fun _ _ _ _ _ => (pg_name (i := 10) sc__law_points.nd rfl (Or.inl rfl))) (fun _ _ _ _ _ => pts_nil) (fun _ _ _ _ _ => (pe_op op_add (pv 10) pe_int))) pa_nil))))
  (pss_cons (ps_set (i := 7) sc__law_points.nd rfl (Or.inl rfl) (pe_op op_sub (pe_op op_add (pv 3) pe_int) (pv 2)))
  (pss_cons (ps_set (i := 8) sc__law_points.nd rfl (Or.inl rfl) (pv 4))
  (pss_cons (ps_set (i := 9) sc__law_points.nd rfl (Or.inl rfl) (pe_lst pa_nil))
  (pss_cons (ps_for PassesOwn.never rfl (pi_range1 rfl T.n_range (pa_cons (pv 2) pa_nil)) (pg_name (i := 10) sc__law_points.nd rfl (Or.inl rfl)) (C8.pss_cut (ps_if (pt_cmpR op_gt (pv 10) pe_int (nomark _)) (pss_cons (ps_set (i := 11) sc__law_points.nd rfl (Or.inl rfl) (pe_op op_mod (pe_callTy call_int1 (by rfl) T.n_int OT.b_int (pa_cons (pe_ix ix_list (pv 5) (pv 10) (fun _ _ => rfl)) pa_nil)) (pe_op op_add (pv 7) pe_int)))
  (pss_cons (ps_set (i := 7) sc__law_points.nd rfl (Or.inl rfl) (pe_op op_sub (pv 7) (pv 11)))
  (pss_one (ps_set (i := 8) sc__law_points.nd rfl (Or.inl rfl) (pe_op op_add (pe_op op_add (pv 8) pe_int) (pv 11)))))) pss_nil)
  (pss_one (ps_expr (pe_bm PySem.F.plainAttrs_list PySem.F.slot_list_insert PySem.F.type_list_insert mt_insert (pv 9) (pa_cons (pe_ix ix_list (pv 6) (pv 10) (fun _ _ => rfl)) (pa_cons (pv 8) pa_nil)))))))
  (pss_one (ps_ret (pv 9))))))))), ?_⟩
    refine ⟨_, rfl, _, rfl, _, rfl, by omega, by omega, fun p1 np1 => ?_⟩
    rw [Int.toNat_natCast]
    refine lc_range (lo := 0) (n := n) (fun i H3 => Same H H3 ∧ H3 p1 = some (.lst (List.replicate i (V.int (wd + 1))))) ⟨same_upd np1, upd_same⟩ ?_ ?_
    · rintro i H3 hi ⟨sm, hD⟩
      refine ⟨rfl, tYes_of ?_⟩
      refine ⟨_, rfl, _, _, rfl, rfl, _, hD, ?_, same_mut sm np1, ?_⟩
      · rw [List.length_replicate]
        exact small100k (by omega)
      · rw [upd_same, List.replicate_succ']
    rintro H1 ⟨s1, h1⟩
    have L1 : SqL K H1 p1 ((List.replicate n (wd + 1)).map V.int) := .inl (.inl (by rw [h1, List.map_replicate]))
    refine ⟨p1, List.replicate n (wd + 1), c, rfl, L1, by rw [List.length_replicate]; omega, fun z hz => ?_, fun gs H2 p2 hg s2 np2 hp2 => ?_⟩
    · rw [(List.mem_replicate.mp hz).2]
      omega
    have s12 := s1.trans s2
    clear h1 L1
    refine ⟨_, rfl, _, rfl, _, rfl, by omega, by omega, fun p3 np3 => ?_⟩
    rw [Int.toNat_natCast]
    refine lc_range (lo := 0) (n := n) (fun i H3 => Same H2 H3 ∧ H3 p3 = some (.lst ((List.range i).map fun (k : Nat) => V.int ((k : Int) + 1)))) ⟨same_upd np3, upd_same⟩ ?_ ?_
    · rintro i H3 hi ⟨sm, hD⟩
      refine ⟨rfl, tYes_of ?_⟩
      refine ⟨_, rfl, _, _, rfl, rfl, _, hD, ?_, same_mut sm np3, ?_⟩
      · rw [List.length_map, List.length_range]
        exact small100k (by omega)
      · rw [upd_same, List.range_succ, List.map_append, Int.zero_add]
        rfl
    rintro H3 ⟨s3, h3⟩
    have L3 : SqL K H3 p3 (((List.range n).map fun (k : Nat) => (k : Int) + 1).map V.int) := .inl (.inl (by rw [h3, List.map_map]; rfl))
    refine ⟨p3, (List.range n).map fun (k : Nat) => (k : Int) + 1, o, rfl, L3, by rw [List.length_map, List.length_range]; omega, fun z hz => ?_, fun ps H4 p4 hps s4 np4 hp4 => ?_⟩
    · obtain ⟨k, hk, rfl⟩ := List.mem_map.mp hz
      have := List.mem_range.mp hk
      omega
    have s14 := (s12.trans s3).trans s4
    have hp2' := s4 _ _ (s3 _ _ hp2)
    clear h3 L3
    refine ⟨_, rfl, _, _, rfl, rfl, _, rfl, _, _, rfl, rfl, _, rfl, by decide, fun p5 np5 => ?_⟩
    have s5 : Same H4 (upd H4 p5 (.lst [])) := same_upd np5
    have np5H : H p5 = none := none_back s14 np5
    refine ⟨_, rfl, _, rfl, by omega, by omega, ?_⟩
    rw [Int.toNat_natCast]
    refine for_range (lo := 0) (n := n) (fun i σ H6 => ∃ (lf pt : Int) (pts : List Int) (y10 y11 : Option V), σ = [some (.int c), some (.int o), some (.int (n : Int)), some (.int wd), some (.int st), some (.ref p2), some (.ref p4), some (.int lf), some (.int pt), some (.ref p5), y10, y11] ∧ Same H4 H6 ∧ H6 p5 = some (.lst (pts.map V.int)) ∧ pts.length = i ∧ pts.Nodup ∧ 0 ≤ lf ∧ (∀ x ∈ pts, x ≤ pt) ∧ (i = 0 → pts = [])) ?_ ?_ ?_
    · exact ⟨wd + 1 - n, st, [], none, none, rfl, s5, upd_same, rfl, List.nodup_nil, by omega, fun x hx => (by cases hx), fun _ => rfl⟩
    · rintro i σ H6 hi ⟨lf, pt, pts, y10, y11, rfl, sm, h6, hl, hnd, hlf, hpt, h0⟩
      obtain ⟨g, hg1, hg2, _⟩ := hg.get (i := i) (z := wd + 1) (by rw [List.getElem?_replicate, if_pos hi])
      obtain ⟨sp, hs1, hs2, hs3⟩ := hps.get (i := i) (z := (i : Int) + 1) (by rw [List.getElem?_map, List.getElem?_range hi]; rfl)
      have hp2'' := sm _ _ hp2'
      have hix5 : atI (gs.map V.int) ((0 : Int) + (i : Int)) = some (.int g) := by
        rw [Int.zero_add]
        exact atI_nat hg1
      have hix6 : atI (ps.map V.int) ((0 : Int) + (i : Int)) = some (.int sp) := by
        rw [Int.zero_add]
        exact atI_nat hs1
      have hp4' := sm _ _ hp4
      refine ⟨fun σ H7 => ∃ (lf pt : Int) (y11 : Option V), σ = [some (.int c), some (.int o), some (.int (n : Int)), some (.int wd), some (.int st), some (.ref p2), some (.ref p4), some (.int lf), some (.int pt), some (.ref p5), some (.int ((0 : Int) + (i : Int))), y11] ∧ H7 = H6 ∧ 0 ≤ lf ∧ ∀ x ∈ pts, x < pt, ?_, ?_⟩
      · refine ⟨_, rfl, _, _, rfl, rfl, _, rfl, ?_⟩
        refine iteD (fun hk => ?_) (fun hk => ?_)
        · have hm0 := Int.emod_nonneg g (show lf + 1 ≠ 0 by omega)
          have hm1 := Int.emod_lt_of_pos g (show 0 < lf + 1 by omega)
          refine ⟨_, rfl, _, rfl, p2, _, _, _, rfl, rfl, .inl (.inl hp2''), hix5, .inl ⟨g, rfl, _, rfl, _, _, rfl, rfl, _, _, rfl, rfl, by omega, ?_⟩⟩
          refine ⟨_, rfl, _, rfl, _, _, rfl, rfl, _, rfl, _, _, rfl, rfl, _, rfl, _, _, rfl, rfl, ?_⟩
          refine ⟨lf - g % (lf + 1), pt + 1 + g % (lf + 1), _, rfl, rfl, by omega, fun x hx => ?_⟩
          have := hpt x hx
          omega
        · refine ⟨lf, pt, _, rfl, rfl, hlf, fun x hx => ?_⟩
          rw [h0 (by omega)] at hx
          cases hx
      · rintro σ H7 ⟨lf, pt, y11, rfl, rfl, hlf, hpt⟩
        refine ⟨_, rfl, .inl ⟨rfl, _, .inl (.inl h6)⟩, _, rfl, _, rfl, p4, _, _, _, rfl, rfl, .inl (.inl hp4'), hix6, _, rfl, p5, _, sp, _, rfl, rfl, h6, ?_, hs2, by omega, ?_⟩
        · rw [List.length_map, hl]
          exact small100k (by omega)
        have hperm : (pts.take sp.toNat ++ [pt] ++ pts.drop sp.toNat).Perm (pt :: pts) := by
          rw [List.append_assoc]
          refine List.perm_append_comm.trans ?_
          show (pt :: (pts.drop sp.toNat ++ pts.take sp.toNat)).Perm _
          refine List.Perm.cons _ (List.perm_append_comm.trans ?_)
          rw [List.take_append_drop]
        refine ⟨lf, pt, pts.take sp.toNat ++ [pt] ++ pts.drop sp.toNat, _, _, rfl, same_mut sm np5, ?_, ?_, ?_, hlf, fun x hx => ?_, fun h => by omega⟩
        · rw [upd_same, List.map_append, List.map_append, List.map_take, List.map_drop]
          rfl
        · rw [hperm.length_eq, List.length_cons, hl]
        · refine hperm.nodup_iff.mpr (List.nodup_cons.mpr ⟨fun hx => ?_, hnd⟩)
          have := hpt pt hx
          omega
        · rcases List.mem_cons.mp (hperm.mem_iff.mp hx) with rfl | hx
          · exact Int.le_refl _
          · exact Int.le_of_lt (hpt x hx)
    · rintro σ H6 ⟨lf, pt, pts, y10, y11, rfl, sm, h6, hl, hnd, _⟩
      exact ⟨_, rfl, q pts p5 H6 hl hnd (s14.trans sm) np5H h6⟩
end
end OT

set_option Elab.async false
set_option linter.all false
set_option maxRecDepth 100000
set_option maxHeartbeats 4000000
namespace OT
open PySem PySem.Spec PyProof.Rows L2
theorem inV_int (x : Int) : ∀ l : List Int, inV (.int x) (l.map V.int) = decide (x ∈ l)
  | [] => rfl
  | y :: t => by
    have ih := inV_int x t
    show (eqV (.int y) (.int x) || inV (.int x) (t.map V.int)) = _
    rw [ih, show eqV (.int y) (.int x) = decide (y = x) from rfl, ← Bool.decide_or]
    refine decide_eq_decide.mpr ?_
    rw [List.mem_cons]
    exact or_congr_left eq_comm
theorem flat_ints : ∀ l : List Int, (l.map V.int).all flatV = true
  | [] => rfl
  | _ :: t => flat_ints t
section
variable {P : Program} {w : World} {K : PySem.W.Frag} {mg : Str → Option Value} {base : Heap}
def spRep : Sp := fun vs H Q _ => ∃ (c : Int) (a : Addr) (xs : List Int) (t : Nat), vs = [.int c, .ref a, .int (t : Int)] ∧ H a = some (.lst (xs.map V.int)) ∧ 0 < xs.length ∧ xs.length ≤ 100 ∧ t ≤ 10 ∧
  ∀ (pts : List Int) p H', pts.length = xs.length + t → Same H H' → H p = none → H' p = some (.lst (pts.map V.int)) → Q (.ref p) H'
theorem c__law_repeated {f : Addr} {fd : FuncData} (D : C8.Def K mg "_law_repeated" s__law_repeated f fd) (b : Binds K fd ["_law_cell_here", "_law_points_here", "_law_times_here"] []) (T : Bi mg) (c__law_draws : C8.Cal P w K mg base 1 "_law_draws" (spDraws K) []) : C8.Cal P w K mg base 2 "_law_repeated" spRep [] := by
  refine C8.cal0 D b .nil sc__law_repeated (fun vs H Q E h => ?_) (fun cdv A outer s H vs Q E hr h => ?_)
  · obtain ⟨c, a, xs, t, rfl, _⟩ := h
    rfl
  · obtain ⟨c, a, xs, t, rfl, ha, hx0, hx, ht, q⟩ := h
    refine ⟨_, (pss_cons (ps_set (i := 3) sc__law_repeated.nd rfl (Or.inl rfl) (C8.pe_c c__law_draws hr (by decide) (by rfl) (pa_cons (pv 0) (pa_cons (pe_lc (own := [("_law_k", 5)]) (g := (gName 5)) (tt := tYes) rfl sc__law_repeated.nd (pi_range1 rfl T.n_range (pa_cons (pe_op op_mul pe_int (pv 2)) pa_nil)) (blkOk_by (N := ["_law_cell_here", "_law_points_here", "_law_times_here", "_law_draws_here", "_law_found", "_law_k", "_law_at", "_law_later"]) (sc := C8.fnScope s__law_repeated) (by decide +kernel)) (fun _ _ _ _ _ => (pg_name (i := 5) sc__law_repeated.nd rfl (Or.inl rfl))) (fun _ _ _ _ _ => pts_nil) (fun _ _ _ _ _ => pe_int)) pa_nil))))
  (pss_cons (ps_set (i := 4) sc__law_repeated.nd rfl (Or.inl rfl) (pe_callTy call_list_of (by rfl) T.n_list OT.b_list (pa_cons (pv 1) pa_nil)))
  (pss_cons (ps_for PassesOwn.never rfl (pi_range1 rfl T.n_range (pa_cons (pv 2) pa_nil)) (pg_name (i := 5) sc__law_repeated.nd rfl (Or.inl rfl)) (pss_cons (ps_set (i := 6) sc__law_repeated.nd rfl (Or.inl rfl) (pe_op op_mod (pe_callTy call_int1 (by rfl) T.n_int OT.b_int (pa_cons (pe_ix ix_list (pv 3) (pe_op op_mul pe_int (pv 5)) (fun _ _ => rfl)) pa_nil)) (pe_callB call_len_seq (by rfl) T.n_len OT.b_len (pa_cons (pv 4) pa_nil))))
  (pss_cons (ps_set (i := 7) sc__law_repeated.nd rfl (Or.inl rfl) (pe_op op_add (pe_op op_add (pv 6) pe_int) (pe_op op_mod (pe_callTy call_int1 (by rfl) T.n_int OT.b_int (pa_cons (pe_ix ix_list (pv 3) (pe_op op_add (pe_op op_mul pe_int (pv 5)) pe_int) (fun _ _ => rfl)) pa_nil)) (pe_op op_sub (pe_callB call_len_seq (by rfl) T.n_len OT.b_len (pa_cons (pv 4) pa_nil)) (pv 6)))))
  (pss_one (ps_expr (pe_bm PySem.F.plainAttrs_list PySem.F.slot_list_insert PySem.F.type_list_insert mt_insert (pv 4) (pa_cons (pv 7) (pa_cons (pe_ix ix_list (pv 4) (pv 6) (fun _ _ => rfl)) pa_nil))))))))
  (pss_one (ps_ret (pv 4)))))), ?_⟩
    refine ⟨_, rfl, _, rfl, _, _, rfl, rfl, .inl ⟨by decide, by decide⟩, _, rfl, ?_⟩
    refine ⟨by omega, by omega, fun p1 np1 => ?_⟩
    rw [show ((2 : Int) * (t : Int)).toNat = 2 * t by omega]
    refine lc_range (lo := 0) (n := 2 * t) (fun i H3 => Same H H3 ∧ H3 p1 = some (.lst (List.replicate i (V.int 41)))) ⟨same_upd np1, upd_same⟩ ?_ ?_
    · rintro i H3 hi ⟨sm, hD⟩
      refine ⟨rfl, tYes_of ?_⟩
      refine ⟨_, hD, ?_, same_mut sm np1, ?_⟩
      · rw [List.length_replicate]
        exact small100k (by omega)
      · rw [upd_same, List.replicate_succ']
    rintro H1 ⟨s1, h1⟩
    have L1 : SqL K H1 p1 ((List.replicate (2 * t) (41 : Int)).map V.int) := .inl (.inl (by rw [h1, List.map_replicate]))
    refine ⟨p1, List.replicate (2 * t) 41, c, rfl, L1, by rw [List.length_replicate]; omega, fun z hz => ?_, fun gs H2 p2 hg s2 np2 hp2 => ?_⟩
    · rw [(List.mem_replicate.mp hz).2]
      decide
    have s12 := s1.trans s2
    clear h1 L1
    refine ⟨_, rfl, a, _, rfl, .inl (.inl (.inl (s12 _ _ ha))), fun p4 np4 => ?_⟩
    have s4 : Same H2 (upd H2 p4 (.lst (xs.map V.int))) := same_upd np4
    have np4H : H p4 = none := none_back s12 np4
    refine ⟨_, rfl, _, rfl, by omega, by omega, ?_⟩
    rw [Int.toNat_natCast]
    refine for_range (lo := 0) (n := t) (fun i σ H6 => ∃ (pts : List Int) (y5 y6 y7 : Option V), σ = [some (.int c), some (.ref a), some (.int (t : Int)), some (.ref p2), some (.ref p4), y5, y6, y7] ∧ Same H2 H6 ∧ H6 p4 = some (.lst (pts.map V.int)) ∧ pts.length = xs.length + i) ?_ ?_ ?_
    · exact ⟨xs, none, none, none, rfl, s4, upd_same, rfl⟩
    · rintro i σ H6 hi ⟨pts, y5, y6, y7, rfl, sm, h6, hl⟩
      obtain ⟨g, hg1, hg2, _⟩ := hg.get (i := 2 * i) (z := 41) (by rw [List.getElem?_replicate, if_pos (by omega)])
      obtain ⟨g', hg1', hg2', _⟩ := hg.get (i := 2 * i + 1) (z := 41) (by rw [List.getElem?_replicate, if_pos (by omega)])
      have hp2' := sm _ _ hp2
      have ha : atI (gs.map V.int) ((2 : Int) * ((0 : Int) + (i : Int))) = some (.int g) := by
        rw [show (2 : Int) * ((0 : Int) + (i : Int)) = ((2 * i : Nat) : Int) by omega]
        exact atI_nat hg1
      have hb : atI (gs.map V.int) ((2 : Int) * ((0 : Int) + (i : Int)) + 1) = some (.int g') := by
        rw [show (2 : Int) * ((0 : Int) + (i : Int)) + 1 = ((2 * i + 1 : Nat) : Int) by omega]
        exact atI_nat hg1'
      have L2 : SqL K H6 p2 (gs.map V.int) := .inl (.inl hp2')
      have L4 : SqL K H6 p4 (pts.map V.int) := .inl (.inl h6)
      have hlen : ((pts.map V.int).length : Int) = (pts.length : Int) := by rw [List.length_map]
      have hpos : (0 : Int) < ((pts.map V.int).length : Int) := by omega
      have hm0 := Int.emod_nonneg g (show ((pts.map V.int).length : Int) ≠ 0 by omega)
      have hm1 := Int.emod_lt_of_pos g hpos
      refine ⟨_, rfl, _, rfl, _, _, rfl, rfl, .inl ⟨by decide, by decide⟩, p2, _, _, _, rfl, rfl, L2, ha, .inl ⟨g, rfl, _, rfl, p4, _, rfl, .inl L4, _, _, rfl, rfl, hpos, ?_⟩⟩
      have em : ∃ m, m = g % ((pts.map V.int).length : Int) := ⟨_, rfl⟩
      obtain ⟨m, em⟩ := em
      rw [← em] at hm0 hm1
      have hpos2 : (0 : Int) < ((pts.map V.int).length : Int) - m := by omega
      have hk0 := Int.emod_nonneg g' (show ((pts.map V.int).length : Int) - m ≠ 0 by omega)
      have hk1 := Int.emod_lt_of_pos g' hpos2
      have ek : ∃ k, k = g' % (((pts.map V.int).length : Int) - m) := ⟨_, rfl⟩
      obtain ⟨k, ek⟩ := ek
      rw [← ek] at hk0 hk1
      subst em
      subst ek
      refine ⟨_, rfl, _, _, rfl, rfl, _, rfl, _, rfl, _, _, rfl, rfl, .inl ⟨by decide, by decide⟩, _, _, rfl, rfl, p2, _, _, _, rfl, rfl, L2, hb, .inl ⟨g', rfl, _, rfl, p4, _, rfl, .inl L4, _, rfl, _, _, rfl, rfl, _, _, rfl, rfl, hpos2, ?_⟩⟩
      obtain ⟨v, hv, _⟩ := atI_int (ns := pts) hm0 (by omega)
      refine ⟨_, _, rfl, rfl, _, rfl, .inl ⟨rfl, _, .inl (.inl h6)⟩, _, rfl, _, rfl, _, rfl, p4, _, _, _, rfl, rfl, L4, hv, p4, _, _, _, rfl, rfl, h6, ?_, by omega, by omega, ?_⟩
      · rw [List.length_map]
        exact small100k (by omega)
      refine ⟨pts.take (g % ((pts.map V.int).length : Int) + 1 + g' % (((pts.map V.int).length : Int) - g % ((pts.map V.int).length : Int))).toNat ++ [v] ++ pts.drop (g % ((pts.map V.int).length : Int) + 1 + g' % (((pts.map V.int).length : Int) - g % ((pts.map V.int).length : Int))).toNat, _, _, _, rfl, same_mut sm np4, ?_, ?_⟩
      · rw [upd_same, List.map_append, List.map_append, List.map_take, List.map_drop]
        rfl
      · rw [List.length_append, List.length_append, List.length_take, List.length_drop, List.length_singleton]
        omega
    · rintro σ H6 ⟨pts, y5, y6, y7, rfl, sm, h6, hl⟩
      exact ⟨_, rfl, q pts p4 H6 hl (s12.trans sm) np4H h6⟩
def spFirst (K : PySem.W.Frag) : Sp := fun vs H Q _ => ∃ (a : Addr) (ns : List Int), vs = [.ref a] ∧ SqL K H a (ns.map V.int) ∧ ns.length ≤ 1000 ∧
  (∀ i, fr ns = some i → ∀ H', Same H H' → Q (.int (i : Nat)) H') ∧ (fr ns = none → ∀ H', Same H H' → Q (.int (-1)) H')
theorem c__law_first_repeated {f : Addr} {fd : FuncData} (D : C8.Def K mg "_law_first_repeated" s__law_first_repeated f fd) (b : Binds K fd ["_law_points_here"] []) (T : Bi mg) : C8.Cal P w K mg base 1 "_law_first_repeated" (spFirst K) [] := by
  refine C8.cal0 D b .nil sc__law_first_repeated (fun vs H Q E h => ?_) (fun cdv A outer s H vs Q E hr h => ?_)
  · obtain ⟨a, ns, rfl, _⟩ := h
    rfl
  · obtain ⟨a, ns, rfl, hS, hz, qI, qN⟩ := h
    refine ⟨_, (pss_cons (ps_for PassesOwn.never rfl (pi_range1 rfl T.n_range (pa_cons (pe_callB call_len_seq (by rfl) T.n_len OT.b_len (pa_cons (pv 0) pa_nil)) pa_nil)) (pg_name (i := 1) sc__law_first_repeated.nd rfl (Or.inl rfl)) (pss_one (ps_if (pt_cmpR op_in_seq (pe_ix ix_list (pv 0) (pv 1) (fun _ _ => rfl)) (pe_slice sl_list (pv 0) po_none (po_some (pv 1))) rfl) (pss_one (ps_ret (pv 1))) pss_nil)))
  (pss_one (ps_ret (pe_un un_neg pe_int)))), ?_⟩
    refine ⟨_, rfl, a, _, rfl, .inl hS, _, rfl, by omega, by rw [List.length_map]; omega, ?_⟩
    rw [Int.toNat_natCast, List.length_map]
    refine for_range (lo := 0) (n := ns.length) (fun i σ H2 => ∃ y1, σ = [some (.ref a), y1] ∧ Same H H2 ∧ frA (ns.take i) i (ns.drop i) = fr ns) ⟨none, rfl, Same.refl _, rfl⟩ ?_ ?_
    · rintro i σ H2 hi ⟨y1, rfl, sm, e⟩
      rw [drop_consI hi] at e
      have htk : ns.take (i + 1) = ns.take i ++ [ns[i]] := by rw [List.take_add_one, List.getElem?_eq_getElem hi]; rfl
      have hS2 := sm.seq hS
      have hix : atI (ns.map V.int) ((0 : Int) + (i : Int)) = some (.int ns[i]) := by
        rw [Int.zero_add]
        exact atI_nat (by rw [List.getElem?_map, List.getElem?_eq_getElem hi]; rfl)
      have hc : cutV (ns.map V.int) none (some ((0 : Int) + (i : Int))) = (ns.take i).map V.int := by
        rw [Int.zero_add]
        exact cut_take (by omega)
      refine ⟨_, rfl, _, rfl, a, _, _, _, rfl, rfl, hS2, hix, _, rfl, _, rfl, _, rfl, a, _, rfl, hS2, fun p np => ?_⟩
      rw [hc]
      have s3 : Same H2 (upd H2 p (.lst ((ns.take i).map V.int))) := same_upd np
      refine ⟨p, _, rfl, .inl (.inl (.inl upd_same)), rfl, flat_ints _, _, rfl, ?_⟩
      show if inV (.int ns[i]) ((ns.take i).map V.int) = true then _ else _
      rw [inV_int]
      refine iteD (fun h1 => ?_) (fun h1 => ?_)
      · rw [frA_hit h1] at e
        refine ⟨_, rfl, ?_⟩
        have := qI i e.symm _ (sm.trans s3)
        rw [Int.zero_add]
        exact this
      · rw [frA_miss h1] at e
        refine ⟨_, rfl, sm.trans s3, ?_⟩
        rw [htk]
        exact e
    · rintro σ H2 ⟨y1, rfl, sm, e⟩
      rw [List.take_length, List.drop_length] at e
      exact ⟨_, rfl, qN e.symm H2 sm⟩
def spDistL (K : PySem.W.Frag) : Sp := fun vs H Q _ => ∃ (a : Addr) (ns : List Int), vs = [.ref a] ∧ SqL K H a (ns.map V.int) ∧ ns.length ≤ 1000 ∧
  ∀ p H', Same H H' → H p = none → H' p = some (.lst ((srt (dS ns)).map V.int)) → Q (.ref p) H'
theorem c__law_distances {f : Addr} {fd : FuncData} (D : C8.Def K mg "_law_distances" s__law_distances f fd) (b : Binds K fd ["_law_points_here"] []) (T : Bi mg) : C8.Cal P w K mg base 1 "_law_distances" (spDistL K) [] := by
  refine C8.cal0 D b .nil sc__law_distances (fun vs H Q E h => ?_) (fun cdv A outer s H vs Q E hr h => ?_)
  · obtain ⟨a, ns, rfl, _⟩ := h
    rfl
  · obtain ⟨a, ns, rfl, hS, hz, q⟩ := h
    refine ⟨_, (pss_cons (ps_set (i := 1) sc__law_distances.nd rfl (Or.inl rfl) (pe_lst pa_nil))
  (pss_cons (ps_for PassesOwn.never rfl (pi_range1 rfl T.n_range (pa_cons (pe_callB call_len_seq (by rfl) T.n_len OT.b_len (pa_cons (pv 0) pa_nil)) pa_nil)) (pg_name (i := 2) sc__law_distances.nd rfl (Or.inl rfl)) (pss_one (ps_for PassesOwn.never rfl (pi_range1 rfl T.n_range (pa_cons (pv 2) pa_nil)) (pg_name (i := 3) sc__law_distances.nd rfl (Or.inl rfl)) (pss_one (ps_expr (pe_bm PySem.F.plainAttrs_list PySem.F.slot_list_append PySem.F.type_list_append mt_append (pv 1) (pa_cons (pe_op op_sub (pe_callB (call_max2 rfl) (by rfl) T.n_max OT.b_max (pa_cons (pe_ix ix_list (pv 0) (pv 2) (fun _ _ => rfl)) (pa_cons (pe_ix ix_list (pv 0) (pv 3) (fun _ _ => rfl)) pa_nil))) (pe_callB (call_min2 rfl) (by rfl) T.n_min OT.b_min (pa_cons (pe_ix ix_list (pv 0) (pv 2) (fun _ _ => rfl)) (pa_cons (pe_ix ix_list (pv 0) (pv 3) (fun _ _ => rfl)) pa_nil)))) pa_nil)))))))
  (pss_one (ps_ret (pe_callB cr_sortedI (by rfl) T.n_sorted OT.b_sorted (pa_cons (pv 1) pa_nil)))))), ?_⟩
    refine ⟨by decide, fun D nD => ?_⟩
    have s1 : Same H (upd H D (.lst [])) := same_upd nD
    refine ⟨_, rfl, a, _, rfl, .inl (s1.seq hS), _, rfl, by omega, by rw [List.length_map]; omega, ?_⟩
    rw [Int.toNat_natCast, List.length_map]
    refine for_range (lo := 0) (n := ns.length) (fun i σ H2 => ∃ y2 y3, σ = [some (.ref a), some (.ref D), y2, y3] ∧ Same H H2 ∧ H2 D = some (.lst ((dS (ns.take i)).map V.int))) ⟨none, none, rfl, s1, upd_same⟩ ?_ ?_
    · rintro i σ H2 hi ⟨y2, y3, rfl, sm, hD⟩
      refine ⟨_, rfl, _, rfl, by omega, by omega, ?_⟩
      rw [Int.zero_add, Int.toNat_natCast]
      have hlt : (dS (ns.take i)).length ≤ 1000000 := Nat.le_trans (dS_le (n := 1000) (by rw [List.length_take]; omega)) (by decide)
      have hil : (ns.take i).length = i := by
        rw [List.length_take]
        omega
      have hix : atI (ns.map V.int) (i : Int) = some (.int ns[i]) := atI_nat (by rw [List.getElem?_map, List.getElem?_eq_getElem hi]; rfl)
      refine for_range (lo := 0) (n := i) (fun j σ H3 => ∃ y3, σ = [some (.ref a), some (.ref D), some (.int (i : Int)), y3] ∧ Same H H3 ∧ H3 D = some (.lst ((dS (ns.take i) ++ ((ns.take i).take j).map (dif ns[i])).map V.int))) ⟨y3, rfl, sm, ?_⟩ ?_ ?_
      · rw [hD, List.take_zero, List.map_nil, List.append_nil]
      · rintro j σ H3 hj ⟨y3, rfl, sm3, hD3⟩
        have hjn : j < ns.length := by omega
        have hS3 := sm3.seq hS
        have hjx : atI (ns.map V.int) ((0 : Int) + (j : Int)) = some (.int ns[j]) := by
          rw [Int.zero_add]
          exact atI_nat (by rw [List.getElem?_map, List.getElem?_eq_getElem hjn]; rfl)
        have hd : (if ns[j] > ns[i] then ns[j] else ns[i]) - (if ns[j] < ns[i] then ns[j] else ns[i]) = dif ns[i] ns[j] := by
          unfold dif
          by_cases h1 : ns[j] > ns[i]
          · rw [if_pos h1, if_neg (by omega)]
            omega
          · rw [if_neg h1]
            by_cases h2 : ns[j] < ns[i]
            · rw [if_pos h2]
              omega
            · rw [if_neg h2]
              omega
        refine ⟨_, rfl, .inl ⟨rfl, _, .inl (.inl hD3)⟩, _, rfl, _, rfl, a, _, _, _, rfl, rfl, hS3, hix, _, rfl, _, rfl, a, _, _, _, rfl, rfl, hS3, hjx, _, _, rfl, _, rfl, _, rfl, a, _, _, _, rfl, rfl, hS3, hix, _, rfl, _, rfl, a, _, _, _, rfl, rfl, hS3, hjx, _, _, rfl, _, _, rfl, rfl, D, _, _, rfl, rfl, hD3, ?_, ?_⟩
        · rw [List.length_map, List.length_append, List.length_map, List.length_take, sizeLine_eq]
          omega
        · refine ⟨_, rfl, same_mut sm3 nD, ?_⟩
          rw [upd_same]
          show some (HO.lst (_ ++ [V.int ((if ns[j] > ns[i] then ns[j] else ns[i]) - (if ns[j] < ns[i] then ns[j] else ns[i]))])) = _
          rw [hd]
          have hj2 : j < (ns.take i).length := by omega
          rw [take_map_succ (dif ns[i]) hj2, ← List.append_assoc, List.map_append (l₂ := [dif ns[i] (ns.take i)[j]]), List.getElem_take]
          rfl
      · rintro σ H3 ⟨y3, rfl, sm3, hD3⟩
        refine ⟨_, _, rfl, sm3, ?_⟩
        have htk : ns.take (i + 1) = ns.take i ++ [ns[i]] := by rw [List.take_add_one, List.getElem?_eq_getElem hi]; rfl
        rw [hD3, htk, dS_snoc, List.take_take, Nat.min_self]
    · rintro σ H2 ⟨y2, y3, rfl, sm, hD⟩
      rw [List.take_length] at hD
      refine ⟨_, rfl, D, dS ns, rfl, .inl (.inl hD), fun o2 p3 pm2 as2 np3 => ?_⟩
      rw [srt_eq pm2 as2]
      exact q p3 _ (sm.trans (same_upd np3)) (none_back sm np3) upd_same
def spNums (K : PySem.W.Frag) : Sp := fun vs H Q _ => ∃ (a : Addr) (ns : List Int), vs = [.ref a] ∧ H a = some (.lst (ns.map V.int)) ∧ Q (.bl true) H
theorem c__law_is_numbers {f : Addr} {fd : FuncData} (D : C8.Def K mg "_law_is_numbers" s__law_is_numbers f fd) (b : Binds K fd ["_law_actual"] []) (T : Bi mg) (c__law_is_integer : C8.Cal P w K mg base 1 "_law_is_integer" spIsInt []) : C8.Cal P w K mg base 2 "_law_is_numbers" (spNums K) [] := by
  refine C8.cal0 D b .nil sc__law_is_numbers (fun vs H Q E h => ?_) (fun cdv A outer s H vs Q E hr h => ?_)
  · obtain ⟨a, ns, rfl, _⟩ := h
    rfl
  · obtain ⟨a, ns, rfl, ha, q⟩ := h
    refine ⟨_, (pss_cons (ps_if (pt_not (pt_val (pe_callB call_isi (by rfl) T.n_isinstance OT.b_isinstance (pa_cons (pv 0) (pa_cons (pe_bltn (v := .ty "list") (by rfl) T.n_list OT.b_list rfl) pa_nil))))) (pss_one (ps_ret pe_bl)) pss_nil)
  (pss_cons (ps_for PassesOwn.never rfl (pi_list (pv 0)) (pg_name (i := 1) sc__law_is_numbers.nd rfl (Or.inl rfl)) (pss_one (ps_if (pt_not (pt_val (C8.pe_c c__law_is_integer hr (by decide) (by rfl) (pa_cons (pv 1) pa_nil)))) (pss_one (ps_ret pe_bl)) pss_nil)))
  (pss_one (ps_ret pe_bl)))), ?_⟩
    refine ⟨_, rfl, _, _, _, _, _, rfl, .ty _, .base (.lst ha), kit_ty kb_ll, _, rfl, ?_⟩
    refine iteF ?_
    have hS : SqL K H a (ns.map V.int) := .inl (.inl ha)
    refine ⟨_, rfl, a, rfl, ⟨_, hS⟩, ?_⟩
    refine for_list (K := K) (xs := ns.map V.int) (fun i σ H2 => ∃ y1, σ = [some (.ref a), y1] ∧ H2 = H) ⟨none, rfl, rfl⟩ ?_ ?_ ?_
    · rintro i σ H2 _ ⟨_, _, rfl⟩
      exact hS
    · rintro i x σ H2 hx ⟨y1, rfl, rfl⟩
      obtain ⟨hi, rfl⟩ := getm hx
      refine ⟨_, rfl, _, rfl, _, rfl, iteF ?_⟩
      exact ⟨_, rfl, rfl⟩
    · rintro σ H2 ⟨y1, rfl, rfl⟩
      exact q
end
end OT

set_option Elab.async false
set_option linter.all false
set_option maxRecDepth 100000
set_option maxHeartbeats 4000000
namespace OT
open PySem PySem.Spec PyProof.Rows L2
def rIsX (K : PySem.W.Frag) (a : Addr) (c : Value) (d : Option Addr) : List V → Hp → VK → Prop := fun xs H Q => ∃ (C dd : Addr) (fs : List (Str × V)) (y : V) (u : Value) (b : Bool),
    xs = [.ref a, y] ∧ c = .ref C ∧ d = some dd ∧ PySem.W.OtCls K C ∧ H dd = some (.xd fs) ∧ ClsV y u ∧ PySem.W.kitOne K (.ref C) u = some b ∧ Q (.bl b) H
theorem call_isA {X : Cx} {a : Addr} {oe : Obj} {c : Value} {d : Option Addr} (hp : (a, oe) ∈ X.pn) (zc : Zc c d oe) (fld : ∃ fs, oe.data = .fields fs) : CallR X (.builtin "isinstance") (rIsX X.K a c d) := call_isX (p := (a, oe)) hp zc fld
def tCallE (sp : SpE) (a : Addr) (c : Value) (d : Option Addr) (t : TA) : TE := fun σ H Q => t σ H fun vs H1 => sp a c d vs H1 Q E0
theorem pe_callA {X : Cx} {a : Addr} {oe : Obj} {c : Value} {d : Option Addr} {k : Nat} {f : Addr} {fd : FuncData} {ps : List Str} {sp : SpE} {x : Str} {q pos : Pos} {e : Expr} {es : List Expr} {t : TA} (F : FnE X.prog X.w X.K X.mg X.base k f fd ps sp) (hr : L2H.RoomH k X.A) (hp : (a, oe) ∈ X.pn) (zc : Zc c d oe) (fld : ∃ fs, oe.data = .fields fs) (hg : Gl X x) (hm : X.mg x = some (.ref f)) (hk : PySem.W.keepIn X.K (.ref f) = true) (hb : Binds X.K fd ps [])
    (ha : PA X (e :: es) t) (hdb : (x == ("__debug__" : Str)) = false := by decide) (he : starEach (e :: es) X.env = (false, eval e X.env) :: starEach es X.env := by rfl) (hpl : (backTo pos (starEach es X.env)).any (·.1) = false := by rfl) :
    PE X (.Call (.Name x q) (e :: es) [] pos) (tCallE sp a c d t) := pe_callE (p := (a, oe)) F hr hp zc fld hg hm hk hb ha hdb he hpl
def tFA (K : PySem.W.Frag) (a : Addr) (c : Value) (d : Option Addr) (n : Str) (te : TE) : TE := fun σ H Q => te σ H fun y H1 => ∃ (C dd : Addr) (fs : List (Str × V)) (v : V), y = .ref a ∧ c = .ref C ∧ d = some dd ∧ PySem.W.OtCls K C ∧ PySem.W.findIn K (.ref C) n = some none ∧ H1 dd = some (.xd fs) ∧ fs.lookup n = some v ∧ Q v H1
theorem pe_fA {X : Cx} {a : Addr} {oe : Obj} {c : Value} {d : Option Addr} {n : Str} {e : Expr} {te : TE} {pos : Pos} (hp : (a, oe) ∈ X.pn) (zc : Zc c d oe) (fld : ∃ fs, oe.data = .fields fs) (he : PE X e te) (hb : attributeBase e n X.env (eval e X.env) = eval e X.env := by rfl) :
    PE X (.Attribute e n pos) (tFA X.K a c d n te) := pe_fX (p := (a, oe)) hp zc fld he hb
section
variable {P : Program} {w : World} {K : PySem.W.Frag} {mg : Str → Option Value} {base : Heap}
structure HeldF (K : PySem.W.Frag) (H : Hp) (C dd : Addr) (c : Value) (d : Option Addr) (fs : List (Str × V)) : Prop where
  c : c = .ref C
  d : d = some dd
  t : PySem.W.OtCls K C
  h : H dd = some (.xd fs)
def spErrE (K : PySem.W.Frag) (B : Addr) : SpE := fun a c d vs H Q _ => ∃ (C dd : Addr) (fs : List (Str × V)) (nm : Str), vs = [.ref a, .str nm] ∧ HeldF K H C dd c d fs ∧ PySem.W.findIn K (.ref C) "word" = some none ∧ fs.lookup ("word" : Str) = some (V.str nm) ∧
  PySem.W.kitOne K (.ref C) (.ref B) = some true ∧ PySem.W.kitOne K (.ref C) (.type "ValueError") = some true ∧ Q (.bl true) H
theorem h__law_is_error {f B : Addr} {fd : FuncData} (D : C8.Def K mg "_law_is_error" s__law_is_error f fd) (T : Bi mg) (gB : mg "TableError" = some (.ref B)) (nV : mg "ValueError" = none) : FnE P w K mg base 1 f fd ["_law_e", "_law_word"] (spErrE K B) := by
  refine fnE_of D.fn sc__law_is_error (fun a c d vs H Q E h => ?_) (fun cdv A outer s H vs Q p c d zc fld hr h => ?_)
  · obtain ⟨C, dd, fs, nm, rfl, _⟩ := h
    rfl
  · obtain ⟨C, dd, fs, nm, rfl, hh, nw, lw, kB, kV, q⟩ := h
    have hp : p ∈ (L2H.cxH L2.CX0 P w K mg base ["_law_e", "_law_word"] "_law_is_error" (C8.fnScope s__law_is_error) f cdv A outer s H E0 p).pn := List.mem_cons_self
    refine ⟨_, pss_one (ps_ret (pe_and (pe_callB (call_isX hp zc fld) (by rfl) T.n_isinstance OT.b_isinstance (pa_cons (pv 0) (pa_cons (pe_glob (v := .ref B) (by rfl) gB rfl) pa_nil)))
      (pe_and (pe_callB (call_isX hp zc fld) (by rfl) T.n_isinstance OT.b_isinstance (pa_cons (pv 0) (pa_cons (pe_bltn (v := .ty "ValueError") (by rfl) nV OT.b_ValueError rfl) pa_nil)))
      (pe_and (pe_callB call_isi (by rfl) T.n_isinstance OT.b_isinstance (pa_cons (pe_fX hp zc fld (pv 0)) (pa_cons (pe_bltn (v := .ty "str") (by rfl) T.n_str OT.b_str rfl) pa_nil)))
      (pe_one (pe_cmpR op_eq (pe_fX hp zc fld (pv 0)) (pv 1) (nomark _))))))), ?_⟩
    refine ⟨_, rfl, C, dd, fs, _, _, _, rfl, hh.c, hh.d, hh.t, hh.h, .own B, kB, _, rfl, ?_⟩
    refine iteT ?_
    refine ⟨_, rfl, C, dd, fs, _, _, _, rfl, hh.c, hh.d, hh.t, hh.h, .ty _, kV, _, rfl, ?_⟩
    refine iteT ?_
    refine ⟨_, rfl, C, dd, fs, _, rfl, hh.c, hh.d, hh.t, nw, hh.h, lw, _, _, _, _, _, rfl, .ty _, .base (.str nm), kit_ty kb_ss, _, rfl, ?_⟩
    refine iteT ?_
    refine ⟨_, rfl, C, dd, fs, _, rfl, hh.c, hh.d, hh.t, nw, hh.h, lw, _, rfl, rfl, ?_⟩
    rw [decide_eq_true rfl]
    exact q
structure KitE (K : PySem.W.Frag) (B C : Addr) : Prop where
  b : PySem.W.kitOne K (.ref C) (.ref B) = some true
  v : PySem.W.kitOne K (.ref C) (.type "ValueError") = some true
theorem roomH_m {k : Nat} {A : Around} {v : Option Value} (r : Room k A) : L2H.RoomH k (A.mark v) := ⟨r.dp, r.un⟩
def spIntE : SpE := fun _ _ _ vs H Q _ => ∃ i : Int, vs = [.int i] ∧ Q (.bl true) H
theorem h__law_is_integer {f : Addr} {fd : FuncData} (D : C8.Def K mg "_law_is_integer" s__law_is_integer f fd) (T : Bi mg) : FnE P w K mg base 1 f fd ["_law_actual"] spIntE := by
  refine fnE_of D.fn sc__law_is_integer (fun a c d vs H Q E h => ?_) (fun cdv A outer s H vs Q p c d zc fld hr h => ?_)
  · obtain ⟨i, rfl, _⟩ := h
    rfl
  · obtain ⟨i, rfl, q⟩ := h
    refine ⟨_, (pss_one (ps_ret (pe_and (pe_callB call_isi (by rfl) T.n_isinstance OT.b_isinstance (pa_cons (pv 0) (pa_cons (pe_bltn (v := .ty "int") (by rfl) T.n_int OT.b_int rfl) pa_nil))) (pe_one (pe_not (pe_callB call_isi (by rfl) T.n_isinstance OT.b_isinstance (pa_cons (pv 0) (pa_cons (pe_bltn (v := .ty "bool") (by rfl) T.n_bool OT.b_bool rfl) pa_nil)))))))), ?_⟩
    refine ⟨_, rfl, _, _, _, _, _, rfl, .ty _, .base (.int i), kit_ty kb_ii, _, rfl, ?_⟩
    refine iteT ?_
    exact ⟨_, rfl, _, _, _, _, _, rfl, .ty _, .base (.int i), kit_ty kb_ib, _, rfl, q⟩
/-- what isinstance says of a DuplicatePoint -/
structure DupF (K : PySem.W.Frag) (C Cp Tx Ed Ln Nf M Z : Addr) : Prop where
  d : PySem.W.kitOne K (.ref C) (.ref C) = some true
  p : PySem.W.kitOne K (.ref C) (.ref Cp) = some false
  t : PySem.W.kitOne K (.ref C) (.ref Tx) = some false
  e : PySem.W.kitOne K (.ref C) (.ref Ed) = some false
  l : PySem.W.kitOne K (.ref C) (.ref Ln) = some false
  n : PySem.W.kitOne K (.ref C) (.ref Nf) = some false
  m : PySem.W.kitOne K (.ref C) (.ref M) = some false
  z : PySem.W.kitOne K (.ref C) (.ref Z) = some false
def spDupE (K : PySem.W.Frag) (C : Addr) : SpE := fun a c d vs H Q _ => ∃ (dd : Addr) (n : Nat), vs = [.ref a] ∧ HeldF K H C dd c d (errD n) ∧ Q (.bl true) H
theorem h__law_is_repeated {f B C Cp Tx Ed Ln Nf M Z f1 f2 : Addr} {fd fd1 fd2 : FuncData} (D : C8.Def K mg "_law_is_repeated" s__law_is_repeated f fd) (T : Bi mg) (tC : OtErr K C "DuplicatePoint") (hni : PySem.W.findIn K (.ref C) "index" = some none) (kC : KitE K B C)
    (gC : mg "DuplicatePoint" = some (.ref C)) (gCp : mg "BadPlace" = some (.ref Cp)) (gTx : mg "BadText" = some (.ref Tx)) (gEd : mg "BadEdge" = some (.ref Ed)) (gLn : mg "BadLine" = some (.ref Ln)) (gNf : mg "NotAFactor" = some (.ref Nf)) (gM : mg "MixedDimensions" = some (.ref M)) (gZ : mg "ZeroRow" = some (.ref Z)) (k : DupF K C Cp Tx Ed Ln Nf M Z)
    (D1 : C8.Def K mg "_law_is_error" s__law_is_error f1 fd1) (b1 : Binds K fd1 ["_law_e", "_law_word"] []) (F1 : FnE P w K mg base 1 f1 fd1 ["_law_e", "_law_word"] (spErrE K B))
    (D2 : C8.Def K mg "_law_is_integer" s__law_is_integer f2 fd2) (b2 : Binds K fd2 ["_law_actual"] []) (F2 : FnE P w K mg base 1 f2 fd2 ["_law_actual"] spIntE) : FnE P w K mg base 2 f fd ["_law_e"] (spDupE K C) := by
  refine fnE_of D.fn sc__law_is_repeated (fun a c d vs H Q E h => ?_) (fun cdv A outer s H vs Q p c d zc fld hr h => ?_)
  · obtain ⟨dd, n, rfl, _⟩ := h
    rfl
  · obtain ⟨dd, n, rfl, hh, q⟩ := h
    have hp : p ∈ (L2H.cxH L2.CX0 P w K mg base ["_law_e"] "_law_is_repeated" (C8.fnScope s__law_is_repeated) f cdv A outer s H E0 p).pn := List.mem_cons_self
    refine ⟨_, pss_cons (ps_if (PW.pt (pw_or (pt_not (pt_val (pe_callB (call_isX hp zc fld) (by rfl) T.n_isinstance OT.b_isinstance (pa_cons (pv 0) (pa_cons (pe_glob (v := .ref C) (by rfl) gC rfl) pa_nil)))))
        (pw_or (pt_not (pt_val (pe_callE F1 hr hp zc fld (by rfl) D1.mgf D1.kp b1 (pa_cons (pv 0) (pa_cons pe_str pa_nil)))))
        (pw_or1 (pt_not (pt_val (pe_callE F2 hr hp zc fld (by rfl) D2.mgf D2.kp b2 (pa_cons (pe_fX hp zc fld (pv 0)) pa_nil)))))))) (pss_one (ps_ret pe_bl)) pss_nil)
      (pss_cons (ps_if (PW.pt (pw_or (pt_val (pe_callB (call_isX hp zc fld) (by rfl) T.n_isinstance OT.b_isinstance (pa_cons (pv 0) (pa_cons (pe_glob (v := .ref Cp) (by rfl) gCp rfl) pa_nil)))) (pw_or (pt_val (pe_callB (call_isX hp zc fld) (by rfl) T.n_isinstance OT.b_isinstance (pa_cons (pv 0) (pa_cons (pe_glob (v := .ref Tx) (by rfl) gTx rfl) pa_nil)))) (pw_or (pt_val (pe_callB (call_isX hp zc fld) (by rfl) T.n_isinstance OT.b_isinstance (pa_cons (pv 0) (pa_cons (pe_glob (v := .ref Ed) (by rfl) gEd rfl) pa_nil)))) (pw_or1 (pt_val (pe_callB (call_isX hp zc fld) (by rfl) T.n_isinstance OT.b_isinstance (pa_cons (pv 0) (pa_cons (pe_glob (v := .ref Ln) (by rfl) gLn rfl) pa_nil))))))))) (pss_one (ps_ret pe_bl)) pss_nil)
      (pss_one (ps_ret (pe_and (pe_not (pe_callB (call_isX hp zc fld) (by rfl) T.n_isinstance OT.b_isinstance (pa_cons (pv 0) (pa_cons (pe_glob (v := .ref Nf) (by rfl) gNf rfl) pa_nil)))) (pe_and (pe_not (pe_callB (call_isX hp zc fld) (by rfl) T.n_isinstance OT.b_isinstance (pa_cons (pv 0) (pa_cons (pe_glob (v := .ref M) (by rfl) gM rfl) pa_nil)))) (pe_one (pe_not (pe_callB (call_isX hp zc fld) (by rfl) T.n_isinstance OT.b_isinstance (pa_cons (pv 0) (pa_cons (pe_glob (v := .ref Z) (by rfl) gZ rfl) pa_nil)))))))))), ?_⟩
    refine ⟨_, rfl, C, dd, _, _, _, _, rfl, hh.c, hh.d, hh.t, hh.h, .own C, k.d, _, rfl, ?_⟩
    refine iteF ?_
    refine ⟨_, rfl, C, dd, _, "DuplicatePoint", rfl, hh, tC.nw, rfl, kC.b, kC.v, _, rfl, ?_⟩
    refine iteF ?_
    refine ⟨_, rfl, C, dd, _, _, rfl, hh.c, hh.d, hh.t, hni, hh.h, rfl, _, rfl, _, rfl, ?_⟩
    refine iteF ?_
    refine ⟨_, rfl, C, dd, _, _, _, _, rfl, hh.c, hh.d, hh.t, hh.h, .own Cp, k.p, _, rfl, ?_⟩
    refine iteF ?_
    refine ⟨_, rfl, C, dd, _, _, _, _, rfl, hh.c, hh.d, hh.t, hh.h, .own Tx, k.t, _, rfl, ?_⟩
    refine iteF ?_
    refine ⟨_, rfl, C, dd, _, _, _, _, rfl, hh.c, hh.d, hh.t, hh.h, .own Ed, k.e, _, rfl, ?_⟩
    refine iteF ?_
    refine ⟨_, rfl, C, dd, _, _, _, _, rfl, hh.c, hh.d, hh.t, hh.h, .own Ln, k.l, _, rfl, ?_⟩
    refine iteF ?_
    refine ⟨_, rfl, C, dd, _, _, _, _, rfl, hh.c, hh.d, hh.t, hh.h, .own Nf, k.n, _, rfl, _, rfl, ?_⟩
    refine iteT ?_
    refine ⟨_, rfl, C, dd, _, _, _, _, rfl, hh.c, hh.d, hh.t, hh.h, .own M, k.m, _, rfl, _, rfl, ?_⟩
    refine iteT ?_
    refine ⟨_, rfl, C, dd, _, _, _, _, rfl, hh.c, hh.d, hh.t, hh.h, .own Z, k.z, _, rfl, ?_⟩
    exact q
end
end OT

set_option Elab.async false
set_option linter.all false
set_option maxRecDepth 100000
set_option maxHeartbeats 4000000
namespace OT
open PySem PySem.Spec PyProof.Rows L2
section
variable {P : Program} {w : World} {K : PySem.W.Frag} {mg : Str → Option Value} {base : Heap}
/-- what is told: the index of the first repeated one, or a list of what was asked -/
def spAsked (K : PySem.W.Frag) : Sp := fun vs H Q _ => ∃ (wh : Nat) (a : Addr) (ns : List Int), vs = [.int (wh : Int), .ref a] ∧ wh ≤ 1 ∧ H a = some (.lst (ns.map V.int)) ∧ ns.length ≤ 1000 ∧
  (∀ i, fr ns = some i → ∀ t H', Same H H' → H' t = some (.tup [.int (i : Nat)]) → Q (.ref t) H') ∧
  (fr ns = none → wh = 0 → ∀ p r ws H', Same H H' → H p = none → H r = none → H' p = some (.lst [.ref r]) → H' r = some (.lst ws) → Ents H' ws (ptL (srt ns)) → Q (.ref p) H') ∧
  (fr ns = none → wh = 1 → ∀ p r H', Same H H' → H p = none → H r = none → H' p = some (.lst [.ref r]) → H' r = some (.lst ((srt (dS ns)).map V.int)) → Q (.ref p) H')
theorem c__law_asked {f B C fA fD fX : Addr} {fd fdA fdD fdX : FuncData} (D : C8.Def K mg "_law_asked" s__law_asked f fd) (b : Binds K fd ["_law_which", "_law_points_here"] []) (T : Bi mg) (gB : mg "TableError" = some (.ref B)) (tC : OtErr K C "DuplicatePoint") (hni : PySem.W.findIn K (.ref C) "index" = some none) (eC : PySem.W.exmOne K (.ref C) (.ref B) = some true)
    (DA : C8.Def K mg "row_of_points" s_row_of_points fA fdA) (bA : Binds K fdA ["points"] []) (GA : FnOk P w K mg base (L2.CX P w) 5 fA fdA ["points"] (spRowPts K C))
    (DD : C8.Def K mg "distances" s_distances fD fdD) (bD : Binds K fdD ["points"] []) (GD : FnOk P w K mg base (L2.CX P w) 5 fD fdD ["points"] (spDist K C))
    (DX : C8.Def K mg "_law_is_repeated" s__law_is_repeated fX fdX) (bX : Binds K fdX ["_law_e"] []) (GX : FnE P w K mg base 2 fX fdX ["_law_e"] (spDupE K C)) : C8.Cal P w K mg base 6 "_law_asked" (spAsked K) [] := by
  refine C8.cal0 D b .nil sc__law_asked (fun vs H Q E h => ?_) (fun cdv A outer s H vs Q E hr h => ?_)
  · obtain ⟨wh, a, ns, rfl, _⟩ := h
    rfl
  · obtain ⟨wh, a, ns, rfl, hw, ha, hz, qE, qR, qD⟩ := h
    refine ⟨_, (pss_one (ps_try_as (i := 2) (tb := fun W => _) (ts := fun a cls d => _) (Wout := fun _ _ _ _ => False) rfl rfl sc__law_asked.nd rfl rfl ⟨rfl, by decide, Or.inl gB⟩ takes0 (fun W pn xe tk _ => (pss_cons (ps_if (pt_cmpR op_eq (pv 0) pe_int (nomark _)) (pss_one (ps_ret (pe_lst (pa_cons (pe_callS GA hr rfl DA.mgf DA.kp bA (fun σ => passAt tk σ) (pa_cons (pv 1) pa_nil)) pa_nil)))) pss_nil)   (pss_one (ps_ret (pe_lst (pa_cons (pe_callS GD hr rfl DD.mgf DD.kp bD (fun σ => passAt tk σ) (pa_cons (pv 1) pa_nil)) pa_nil)))))) (fun a oe cls d pn hz hf => by exact (pss_cons (ps_if (pt_not (pt_val (by exact pe_callA GX (roomH_m (hr.mono (by decide : 2 ≤ 5))) List.mem_cons_self hz hf (by rfl) DX.mgf DX.kp bX (pa_cons (pv 2) pa_nil)))) (pss_one (ps_ret (pe_tup pa_nil))) pss_nil)   (pss_one (ps_ret (pe_tup (pa_cons (by exact (show PE _ _ (tFA K a cls d "index" (tVar 2)) from pe_fA List.mem_cons_self hz hf (pv 2))) pa_nil)))))))), ?_⟩
    refine ⟨_, rfl, rfl, _, rfl, iteD (fun c => ?_) (fun c => ?_)⟩
    · have hw0 : wh = 0 := by
        have := V.int.inj c
        omega
      refine ⟨_, rfl, a, ns, rfl, .inl (.inl ha), hz, fun i hi dd H6 s6 hdd => ?_, fun hn p ws H6 s6 np hp hE => ?_⟩
      · refine ⟨true, eC, fun _ ea nea => ?_, fun h => by cases h⟩
        refine ⟨_, rfl, dd, i, rfl, ⟨rfl, rfl, tC.oc, hdd⟩, _, rfl, ?_⟩
        refine iteF ?_
        refine ⟨_, rfl, C, dd, _, _, rfl, rfl, rfl, tC.oc, hni, hdd, rfl, (by show 1 ≤ sizeLine; decide), fun t1 n1 => ?_⟩
        exact qE i hi t1 _ (s6.trans (same_upd n1)) upd_same
      · refine ⟨(by show 1 ≤ sizeLine; decide), fun p2 np2 => ?_⟩
        have s7 : Same H6 (upd H6 p2 (.lst [.ref p])) := same_upd np2
        exact qR hn hw0 p2 p ws _ (s6.trans s7) (none_back s6 np2) np upd_same (s7 _ _ hp) (hE.mono s7)
    · have hw1 : wh = 1 := by
        have : ¬ (V.int (wh : Int) = V.int 0) := c
        have : wh ≠ 0 := fun z => this (by rw [z]; rfl)
        omega
      refine ⟨_, rfl, a, ns, rfl, .inl (.inl ha), hz, fun i hi dd H6 s6 hdd => ?_, fun hn p H6 s6 np hp => ?_⟩
      · refine ⟨true, eC, fun _ ea nea => ?_, fun h => by cases h⟩
        refine ⟨_, rfl, dd, i, rfl, ⟨rfl, rfl, tC.oc, hdd⟩, _, rfl, ?_⟩
        refine iteF ?_
        refine ⟨_, rfl, C, dd, _, _, rfl, rfl, rfl, tC.oc, hni, hdd, rfl, (by show 1 ≤ sizeLine; decide), fun t1 n1 => ?_⟩
        exact qE i hi t1 _ (s6.trans (same_upd n1)) upd_same
      · refine ⟨(by show 1 ≤ sizeLine; decide), fun p2 np2 => ?_⟩
        have s7 : Same H6 (upd H6 p2 (.lst [.ref p])) := same_upd np2
        exact qD hn hw1 p2 p _ (s6.trans s7) (none_back s6 np2) np upd_same (s7 _ _ hp)
end
end OT

set_option Elab.async false
set_option linter.all false
set_option maxRecDepth 100000
set_option maxHeartbeats 4000000
namespace OT
open PySem PySem.Spec PyProof.Rows L2
theorem kb_lt : kitB "list" "tuple" = some false := by decide +kernel
theorem kb_tl : kitB "tuple" "list" = some false := by decide +kernel
/-- what was told, in the heap -/
def Told (H : Hp) (ns : List Int) (wh : Nat) (t : Addr) : Prop :=
  (∃ i, fr ns = some i ∧ H t = some (.tup [.int (i : Nat)])) ∨ (fr ns = none ∧ wh = 0 ∧ ∃ r ws, H t = some (.lst [.ref r]) ∧ H r = some (.lst ws) ∧ Ents H ws (ptL (srt ns))) ∨
    (fr ns = none ∧ wh = 1 ∧ ∃ r, H t = some (.lst [.ref r]) ∧ H r = some (.lst ((srt (dS ns)).map V.int)))
theorem Told.mono {H H' : Hp} {ns : List Int} {wh : Nat} {t : Addr} (s : Same H H') (h : Told H ns wh t) : Told H' ns wh t := by
  rcases h with ⟨i, h1, h2⟩ | ⟨h1, h2, r, ws, h3, h4, h5⟩ | ⟨h1, h2, r, h3, h4⟩
  · exact .inl ⟨i, h1, s _ _ h2⟩
  · exact .inr (.inl ⟨h1, h2, r, ws, s _ _ h3, s _ _ h4, h5.mono s⟩)
  · exact .inr (.inr ⟨h1, h2, r, s _ _ h3, s _ _ h4⟩)
theorem pt_row {ns : List Int} (h : fr ns = none) : RowN 1 (ptL (srt ns)) := by
  refine ⟨ptL_valid (srt_asc ns) ((srt_perm ns).nodup_iff.mpr (fr_nodup h)), by decide, by decide, fun e he => ?_⟩
  obtain ⟨x, _, rfl⟩ := List.mem_map.mp he
  rfl
section
variable {P : Program} {w : World} {K : PySem.W.Frag} {mg : Str → Option Value} {base : Heap}
def spGood : Sp := fun vs H Q _ => ∃ (wh : Nat) (t a : Addr) (ns : List Int), vs = [.int (wh : Int), .ref t, .ref a] ∧ wh ≤ 1 ∧ H a = some (.lst (ns.map V.int)) ∧ ns.length ≤ 1000 ∧ Told H ns wh t ∧ ∀ H', Same H H' → Q (.bl true) H'
theorem c__law_good {f : Addr} {fd : FuncData} (D : C8.Def K mg "_law_good" s__law_good f fd) (b : Binds K fd ["_law_which", "_law_told", "_law_points_here"] []) (T : Bi mg) (c__law_first_repeated : C8.Cal P w K mg base 1 "_law_first_repeated" (spFirst K) [])
    (c__law_same : C8.Cal P w K mg base 4 "_law_same" (spSame K) []) (c__law_is_numbers : C8.Cal P w K mg base 2 "_law_is_numbers" (spNums K) []) (c__law_distances : C8.Cal P w K mg base 1 "_law_distances" (spDistL K) []) : C8.Cal P w K mg base 5 "_law_good" spGood [] := by
  refine C8.cal0 D b .nil sc__law_good (fun vs H Q E h => ?_) (fun cdv A outer s H vs Q E hr h => ?_)
  · obtain ⟨wh, t, a, ns, rfl, _⟩ := h
    rfl
  · obtain ⟨wh, t, a, ns, rfl, hw, ha, hz, ht, q⟩ := h
    refine ⟨_, (pss_cons (ps_set (i := 3) sc__law_good.nd rfl (Or.inl rfl) (C8.pe_c c__law_first_repeated hr (by decide) (by rfl) (pa_cons (pv 2) pa_nil)))
  (pss_cons (ps_if (pt_cmpR op_ge (pv 3) pe_int (nomark _)) (pss_one (ps_ret (pe_and (pe_callB call_isi (by rfl) T.n_isinstance OT.b_isinstance (pa_cons (pv 1) (pa_cons (pe_bltn (v := .ty "tuple") (by rfl) T.n_tuple OT.b_tuple rfl) pa_nil))) (pe_one (pe_cmpR (op_eqD hr.units) (pv 1) (pe_tup (pa_cons (pv 3) pa_nil)) (nomark _)))))) pss_nil)
  (pss_cons (ps_if (pt_val (pe_callB call_isi (by rfl) T.n_isinstance OT.b_isinstance (pa_cons (pv 1) (pa_cons (pe_bltn (v := .ty "tuple") (by rfl) T.n_tuple OT.b_tuple rfl) pa_nil)))) (pss_one (ps_ret pe_bl)) pss_nil)
  (pss_cons (ps_if (pt_cmpR op_eq (pv 0) pe_int (nomark _)) (pss_one (ps_ret (C8.pe_c c__law_same hr (by decide) (by rfl) (pa_cons (pe_ix ix_list (pv 1) pe_int (fun _ _ => rfl)) (pa_cons (pe_lc (own := [("_law_point", 4)]) (g := (gName 4)) (tt := tYes) rfl sc__law_good.nd (pi_list (pe_callB (show CallR _ _ (rSortedI K) from cr_sortedI) (by rfl) T.n_sorted OT.b_sorted (pa_cons (pv 2) pa_nil))) (blkOk_by (N := ["_law_which", "_law_told", "_law_points_here", "_law_index", "_law_point"]) (sc := C8.fnScope s__law_good) (by decide +kernel)) (fun _ _ _ _ _ => (pg_name (i := 4) sc__law_good.nd rfl (Or.inl rfl))) (fun _ _ _ _ _ => pts_nil) (fun _ _ _ _ _ => (pe_tup (pa_cons (pe_tup (pa_cons (pv 4) pa_nil)) (pa_cons pe_int pa_nil))))) pa_nil))))) pss_nil)
  (pss_one (ps_ret (pe_and (C8.pe_c c__law_is_numbers hr (by decide) (by rfl) (pa_cons (pe_ix ix_list (pv 1) pe_int (fun _ _ => rfl)) pa_nil)) (pe_one (pe_cmpR (op_eqD hr.units) (pe_ix ix_list (pv 1) pe_int (fun _ _ => rfl)) (C8.pe_c c__law_distances hr (by decide) (by rfl) (pa_cons (pv 2) pa_nil)) (nomark _)))))))))), ?_⟩
    have hS : SqL K H a (ns.map V.int) := .inl (.inl ha)
    refine ⟨_, rfl, a, ns, rfl, hS, hz, fun i hi H1 s1 => ?_, fun hn H1 s1 => ?_⟩
    · rcases ht with ⟨j, hj, h2⟩ | ⟨h1, _⟩ | ⟨h1, _⟩
      · rw [hj] at hi
        cases hi
        refine ⟨_, rfl, _, _, rfl, rfl, _, rfl, iteD (fun _ => ?_) (fun z => absurd (by show (0 : Int) ≤ (i : Nat); omega) z)⟩
        refine ⟨_, rfl, _, _, _, _, _, rfl, .ty _, .base (.tup (s1 _ _ h2)), kit_ty kb_tt, _, rfl, ?_⟩
        refine iteT ?_
        refine ⟨_, rfl, _, rfl, (by show 1 ≤ sizeLine; decide), fun t2 nt2 => ?_⟩
        have s2 : Same H1 (upd H1 t2 (.tup [.int (i : Nat)])) := same_upd nt2
        have hsh : SeqAt.shaped (.tuple ([(i : Int)].map PyData.int)) = true := (DOk.pl [(i : Int)]).shaped (by decide)
        refine ⟨.tuple ([(i : Int)].map PyData.int), .tuple ([(i : Int)].map PyData.int), .tup (.inl (.inl ((s1.trans s2) _ _ h2))) (dp_ints [(i : Int)]), .tup (.inl (.inl upd_same)) (dp_ints [(i : Int)]), hsh, hsh, ?_⟩
        rw [eqvD hsh]
        exact q _ (s1.trans s2)
      · rw [h1] at hi
        cases hi
      · rw [h1] at hi
        cases hi
    · rcases ht with ⟨j, hj, h2⟩ | ⟨h1, hw0, r, ws, h2, h3, h4⟩ | ⟨h1, hw1, r, h2, h3⟩
      · rw [hj] at hn
        cases hn
      · refine ⟨_, rfl, _, _, rfl, rfl, _, rfl, iteD (fun z => absurd (show (0 : Int) ≤ -1 from z) (by decide)) (fun _ => ?_)⟩
        refine ⟨_, rfl, _, _, _, _, _, rfl, .ty _, .base (.lst (s1 _ _ h2)), kit_ty kb_lt, _, rfl, ?_⟩
        refine iteF ?_
        subst hw0
        refine ⟨_, rfl, rfl, _, rfl, iteT ?_⟩
        have hT1 : SqL K H1 t [.ref r] := .inl (.inl (s1 _ _ h2))
        refine ⟨_, rfl, t, _, 0, _, rfl, rfl, hT1, atI_nat (j := 0) rfl, _, rfl, a, ns, rfl, s1.seq hS, fun out p2 perm asc np2 => ?_⟩
        rw [srt_eq perm asc]
        clear perm asc
        have hl := srt_len ns
        have hrow := pt_row hn
        generalize srt ns = m at h4 hl hrow
        have s2 : Same H1 (upd H1 p2 (.lst (m.map V.int))) := same_upd np2
        have h2' : (upd H1 p2 (.lst (m.map V.int))) p2 = some (.lst (m.map V.int)) := upd_same
        generalize upd H1 p2 (.lst (m.map V.int)) = H2 at s2 h2'
        have s02 := s1.trans s2
        refine ⟨p2, rfl, ⟨_, .inl (.inl h2')⟩, fun D nD => ?_⟩
        refine lc_list (K := K) (xs := m.map V.int) (fun i H3 => Same H2 H3 ∧ ∃ ws, H3 D = some (.lst ws) ∧ Ents H3 ws (ptL (m.take i))) ⟨same_upd nD, [], upd_same, .nil⟩ ?_ ?_ ?_
        · rintro i H3 _ ⟨sm, _⟩
          exact .inl (.inl (sm _ _ h2'))
        · rintro i x H3 hx ⟨sm, ws, hD, hE⟩
          obtain ⟨hi, rfl⟩ := getm hx
          refine ⟨rfl, tYes_of ?_⟩
          refine ⟨_, rfl, (by show 1 ≤ sizeLine; decide), fun t1 n1 => ?_⟩
          have sA : Same H3 (upd H3 t1 (.tup [.int m[i]])) := same_upd n1
          have h1 : (upd H3 t1 (.tup [.int m[i]])) t1 = some (.tup [.int m[i]]) := upd_same
          generalize upd H3 t1 (.tup [.int m[i]]) = H4 at sA h1
          refine ⟨(by show 2 ≤ sizeLine; decide), fun t2 n2 => ?_⟩
          have sB : Same H4 (upd H4 t2 (.tup [.ref t1, .int 1])) := same_upd n2
          have hb : (upd H4 t2 (.tup [.ref t1, .int 1])) t2 = some (.tup [.ref t1, .int 1]) := upd_same
          generalize upd H4 t2 (.tup [.ref t1, .int 1]) = H5 at sB hb
          have sC := sA.trans sB
          have hl2 := hE.len
          refine ⟨ws, sC _ _ hD, ?_, same_mut (sm.trans sC) nD, ws ++ [.ref t2], upd_same, ?_⟩
          · rw [hl2, show (ptL (m.take i)).length = (m.take i).length from List.length_map _, List.length_take]
            exact small100k (by omega)
          · have e : ptL (m.take (i + 1)) = ptL (m.take i) ++ [([m[i]], 1)] := take_map_succ (fun x => ([x], (1 : Int))) hi
            rw [e]
            refine ((hE.mono sC).updL (sC _ _ hD)).app (.cons (EntAt.updL (sC _ _ hD) ⟨t2, t1, rfl, hb, ?_⟩) .nil)
            exact sB _ _ h1
        · rintro H3 ⟨sm, ws3, hD, hE⟩
          rw [List.length_map, List.take_length] at hE
          have s03 := s02.trans sm
          refine ⟨r, D, ws, ws3, ptL m, 1, rfl, s03 _ _ h3, h4.mono s03, hD, hE, hrow, ?_, q _ s03⟩
          rw [show (ptL m).length = m.length from List.length_map _]
          omega
      · refine ⟨_, rfl, _, _, rfl, rfl, _, rfl, iteD (fun z => absurd (show (0 : Int) ≤ -1 from z) (by decide)) (fun _ => ?_)⟩
        refine ⟨_, rfl, _, _, _, _, _, rfl, .ty _, .base (.lst (s1 _ _ h2)), kit_ty kb_lt, _, rfl, ?_⟩
        refine iteF ?_
        subst hw1
        refine ⟨_, rfl, rfl, _, rfl, iteF ?_⟩
        have hT1 : SqL K H1 t [.ref r] := .inl (.inl (s1 _ _ h2))
        refine ⟨_, rfl, t, _, 0, _, rfl, rfl, hT1, atI_nat (j := 0) rfl, r, _, rfl, s1 _ _ h3, _, rfl, ?_⟩
        refine iteT ?_
        refine ⟨_, rfl, t, _, 0, _, rfl, rfl, hT1, atI_nat (j := 0) rfl, _, rfl, a, ns, rfl, s1.seq hS, hz, fun p H2 s2 np hp => ?_⟩
        have s02 := s1.trans s2
        have hsh : SeqAt.shaped (.list ((srt (dS ns)).map PyData.int)) = true := (DOk.ints _).shaped (by decide)
        refine ⟨.list ((srt (dS ns)).map PyData.int), .list ((srt (dS ns)).map PyData.int), .lst (.inl (.inl (s02 _ _ h3))) (dp_ints _), .lst (.inl (.inl hp)) (dp_ints _), hsh, hsh, ?_⟩
        rw [eqvD hsh]
        exact q _ s02
end
end OT

set_option Elab.async false
set_option linter.all false
set_option maxRecDepth 100000
set_option maxHeartbeats 4000000
namespace OT
open PySem PySem.Spec PyProof.Rows L2
theorem sh_ints (ns : List Int) : SeqAt.shaped (.list (ns.map PyData.int)) = true := (DOk.ints ns).shaped (by decide)
theorem dp_lst {K : PySem.W.Frag} {H : Hp} {a : Addr} {ns : List Int} (h : H a = some (.lst (ns.map V.int))) : Dp K H (.ref a) (.list (ns.map PyData.int)) := .lst (.inl (.inl h)) (dp_ints ns)
section
variable {P : Program} {w : World} {K : PySem.W.Frag} {mg : Str → Option Value} {base : Heap}
/-- what was told, and new: as one case -/
def ToldN (H4 H5 : Hp) (ns : List Int) (wh : Nat) (t : Addr) : Prop := Told H5 ns wh t ∧ ((∃ xs, H5 t = some (.tup xs)) ∨ (∃ r ws, H5 t = some (.lst [.ref r]) ∧ H5 r = some (.lst ws) ∧ ws.length ≤ 1000000 ∧ H4 t = none ∧ H4 r = none))
theorem told3 {H4 : Hp} {ns : List Int} {wh : Nat} {Q : VK} (hz : ns.length ≤ 1000) (k : ∀ t H5, Same H4 H5 → ToldN H4 H5 ns wh t → Q (.ref t) H5) :
  (∀ i, fr ns = some i → ∀ t H', Same H4 H' → H' t = some (.tup [.int (i : Nat)]) → Q (.ref t) H') ∧
  (fr ns = none → wh = 0 → ∀ p r ws H', Same H4 H' → H4 p = none → H4 r = none → H' p = some (.lst [.ref r]) → H' r = some (.lst ws) → Ents H' ws (ptL (srt ns)) → Q (.ref p) H') ∧
  (fr ns = none → wh = 1 → ∀ p r H', Same H4 H' → H4 p = none → H4 r = none → H' p = some (.lst [.ref r]) → H' r = some (.lst ((srt (dS ns)).map V.int)) → Q (.ref p) H') := by
  refine ⟨fun i hi t H' s h => k t H' s ⟨.inl ⟨i, hi, h⟩, .inl ⟨_, h⟩⟩, fun h0 hw p r ws H' s np nr hp hr hE => k p H' s ⟨.inr (.inl ⟨h0, hw, r, ws, hp, hr, hE⟩), .inr ⟨r, ws, hp, hr, ?_, np, nr⟩⟩, fun h0 hw p r H' s np nr hp hr => k p H' s ⟨.inr (.inr ⟨h0, hw, r, hp, hr⟩), .inr ⟨r, _, hp, hr, ?_, np, nr⟩⟩⟩
  · rw [hE.len, show (ptL (srt ns)).length = (srt ns).length from List.length_map _, srt_len]
    omega
  · rw [List.length_map, srt_len]
    exact Nat.le_trans (dS_le hz) (by decide)
def spBoth : Sp := fun vs H Q _ => ∃ (a : Addr) (ns : List Int), vs = [.ref a] ∧ H a = some (.lst (ns.map V.int)) ∧ ns.length ≤ 1000 ∧ ∀ H', Same H H' → Q (.bl true) H'
theorem c__law_both {f : Addr} {fd : FuncData} (D : C8.Def K mg "_law_both" s__law_both f fd) (b : Binds K fd ["_law_points_here"] []) (T : Bi mg) (c__law_asked : C8.Cal P w K mg base 6 "_law_asked" (spAsked K) []) (c__law_good : C8.Cal P w K mg base 5 "_law_good" spGood []) : C8.Cal P w K mg base 7 "_law_both" spBoth [] := by
  refine C8.cal0 D b .nil sc__law_both (fun vs H Q E h => ?_) (fun cdv A outer s H vs Q E hr h => ?_)
  · obtain ⟨a, ns, rfl, _⟩ := h
    rfl
  · obtain ⟨a, ns, rfl, ha, hz, q⟩ := h
    refine ⟨_, (pss_cons (ps_for PassesOwn.never rfl (pi_range1 rfl T.n_range (pa_cons pe_int pa_nil)) (pg_name (i := 1) sc__law_both.nd rfl (Or.inl rfl)) (pss_one (ps_for PassesOwn.never rfl (pi_range1 rfl T.n_range (pa_cons pe_int pa_nil)) (pg_name (i := 2) sc__law_both.nd rfl (Or.inl rfl)) (pss_cons (ps_set (i := 3) sc__law_both.nd rfl (Or.inl rfl) (pe_callTy call_list_of (by rfl) T.n_list OT.b_list (pa_cons (pv 0) pa_nil)))
  (C8.pss_cut (ps_set (i := 4) sc__law_both.nd rfl (Or.inl rfl) (C8.pe_c c__law_asked hr (by decide) (by rfl) (pa_cons (pv 1) (pa_cons (pv 3) pa_nil))))
  (pss_cons (ps_if (PW.pt (pw_or (pt_cmpR (op_neD hr.units) (pv 3) (pv 0) (nomark _)) (pw_or1 (pt_not (pt_val (C8.pe_c c__law_good hr (by decide) (by rfl) (pa_cons (pv 1) (pa_cons (pv 4) (pa_cons (pv 0) pa_nil))))))))) (pss_one (ps_ret pe_bl)) pss_nil)
  (pss_cons (ps_expr (pe_bm PySem.F.plainAttrs_list PySem.F.slot_list_append PySem.F.type_list_append mt_append (pv 3) (pa_cons pe_int pa_nil)))
  (pss_one (ps_if (pt_val (pe_callB call_isi (by rfl) T.n_isinstance OT.b_isinstance (pa_cons (pv 4) (pa_cons (pe_bltn (v := .ty "list") (by rfl) T.n_list OT.b_list rfl) pa_nil)))) (pss_cons (ps_expr (pe_bm PySem.F.plainAttrs_list PySem.F.slot_list_append PySem.F.type_list_append mt_append (pe_ix ix_list (pv 4) pe_int (fun _ _ => rfl)) (pa_cons (pe_tup (pa_cons (pe_tup (pa_cons pe_int pa_nil)) (pa_cons pe_int pa_nil))) pa_nil)))
  (pss_one (ps_if (pt_cmpR (op_neD hr.units) (pv 3) (pe_op op_cat (pv 0) (pe_lst (pa_cons pe_int pa_nil))) (nomark _)) (pss_one (ps_ret pe_bl)) pss_nil))) pss_nil)))))))))
  (pss_one (ps_ret pe_bl))), ?_⟩
    refine ⟨2, rfl, by decide, by decide, ?_⟩
    refine for_range (lo := 0) (n := 2) (fun i σ H2 => ∃ y1 y2 y3 y4, σ = [some (.ref a), y1, y2, y3, y4] ∧ Same H H2) ⟨none, none, none, none, rfl, Same.refl _⟩ ?_ ?_
    · rintro wh σ H2 hwh ⟨y1, y2, y3, y4, rfl, s2⟩
      refine ⟨2, rfl, by decide, by decide, ?_⟩
      refine for_range (lo := 0) (n := 2) (fun i σ H2 => ∃ y2 y3 y4, σ = [some (.ref a), some (.int ((0 : Int) + (wh : Int))), y2, y3, y4] ∧ Same H H2) ⟨y2, y3, y4, rfl, s2⟩ ?_ ?_
      · rintro tu σ H3 htu ⟨y2, y3, y4, rfl, s3⟩
        have ha3 := s3 _ _ ha
        refine ⟨_, rfl, a, _, rfl, .inl (.inl (.inl ha3)), fun p np => ?_⟩
        have s4 : Same H3 (upd H3 p (.lst (ns.map V.int))) := same_upd np
        have hp : (upd H3 p (.lst (ns.map V.int))) p = some (.lst (ns.map V.int)) := upd_same
        generalize upd H3 p (.lst (ns.map V.int)) = H4 at s4 hp
        have npH : H p = none := none_back s3 np
        have s04 := s3.trans s4
        have hq := told3 (H4 := H4) (ns := ns) (wh := wh) (Q := fun v H5 => ∃ t, v = .ref t ∧ Same H4 H5 ∧ ToldN H4 H5 ns wh t) hz fun t H5 s n => ⟨t, rfl, s, n⟩
        refine ⟨fun σ H5 => ∃ t, σ = [some (.ref a), some (.int ((0 : Int) + (wh : Int))), some (.int ((0 : Int) + (tu : Int))), some (.ref p), some (.ref t)] ∧ Same H4 H5 ∧ ToldN H4 H5 ns wh t, ?_, ?_⟩
        · refine ⟨_, rfl, _, rfl, wh, p, ns, by rw [Int.zero_add]; rfl, by omega, hp, hz, fun i hi t H' s h => ?_, fun h0 hw p r ws H' s np nr hp hr hE => ?_, fun h0 hw p r H' s np nr hp hr => ?_⟩
          · obtain ⟨t, e, k⟩ := hq.1 i hi t H' s h
            cases e
            exact ⟨_, rfl, k⟩
          · obtain ⟨t, e, k⟩ := hq.2.1 h0 hw p r ws H' s np nr hp hr hE
            cases e
            exact ⟨_, rfl, k⟩
          · obtain ⟨t, e, k⟩ := hq.2.2 h0 hw p r H' s np nr hp hr
            cases e
            exact ⟨_, rfl, k⟩
        rintro σ H5 ⟨t, rfl, s5, ht, hn⟩
        have s05 := s04.trans s5
        refine ⟨_, rfl, _, rfl, _, _, dp_lst (s5 _ _ hp), dp_lst (s05 _ _ ha), sh_ints ns, sh_ints ns, _, rfl, ?_⟩
        rw [eqvD (sh_ints ns)]
        refine iteF ?_
        refine ⟨_, rfl, _, rfl, _, rfl, wh, t, a, ns, by rw [Int.zero_add]; rfl, by omega, s05 _ _ ha, hz, ht, fun H6 s6 => ?_⟩
        refine ⟨_, rfl, ?_⟩
        refine iteF ?_
        have s06 := s05.trans s6
        have hp6 := s6 _ _ (s5 _ _ hp)
        refine ⟨_, rfl, .inl ⟨rfl, _, .inl (.inl hp6)⟩, p, _, _, rfl, rfl, hp6, ?_, ?_⟩
        · rw [List.length_map]
          exact small100k (by omega)
        have sM := same_mut (o := .lst (ns.map V.int ++ [V.int 3])) s06 npH
        rcases hn with ⟨xs, ht5⟩ | ⟨r, ws, ht5, hr5, hwl, nt4, nr4⟩
        · have ht6 := s6 _ _ ht5
          have htp : t ≠ p := ne_lst ht6 hp6
          have ht7 : (upd H6 p (.lst (ns.map V.int ++ [V.int 3]))) t = some (.tup xs) := by
            rw [upd_ne htp]
            exact ht6
          generalize upd H6 p (.lst (ns.map V.int ++ [V.int 3])) = H7 at sM ht7
          refine ⟨_, rfl, _, _, _, _, _, rfl, .ty _, .base (.tup ht7), kit_ty kb_tl, _, rfl, ?_⟩
          refine iteF ?_
          exact ⟨_, _, _, rfl, sM⟩
        · have htp : t ≠ p := fun z => by
            rw [z, hp] at nt4
            cases nt4
          have hrp : r ≠ p := fun z => by
            rw [z, hp] at nr4
            cases nr4
          have ht7 : (upd H6 p (.lst (ns.map V.int ++ [V.int 3]))) t = some (.lst [.ref r]) := by
            rw [upd_ne htp]
            exact s6 _ _ ht5
          have hr7 : (upd H6 p (.lst (ns.map V.int ++ [V.int 3]))) r = some (.lst ws) := by
            rw [upd_ne hrp]
            exact s6 _ _ hr5
          have hp7 : (upd H6 p (.lst (ns.map V.int ++ [V.int 3]))) p = some (.lst (ns.map V.int ++ [V.int 3])) := upd_same
          generalize upd H6 p (.lst (ns.map V.int ++ [V.int 3])) = H7 at sM ht7 hr7 hp7
          have hT7 : SqL K H7 t [.ref r] := .inl (.inl ht7)
          have nrH : H r = none := none_back s04 nr4
          refine ⟨_, rfl, _, _, _, _, _, rfl, .ty _, .base (.lst ht7), kit_ty kb_ll, _, rfl, ?_⟩
          refine iteT ?_
          refine ⟨_, rfl, t, _, 0, _, rfl, rfl, hT7, atI_nat (j := 0) rfl, .inl ⟨rfl, _, .inl (.inl hr7)⟩, (by show 1 ≤ sizeLine; decide), fun t1 n1 => ⟨(by show 2 ≤ sizeLine; decide), fun t2 n2 => ?_⟩⟩
          have sA : Same H7 (upd H7 t1 (.tup [.int 0])) := same_upd n1
          generalize upd H7 t1 (.tup [.int 0]) = H8 at sA n2
          have sB : Same H8 (upd H8 t2 (.tup [.ref t1, .int 7])) := same_upd n2
          generalize upd H8 t2 (.tup [.ref t1, .int 7]) = H9 at sB
          have sC := sA.trans sB
          have hr9 := sC _ _ hr7
          refine ⟨r, ws, _, rfl, rfl, hr9, Nat.lt_of_le_of_lt hwl (by decide), ?_⟩
          have sN : Same H (upd H9 r (.lst (ws ++ [.ref t2]))) := same_mut (sM.trans sC) nrH
          have hp10 : (upd H9 r (.lst (ws ++ [.ref t2]))) p = some (.lst (ns.map V.int ++ [V.int 3])) := by
            rw [upd_ne hrp.symm]
            exact sC _ _ hp7
          generalize upd H9 r (.lst (ws ++ [.ref t2])) = H10 at sN hp10
          refine ⟨_, rfl, _, rfl, (by show 1 ≤ sizeLine; decide), fun p8 np8 => ?_⟩
          have sD : Same H10 (upd H10 p8 (.lst [.int 3])) := same_upd np8
          have hp8 : (upd H10 p8 (.lst [.int 3])) p8 = some (.lst [.int 3]) := upd_same
          generalize upd H10 p8 (.lst [.int 3]) = H11 at sD hp8
          have sN2 := sN.trans sD
          refine ⟨a, p8, _, _, rfl, rfl, sN2 _ _ ha, hp8, ?_, fun p9 np9 => ?_⟩
          · rw [List.length_map]
            exact Nat.le_of_lt (small100k (by show ns.length + 1 ≤ 100000; omega))
          have sF : Same H11 (upd H11 p9 (.lst (ns.map V.int ++ [.int 3]))) := same_upd np9
          have e3 : ns.map V.int ++ [V.int 3] = (ns ++ [3]).map V.int := by rw [List.map_append]; rfl
          refine ⟨.list ((ns ++ [3]).map PyData.int), .list ((ns ++ [3]).map PyData.int), dp_lst (by rw [← e3]; exact sF _ _ (sD _ _ hp10)), dp_lst (by rw [← e3]; exact upd_same), sh_ints _, sh_ints _, _, rfl, ?_⟩
          rw [eqvD (sh_ints _)]
          refine iteF ?_
          exact ⟨_, _, _, rfl, sN2.trans sF⟩
      · rintro σ H3 ⟨y2, y3, y4, rfl, s3⟩
        exact ⟨_, y2, y3, y4, rfl, s3⟩
    · rintro σ H2 ⟨y1, y2, y3, y4, rfl, s2⟩
      exact q _ s2
def spTable : Sp := fun vs H Q _ => ∃ (c : Int) (a e : Addr) (ds : List Int) (us : List V) (g : List Ent), vs = [.int c, .ref a, .ref e] ∧ H a = some (.lst (ds.map V.int)) ∧ ds.length ≤ 1000 ∧ H e = some (.lst us) ∧ Ents H us g ∧ RowIs g (tblL c ds) ∧ RowN 1 g ∧ g.length ≤ 10000 ∧ ∀ H', Same H H' → Q (.bl true) H'
theorem c__law_table {f : Addr} {fd : FuncData} (D : C8.Def K mg "_law_table" s__law_table f fd) (b : Binds K fd ["_law_count", "_law_differences", "_law_expected"] []) (T : Bi mg) (c_table_of_distances : C8.Cal P w K mg base 3 "table_of_distances" (spTbl K) []) (c__law_same : C8.Cal P w K mg base 4 "_law_same" (spSame K) []) : C8.Cal P w K mg base 5 "_law_table" spTable [] := by
  refine C8.cal0 D b .nil sc__law_table (fun vs H Q E h => ?_) (fun cdv A outer s H vs Q E hr h => ?_)
  · obtain ⟨c, a, e, ds, us, g, rfl, _⟩ := h
    rfl
  · obtain ⟨c, a, e, ds, us, g, rfl, ha, hz, he, hU, hg, hgn, hgl, q⟩ := h
    refine ⟨_, (pss_cons (ps_for PassesOwn.never rfl (pi_range1 rfl T.n_range (pa_cons pe_int pa_nil)) (pg_name (i := 3) sc__law_table.nd rfl (Or.inl rfl)) (pss_cons (ps_set (i := 4) sc__law_table.nd rfl (Or.inl rfl) (pe_callTy call_list_of (by rfl) T.n_list OT.b_list (pa_cons (pv 1) pa_nil)))
  (pss_cons (ps_set (i := 5) sc__law_table.nd rfl (Or.inl rfl) (C8.pe_c c_table_of_distances hr (by decide) (by rfl) (pa_cons (pv 0) (pa_cons (pv 4) pa_nil))))
  (pss_cons (ps_if (PW.pt (pw_or (pt_cmpR (op_neD hr.units) (pv 4) (pv 1) (nomark _)) (pw_or1 (pt_not (pt_val (C8.pe_c c__law_same hr (by decide) (by rfl) (pa_cons (pv 5) (pa_cons (pv 2) pa_nil)))))))) (pss_one (ps_ret pe_bl)) pss_nil)
  (pss_cons (ps_expr (pe_bm PySem.F.plainAttrs_list PySem.F.slot_list_append PySem.F.type_list_append mt_append (pv 4) (pa_cons pe_int pa_nil)))
  (pss_cons (ps_expr (pe_bm PySem.F.plainAttrs_list PySem.F.slot_list_append PySem.F.type_list_append mt_append (pv 5) (pa_cons (pe_tup (pa_cons (pe_tup (pa_cons pe_int pa_nil)) (pa_cons pe_int pa_nil))) pa_nil)))
  (pss_one (ps_if (pt_cmpR (op_neD hr.units) (pv 4) (pe_op op_cat (pv 1) (pe_lst (pa_cons pe_int pa_nil))) (nomark _)) (pss_one (ps_ret pe_bl)) pss_nil))))))))
  (pss_one (ps_ret pe_bl))), ?_⟩
    refine ⟨2, rfl, by decide, by decide, ?_⟩
    refine for_range (lo := 0) (n := 2) (fun i σ H2 => ∃ y3 y4 y5, σ = [some (.int c), some (.ref a), some (.ref e), y3, y4, y5] ∧ Same H H2) ⟨none, none, none, rfl, Same.refl _⟩ ?_ ?_
    · rintro tu σ H3 htu ⟨y3, y4, y5, rfl, s3⟩
      have ha3 := s3 _ _ ha
      refine ⟨_, rfl, a, _, rfl, .inl (.inl (.inl ha3)), fun p np => ?_⟩
      have s4 : Same H3 (upd H3 p (.lst (ds.map V.int))) := same_upd np
      have hp : (upd H3 p (.lst (ds.map V.int))) p = some (.lst (ds.map V.int)) := upd_same
      generalize upd H3 p (.lst (ds.map V.int)) = H4 at s4 hp
      have npH : H p = none := none_back s3 np
      have s04 := s3.trans s4
      refine ⟨_, rfl, _, rfl, p, c, ds, rfl, .inl (.inl hp), hz, fun r t ws H5 hr2 s5 nt ht hE => ?_⟩
      have er : r = g := hr2.one hg
      subst er
      have s05 := s04.trans s5
      have ntH : H t = none := none_back s04 nt
      have htp : t ≠ p := fun z => by
        rw [z, hp] at nt
        cases nt
      refine ⟨_, rfl, _, rfl, _, _, dp_lst (s5 _ _ hp), dp_lst (s05 _ _ ha), sh_ints ds, sh_ints ds, _, rfl, ?_⟩
      rw [eqvD (sh_ints ds)]
      refine iteF ?_
      refine ⟨_, rfl, _, rfl, t, e, ws, us, r, 1, rfl, ht, hE, s05 _ _ he, hU.mono s05, hgn, by omega, _, rfl, ?_⟩
      refine iteF ?_
      have hp5 := s5 _ _ hp
      refine ⟨_, rfl, .inl ⟨rfl, _, .inl (.inl hp5)⟩, p, _, _, rfl, rfl, hp5, ?_, ?_⟩
      · rw [List.length_map]
        exact small100k (by omega)
      have sM : Same H (upd H5 p (.lst (ds.map V.int ++ [V.int 3]))) := same_mut s05 npH
      have ht6 : (upd H5 p (.lst (ds.map V.int ++ [V.int 3]))) t = some (.lst ws) := by
        rw [upd_ne htp]
        exact ht
      have hp6 : (upd H5 p (.lst (ds.map V.int ++ [V.int 3]))) p = some (.lst (ds.map V.int ++ [V.int 3])) := upd_same
      generalize upd H5 p (.lst (ds.map V.int ++ [V.int 3])) = H6 at sM ht6 hp6
      refine ⟨_, rfl, .inl ⟨rfl, _, .inl (.inl ht6)⟩, (by show 1 ≤ sizeLine; decide), fun t1 n1 => ⟨(by show 2 ≤ sizeLine; decide), fun t2 n2 => ?_⟩⟩
      have sA : Same H6 (upd H6 t1 (.tup [.int 99])) := same_upd n1
      generalize upd H6 t1 (.tup [.int 99]) = H8 at sA n2
      have sB : Same H8 (upd H8 t2 (.tup [.ref t1, .int 7])) := same_upd n2
      generalize upd H8 t2 (.tup [.ref t1, .int 7]) = H9 at sB
      have sC := sA.trans sB
      have hwl := hE.len
      refine ⟨t, ws, _, rfl, rfl, sC _ _ ht6, small100k (by omega), ?_⟩
      have sN : Same H (upd H9 t (.lst (ws ++ [.ref t2]))) := same_mut (sM.trans sC) ntH
      have hp10 : (upd H9 t (.lst (ws ++ [.ref t2]))) p = some (.lst (ds.map V.int ++ [V.int 3])) := by
        rw [upd_ne htp.symm]
        exact sC _ _ hp6
      generalize upd H9 t (.lst (ws ++ [.ref t2])) = H10 at sN hp10
      refine ⟨_, rfl, _, rfl, (by show 1 ≤ sizeLine; decide), fun p8 np8 => ?_⟩
      have sD : Same H10 (upd H10 p8 (.lst [.int 3])) := same_upd np8
      have hp8 : (upd H10 p8 (.lst [.int 3])) p8 = some (.lst [.int 3]) := upd_same
      generalize upd H10 p8 (.lst [.int 3]) = H11 at sD hp8
      have sN2 := sN.trans sD
      refine ⟨a, p8, _, _, rfl, rfl, sN2 _ _ ha, hp8, ?_, fun p9 np9 => ?_⟩
      · rw [List.length_map]
        exact Nat.le_of_lt (small100k (by show ds.length + 1 ≤ 100000; omega))
      have sF : Same H11 (upd H11 p9 (.lst (ds.map V.int ++ [.int 3]))) := same_upd np9
      have e3 : ds.map V.int ++ [V.int 3] = (ds ++ [3]).map V.int := by rw [List.map_append]; rfl
      refine ⟨.list ((ds ++ [3]).map PyData.int), .list ((ds ++ [3]).map PyData.int), dp_lst (by rw [← e3]; exact sF _ _ (sD _ _ hp10)), dp_lst (by rw [← e3]; exact upd_same), sh_ints _, sh_ints _, _, rfl, ?_⟩
      rw [eqvD (sh_ints _)]
      refine iteF ?_
      exact ⟨_, _, _, rfl, sN2.trans sF⟩
    · rintro σ H2 ⟨y3, y4, y5, rfl, s2⟩
      exact q _ s2
end
end OT

set_option Elab.async false
set_option linter.all false
set_option maxRecDepth 100000
set_option maxHeartbeats 4000000
namespace OT
open PySem PySem.Spec PyProof.Rows L2
def zs08 : List Int := [8, 8, 4, 11, 1985, 2, 3, 30]
def flL : List Int → List Ent
  | [] => []
  | d :: t => ([d], 1) :: ([-d], 1) :: flL t
theorem flL_snoc : ∀ (a : List Int) (d : Int), flL (a ++ [d]) = flL a ++ [([d], 1), ([-d], 1)]
  | [], _ => rfl
  | x :: a, d => by
    show _ :: _ :: flL (a ++ [d]) = _
    rw [flL_snoc a d]
    rfl
theorem flL_len : ∀ a : List Int, (flL a).length = 2 * a.length
  | [] => rfl
  | x :: a => by
    show (flL a).length + 2 = 2 * (a.length + 1)
    rw [flL_len a]
    omega
theorem flL_mem : ∀ {a : List Int} {e : Ent}, e ∈ flL a → e.1.length = 1
  | x :: a, e, h => by
    rcases List.mem_cons.mp h with rfl | h
    · rfl
    · rcases List.mem_cons.mp h with rfl | h
      · rfl
      · exact flL_mem h
theorem flL_num (q : Pl) : ∀ a : List Int, sumW (at1 q) (flL a) = sumI (fun d => at1 q [d]) a + sumI (fun d => at1 q [-d]) a
  | [] => rfl
  | x :: a => by
    have ih := flL_num q a
    show (1 : Int) * at1 q [x] + ((1 : Int) * at1 q [-x] + sumW (at1 q) (flL a)) = (at1 q [x] + _) + (at1 q [-x] + _)
    rw [ih]
    omega
theorem pairs_tbl (c : Int) (ds : List Int) (q : Pl) : numAt (([0], c) :: flL ds) q = numAt (tblL c ds) q := by
  rw [tblL_num, numAt_sumW]
  show c * at1 q [0] + sumW (at1 q) (flL ds) = _
  rw [flL_num]
  omega
theorem tbl_len (c : Int) (ds : List Int) : (tblL c ds).length = 1 + 2 * ds.length := by
  show (([0], c) :: (_ ++ _)).length = _
  rw [List.length_cons, List.length_append, List.length_map, List.length_map]
  omega
theorem tbl_dim {c : Int} {ds : List Int} {e : Ent} (h : e ∈ tblL c ds) : e.1.length = 1 := by
  rcases List.mem_cons.mp h with rfl | h
  · rfl
  · rcases List.mem_append.mp h with h | h
    · obtain ⟨x, _, rfl⟩ := List.mem_map.mp h
      rfl
    · obtain ⟨x, _, rfl⟩ := List.mem_map.mp h
      rfl
theorem tbl_rn {g : List Ent} {c : Int} {ds : List Int} (h : RowIs g (tblL c ds)) (hl : ds.length ≤ 1000) : RowN 1 g ∧ g.length ≤ 10000 := by
  refine ⟨⟨h.v, by decide, by decide, fun e he => ?_⟩, ?_⟩
  · obtain ⟨x, hx, ex⟩ := h.mem he
    rw [← ex]
    exact tbl_dim hx
  · have := h.len
    rw [tbl_len] at this
    omega
section
variable {P : Program} {w : World} {K : PySem.W.Frag} {mg : Str → Option Value} {base : Heap}
def spLaw (K : PySem.W.Frag) : Sp := fun vs H Q _ => ∃ (a : Addr) (ns : List Int), vs = [.ref a] ∧ SqL K H a (ns.map V.int) ∧ ns.length ≤ 63 ∧ ∀ H', Q (.bl true) H'
theorem c_law {f : Addr} {fd : FuncData} (D : C8.Def K mg "law" s_law f fd) (b : Binds K fd ["_law_script"] []) (T : Bi mg) (c__law_cell : C8.Cal P w K mg base 1 "_law_cell" (spCell K) []) (c__law_draws : C8.Cal P w K mg base 1 "_law_draws" (spDraws K) []) (c__law_points : C8.Cal P w K mg base 2 "_law_points" spPoints [])
    (c__law_both : C8.Cal P w K mg base 7 "_law_both" spBoth []) (c__law_repeated : C8.Cal P w K mg base 2 "_law_repeated" spRep []) (c__law_table : C8.Cal P w K mg base 5 "_law_table" spTable []) (c__law_distances : C8.Cal P w K mg base 1 "_law_distances" (spDistL K) []) (c__law_own : C8.Cal P w K mg base 4 "_law_own" (spOwn K) []) (c__law_row : C8.Cal P w K mg base 1 "_law_row" (spGather K) []) : FnOk P w K mg base L2.CX0 8 f fd ["_law_script"] (spLaw K) := by
  refine C8.fn0 D.fn sc_law (fun vs H Q E h => ?_) (fun cdv A outer s H vs Q E hr h => ?_)
  · obtain ⟨a, ns, rfl, _⟩ := h
    rfl
  · obtain ⟨a, ns, rfl, hS, hlen, q⟩ := h
    refine ⟨_, (pss_cons (ps_set (i := 1) sc_law.nd rfl (Or.inl rfl) (C8.pe_c c__law_draws hr (by decide) (by rfl) (pa_cons (C8.pe_c c__law_cell hr (by decide) (by rfl) (pa_cons (pv 0) (pa_cons pe_int pa_nil))) (pa_cons (pe_lst (pa_cons pe_int (pa_cons pe_int (pa_cons pe_int (pa_cons pe_int (pa_cons pe_int (pa_cons pe_int (pa_cons pe_int (pa_cons pe_int pa_nil))))))))) pa_nil))))
  (pss_cons (ps_set (i := 2) sc_law.nd rfl (Or.inl rfl) (pe_ix ix_list (pv 1) pe_int (fun _ _ => rfl)))
  (pss_cons (ps_set (i := 3) sc_law.nd rfl (Or.inl rfl) pe_int)
  (pss_cons (ps_set (i := 4) sc_law.nd rfl (Or.inl rfl) (pe_op op_sub (pe_ix ix_list (pv 1) pe_int (fun _ _ => rfl)) pe_int))
  (C8.pss_cut (ps_if (pt_cmpR op_eq (pe_ix ix_list (pv 1) pe_int (fun _ _ => rfl)) pe_int (nomark _)) (pss_one (ps_set (i := 4) sc_law.nd rfl (Or.inl rfl) (pe_op op_sub (pe_ix ix_list (pv 1) pe_int (fun _ _ => rfl)) pe_int))) pss_nil)
  (C8.pss_cut (ps_if (pt_cmpR op_eq (pe_ix ix_list (pv 1) pe_int (fun _ _ => rfl)) pe_int (nomark _)) (pss_cons (ps_set (i := 2) sc_law.nd rfl (Or.inl rfl) (pe_op op_add (pe_ix ix_list (pv 1) pe_int (fun _ _ => rfl)) pe_int))
  (pss_cons (ps_set (i := 3) sc_law.nd rfl (Or.inl rfl) pe_int)
  (pss_one (ps_set (i := 4) sc_law.nd rfl (Or.inl rfl) (pe_op op_sub (pe_op op_mod (pe_callTy call_int1 (by rfl) T.n_int OT.b_int (pa_cons (pe_ix ix_list (pv 1) pe_int (fun _ _ => rfl)) pa_nil)) pe_int) pe_int))))) pss_nil)
  (pss_cons (ps_set (i := 5) sc_law.nd rfl (Or.inl rfl) (C8.pe_c c__law_points hr (by decide) (by rfl) (pa_cons (C8.pe_c c__law_cell hr (by decide) (by rfl) (pa_cons (pv 0) (pa_cons pe_int pa_nil))) (pa_cons (C8.pe_c c__law_cell hr (by decide) (by rfl) (pa_cons (pv 0) (pa_cons pe_int pa_nil))) (pa_cons (pv 2) (pa_cons (pv 3) (pa_cons (pv 4) pa_nil)))))))
  (pss_cons (ps_if (pt_not (pt_val (C8.pe_c c__law_both hr (by decide) (by rfl) (pa_cons (pv 5) pa_nil)))) (pss_one (ps_ret pe_bl)) pss_nil)
  (C8.pss_cut (ps_if (PW.pt (pw_and (pt_cmpR op_eq (pe_ix ix_list (pv 1) pe_int (fun _ _ => rfl)) pe_int (nomark _)) (pw_and1 (pt_cmpR op_gt (pv 2) pe_int (nomark _))))) (pss_one (ps_if (PW.pt (pw_or (pt_not (pt_val (C8.pe_c c__law_both hr (by decide) (by rfl) (pa_cons (C8.pe_c c__law_repeated hr (by decide) (by rfl) (pa_cons (C8.pe_c c__law_cell hr (by decide) (by rfl) (pa_cons (pv 0) (pa_cons pe_int pa_nil))) (pa_cons (pv 5) (pa_cons (pe_op op_add (pe_ix ix_list (pv 1) pe_int (fun _ _ => rfl)) pe_int) pa_nil)))) pa_nil)))) (pw_or1 (pt_not (pt_val (C8.pe_c c__law_both hr (by decide) (by rfl) (pa_cons (pv 5) pa_nil))))))) (pss_one (ps_ret pe_bl)) pss_nil)) pss_nil)
  (C8.pss_cut (ps_if (pt_cmpR op_lt (pv 2) pe_int (nomark _)) (pss_cons (ps_setLc (i := 10) (own := [("_law_point", 11)]) (g := (gName 11)) (tt := tYes) rfl sc_law.nd rfl rfl (sw_true rfl rfl rfl rfl) (pi_list (pe_callB (show CallR _ _ (rSortedI K) from cr_sortedI) (by rfl) T.n_sorted OT.b_sorted (pa_cons (pv 5) pa_nil))) (blkOk_by (N := ["_law_script", "_law_draws_here", "_law_count", "_law_widest", "_law_start", "_law_points_here", "_law_free", "_law_differences", "_law_pairs", "_law_d", "_law_row_here", "_law_point", "_law_k"]) (sc := C8.fnScope s_law) (by decide +kernel)) (fun _ _ _ _ _ => (pg_name (i := 11) sc_law.nd rfl (Or.inl rfl))) (fun _ _ _ _ _ => pts_nil) (fun _ _ _ _ _ => (pe_tup (pa_cons (pe_tup (pa_cons (pv 11) pa_nil)) (pa_cons pe_int pa_nil)))))
  (pss_one (ps_if (pt_not (pt_val (C8.pe_c c__law_table hr (by decide) (by rfl) (pa_cons (pv 2) (pa_cons (C8.pe_c c__law_distances hr (by decide) (by rfl) (pa_cons (pv 5) pa_nil)) (pa_cons (C8.pe_c c__law_own hr (by decide) (by rfl) (pa_cons (pv 10) pa_nil)) pa_nil)))))) (pss_one (ps_ret pe_bl)) pss_nil))) pss_nil)
  (pss_cons (ps_set (i := 6) sc_law.nd rfl (Or.inl rfl) (C8.pe_c c__law_draws hr (by decide) (by rfl) (pa_cons (C8.pe_c c__law_cell hr (by decide) (by rfl) (pa_cons (pv 0) (pa_cons pe_int pa_nil))) (pa_cons (pe_lst (pa_cons pe_int (pa_cons pe_int pa_nil))) pa_nil))))
  (pss_cons (ps_setLc (i := 7) (own := [("_law_d", 9)]) (g := (gName 9)) (tt := tYes) rfl sc_law.nd rfl rfl (sw_true rfl rfl rfl rfl) (pi_list (C8.pe_c c__law_draws hr (by decide) (by rfl) (pa_cons (C8.pe_c c__law_cell hr (by decide) (by rfl) (pa_cons (pv 0) (pa_cons pe_int pa_nil))) (pa_cons (pe_lc (own := [("_law_k", 12)]) (g := (gName 12)) (tt := tYes) rfl sc_law.nd (pi_range1 rfl T.n_range (pa_cons (pe_ix ix_list (pv 6) pe_int (fun _ _ => rfl)) pa_nil)) (blkOk_by (N := ["_law_script", "_law_draws_here", "_law_count", "_law_widest", "_law_start", "_law_points_here", "_law_free", "_law_differences", "_law_pairs", "_law_d", "_law_row_here", "_law_point", "_law_k"]) (sc := C8.fnScope s_law) (by decide +kernel)) (fun _ _ _ _ _ => (pg_name (i := 12) sc_law.nd rfl (Or.inl rfl))) (fun _ _ _ _ _ => pts_nil) (fun _ _ _ _ _ => pe_int)) pa_nil)))) (blkOk_by (N := ["_law_script", "_law_draws_here", "_law_count", "_law_widest", "_law_start", "_law_points_here", "_law_free", "_law_differences", "_law_pairs", "_law_d", "_law_row_here", "_law_point", "_law_k"]) (sc := C8.fnScope s_law) (by decide +kernel)) (fun _ _ _ _ _ => (pg_name (i := 9) sc_law.nd rfl (Or.inl rfl))) (fun _ _ _ _ _ => pts_nil) (fun _ _ _ _ _ => (pe_op op_add (pv 9) pe_int)))
  (pss_cons (ps_set (i := 8) sc_law.nd rfl (Or.inl rfl) (pe_lst (pa_cons (pe_tup (pa_cons (pe_tup (pa_cons pe_int pa_nil)) (pa_cons (pe_ix ix_list (pv 6) pe_int (fun _ _ => rfl)) pa_nil))) pa_nil)))
  (pss_cons (ps_for PassesOwn.never rfl (pi_list (pv 7)) (pg_name (i := 9) sc_law.nd rfl (Or.inl rfl)) (pss_one (ps_set (i := 8) sc_law.nd rfl (Or.inl rfl) (pe_op op_cat (pv 8) (pe_lst (pa_cons (pe_tup (pa_cons (pe_tup (pa_cons (pv 9) pa_nil)) (pa_cons pe_int pa_nil))) (pa_cons (pe_tup (pa_cons (pe_tup (pa_cons (pe_un un_neg (pv 9)) pa_nil)) (pa_cons pe_int pa_nil))) pa_nil)))))))
  (pss_one (ps_ret (C8.pe_c c__law_table hr (by decide) (by rfl) (pa_cons (pe_ix ix_list (pv 6) pe_int (fun _ _ => rfl)) (pa_cons (pv 7) (pa_cons (C8.pe_c c__law_row hr (by decide) (by rfl) (pa_cons (pv 8) pa_nil)) pa_nil)))))))))))))))))))), ?_⟩
    refine ⟨_, rfl, a, ns, 0, rfl, hS, by decide, fun c => ?_⟩
    refine ⟨by decide, fun p np => ?_⟩
    refine ⟨p, zs08, c, rfl, .inl (.inl upd_same), by decide, by decide, fun ds H1 p1 hin sm1 np1 hp1 => ?_⟩
    have sA : Same H H1 := (same_upd np).trans sm1
    have L1 : SqL K H1 p1 (ds.map V.int) := .inl (.inl hp1)
    obtain ⟨d0, g0, g0a, g0b⟩ := hin.get (i := 0) (z := 8) rfl
    obtain ⟨d1, g1, g1a, g1b⟩ := hin.get (i := 1) (z := 8) rfl
    obtain ⟨d2, g2, g2a, g2b⟩ := hin.get (i := 2) (z := 4) rfl
    obtain ⟨d3, g3, g3a, g3b⟩ := hin.get (i := 3) (z := 11) rfl
    obtain ⟨d4, g4, g4a, g4b⟩ := hin.get (i := 4) (z := 1985) rfl
    obtain ⟨d5, g5, g5a, g5b⟩ := hin.get (i := 5) (z := 2) rfl
    obtain ⟨d6, g6, g6a, g6b⟩ := hin.get (i := 6) (z := 3) rfl
    obtain ⟨d7, g7, g7a, g7b⟩ := hin.get (i := 7) (z := 30) rfl
    obtain ⟨n1, rfl⟩ := Int.eq_ofNat_of_zero_le g1a
    obtain ⟨n6, rfl⟩ := Int.eq_ofNat_of_zero_le g6a
    obtain ⟨n7, rfl⟩ := Int.eq_ofNat_of_zero_le g7a
    clear hin np np1 sm1
    refine ⟨_, rfl, p1, _, 1, _, rfl, rfl, L1, atI_nat (j := 1) g1, _, rfl, p1, _, 3, _, rfl, rfl, L1, atI_nat (j := 3) g3, _, _, rfl, rfl, ?_⟩
    refine ⟨fun σ H2 => ∃ st : Int, σ = [some (.ref a), some (.ref p1), some (.int (n1 : Int)), some (.int 16), some (.int st), none, none, none, none, none, none, none, none] ∧ H2 = H1, ?_, ?_⟩
    · refine ⟨_, rfl, p1, _, 2, _, rfl, rfl, L1, atI_nat (j := 2) g2, rfl, _, rfl, iteD (fun _ => ?_) (fun _ => ?_)⟩
      · exact ⟨_, rfl, p1, _, 4, _, rfl, rfl, L1, atI_nat (j := 4) g4, _, _, rfl, rfl, _, rfl, rfl⟩
      · exact ⟨_, rfl, rfl⟩
    rintro σ H2 ⟨st, rfl, rfl⟩
    refine ⟨fun σ H3 => ∃ (n : Nat) (wd st : Int), σ = [some (.ref a), some (.ref p1), some (.int (n : Int)), some (.int wd), some (.int st), none, none, none, none, none, none, none, none] ∧ H3 = H2 ∧ n ≤ 37 ∧ (n : Int) ≤ wd + 1 ∧ 0 ≤ wd ∧ wd ≤ 1000, ?_, ?_⟩
    · refine ⟨_, rfl, p1, _, 0, _, rfl, rfl, L1, atI_nat (j := 0) g0, rfl, _, rfl, iteD (fun _ => ?_) (fun _ => ?_)⟩
      · refine ⟨_, rfl, p1, _, 7, _, rfl, rfl, L1, atI_nat (j := 7) g7, _, _, rfl, rfl, ?_⟩
        refine ⟨_, rfl, p1, _, 4, _, rfl, rfl, L1, atI_nat (j := 4) g4, .inl ⟨_, rfl, _, _, rfl, rfl, by show (0 : Int) < 1001; decide, _, _, rfl, rfl, ?_⟩⟩
        exact ⟨n7 + 8, 1000, _, rfl, rfl, by omega, by omega, by decide, by decide⟩
      · exact ⟨n1, 16, st, rfl, rfl, by omega, by omega, by decide, by decide⟩
    rintro σ H3 ⟨n, wd, st, rfl, rfl, hn, hnw, hw0, hw1⟩
    have hS3 := sA.seq hS
    refine ⟨_, rfl, a, ns, 1, rfl, hS3, by decide, fun c1 => ?_⟩
    refine ⟨_, rfl, a, ns, 2, rfl, hS3, by decide, fun c2 => ?_⟩
    refine ⟨_, rfl, _, rfl, _, rfl, c1, c2, wd, st, n, rfl, by omega, hnw, hw0, by omega, fun pts p5 H5 hl hnd s5 np5 hp5 => ?_⟩
    refine ⟨_, rfl, p5, pts, rfl, hp5, by omega, fun H6 s6 => ?_⟩
    refine ⟨_, rfl, ?_⟩
    refine iteF ?_
    have sB := (sA.trans s5).trans s6
    have hp56 := s6 _ _ hp5
    have L6 : SqL K H6 p1 (ds.map V.int) := (s5.trans s6).seq L1
    have hS6 := sB.seq hS
    clear hp1 L1 hS3 hS
    refine ⟨fun σ H7 => σ = [some (.ref a), some (.ref p1), some (.int (n : Int)), some (.int wd), some (.int st), some (.ref p5), none, none, none, none, none, none, none] ∧ Same H6 H7, ?_, ?_⟩
    · refine ⟨_, rfl, p1, _, 5, _, rfl, rfl, L6, atI_nat (j := 5) g5, rfl, _, rfl, iteD (fun _ => ?_) (fun _ => ?_)⟩
      · refine ⟨_, rfl, _, _, rfl, rfl, _, rfl, iteD (fun hn0 => ?_) (fun _ => ?_)⟩
        · refine ⟨_, rfl, a, ns, 3, rfl, hS6, by decide, fun c3 => ?_⟩
          refine ⟨_, rfl, _, rfl, p1, _, 6, _, rfl, rfl, L6, atI_nat (j := 6) g6, _, _, rfl, rfl, c3, p5, pts, n6 + 1, rfl, hp56, by omega, by omega, by omega, fun pts2 p7 H7 hl2 s7 np7 hp7 => ?_⟩
          refine ⟨p7, pts2, rfl, hp7, by omega, fun H8 s8 => ?_⟩
          refine ⟨_, rfl, ?_⟩
          refine iteF ?_
          refine ⟨_, rfl, p5, pts, rfl, s8 _ _ (s7 _ _ hp56), by omega, fun H9 s9 => ?_⟩
          refine ⟨_, rfl, ?_⟩
          refine iteF ?_
          exact ⟨rfl, (s7.trans s8).trans s9⟩
        · exact ⟨rfl, Same.refl _⟩
      · exact ⟨rfl, Same.refl _⟩
    rintro σ H7 ⟨rfl, s7⟩
    have sC := sB.trans s7
    have hp57 := s7 _ _ hp56
    have L7 := s7.seq L6
    have hS7 := s7.seq hS6
    clear hp56 L6 hS6 hp5
    refine ⟨fun σ H8 => ∃ y10 y11 : Option V, σ = [some (.ref a), some (.ref p1), some (.int (n : Int)), some (.int wd), some (.int st), some (.ref p5), none, none, none, none, y10, y11, none] ∧ Same H7 H8, ?_, ?_⟩
    · refine ⟨_, rfl, _, _, rfl, rfl, _, rfl, iteD (fun hn8 => ?_) (fun _ => ?_)⟩
      · have hS57 : SqL K H7 p5 (pts.map V.int) := .inl (.inl hp57)
        refine ⟨_, rfl, p5, pts, rfl, hS57, fun out p2 perm asc np2 => ?_⟩
        have hml : out.length = n := by rw [perm.length_eq, hl]
        have hpd : (srt (dS pts)).Perm (pd out) := (srt_perm _).trans ((dS_perm perm.symm).trans (dS_pd out))
        have hv := ptL_valid asc (perm.nodup_iff.mpr hnd)
        have s2 : Same H7 (upd H7 p2 (.lst (out.map V.int))) := same_upd np2
        have h2' : (upd H7 p2 (.lst (out.map V.int))) p2 = some (.lst (out.map V.int)) := upd_same
        generalize upd H7 p2 (.lst (out.map V.int)) = H8 at s2 h2'
        refine ⟨p2, rfl, ⟨_, .inl (.inl h2')⟩, fun D nD => ?_⟩
        refine lc_list (K := K) (xs := out.map V.int) (fun i H3 => Same H8 H3 ∧ ∃ ws, H3 D = some (.lst ws) ∧ Ents H3 ws (ptL (out.take i))) ⟨same_upd nD, [], upd_same, .nil⟩ ?_ ?_ ?_
        · rintro i H3 _ ⟨sm, _⟩
          exact .inl (.inl (sm _ _ h2'))
        · rintro i x H3 hx ⟨sm, ws, hD, hE⟩
          obtain ⟨hi, rfl⟩ := getm hx
          refine ⟨rfl, tYes_of ?_⟩
          refine ⟨_, rfl, (by show 1 ≤ sizeLine; decide), fun t1 n1 => ?_⟩
          have sA : Same H3 (upd H3 t1 (.tup [.int out[i]])) := same_upd n1
          have h1 : (upd H3 t1 (.tup [.int out[i]])) t1 = some (.tup [.int out[i]]) := upd_same
          generalize upd H3 t1 (.tup [.int out[i]]) = H4 at sA h1
          refine ⟨(by show 2 ≤ sizeLine; decide), fun t2 n2 => ?_⟩
          have sB : Same H4 (upd H4 t2 (.tup [.ref t1, .int 1])) := same_upd n2
          have hb : (upd H4 t2 (.tup [.ref t1, .int 1])) t2 = some (.tup [.ref t1, .int 1]) := upd_same
          generalize upd H4 t2 (.tup [.ref t1, .int 1]) = H5 at sB hb
          have sC := sA.trans sB
          have hl2 := hE.len
          refine ⟨ws, sC _ _ hD, ?_, same_mut (sm.trans sC) nD, ws ++ [.ref t2], upd_same, ?_⟩
          · rw [hl2, show (ptL (out.take i)).length = (out.take i).length from List.length_map _, List.length_take]
            exact small100k (by omega)
          · have e : ptL (out.take (i + 1)) = ptL (out.take i) ++ [([out[i]], 1)] := take_map_succ (fun x => ([x], (1 : Int))) hi
            rw [e]
            refine ((hE.mono sC).updL (sC _ _ hD)).app (.cons (EntAt.updL (sC _ _ hD) ⟨t2, t1, rfl, hb, ?_⟩) .nil)
            exact sB _ _ h1
        rintro H9 ⟨sm, ws, hD, hE⟩
        rw [List.length_map, List.take_length] at hE
        have s79 := s2.trans sm
        refine ⟨_, rfl, _, rfl, p5, pts, rfl, s79.seq hS57, by omega, fun pdd H10 s10 npd hpdd => ?_⟩
        have RD : RQ H10 D ws (ptL out) 1 := ⟨s10 _ _ hD, hE.mono s10, hv, fun e he => by
          obtain ⟨x, _, rfl⟩ := List.mem_map.mp he
          rfl, by decide, by decide, by rw [show (ptL out).length = out.length from List.length_map _]; omega⟩
        have hNB : NB 1000000 (ptL out) := fun e he => by
          obtain ⟨x, _, rfl⟩ := List.mem_map.mp he
          show (1 : Int).natAbs ≤ 1000000
          decide
        refine ⟨_, rfl, D, ws, ptL out, 1, rfl, RD, hNB, fun g pg wg H11 hg s11 npg hpg hgE => ?_⟩
        have hdl : (srt (dS pts)).length ≤ 1000 := by
          rw [srt_len]
          exact Nat.le_trans (dS_le (n := 8) (by omega)) (by decide)
        have hg2 : RowIs g (tblL (n : Int) (srt (dS pts))) := by
          have := hg.congr (own_tbl hpd)
          rw [hml] at this
          exact this
        obtain ⟨hgn, hgl⟩ := tbl_rn hg2 hdl
        refine ⟨(n : Int), pdd, pg, srt (dS pts), wg, g, rfl, s11 _ _ hpdd, hdl, hpg, hgE, hg2, hgn, hgl, fun H12 s12 => ?_⟩
        refine ⟨_, rfl, ?_⟩
        refine iteF ?_
        exact ⟨_, _, rfl, ((s79.trans s10).trans s11).trans s12⟩
      · exact ⟨_, _, rfl, Same.refl _⟩
    rintro σ H8 ⟨y10, y11, rfl, s8⟩
    have sD := sC.trans s8
    have hS8 := s8.seq hS7
    refine ⟨_, rfl, a, ns, 4, rfl, hS8, by decide, fun c4 => ?_⟩
    refine ⟨by decide, fun p6 np6 => ?_⟩
    refine ⟨p6, [8, 22], c4, rfl, .inl (.inl upd_same), by decide, by decide, fun fs H9 p9 hfs s9 np9 hp9 => ?_⟩
    have s89 : Same H8 H9 := (same_upd np6).trans s9
    obtain ⟨f0, e0, e0a, e0b⟩ := hfs.get (i := 0) (z := 8) rfl
    obtain ⟨f1, e1, e1a, e1b⟩ := hfs.get (i := 1) (z := 22) rfl
    obtain ⟨m, rfl⟩ := Int.eq_ofNat_of_zero_le e1a
    have L9 : SqL K H9 p9 (fs.map V.int) := .inl (.inl hp9)
    have hS9 := s89.seq hS8
    have sE := sD.trans s89
    clear hS8 hfs s9 np6
    refine ⟨_, rfl, a, ns, 5, rfl, hS9, by decide, fun c5 => ?_⟩
    refine ⟨_, rfl, p9, _, 1, _, rfl, rfl, L9, atI_nat (j := 1) e1, m, rfl, by omega, by omega, fun p10 np10 => ?_⟩
    rw [Int.toNat_natCast]
    refine lc_range (lo := 0) (n := m) (fun i H3 => Same H9 H3 ∧ H3 p10 = some (.lst (List.replicate i (V.int 16)))) ⟨same_upd np10, upd_same⟩ ?_ ?_
    · rintro i H3 hi ⟨sm, hD⟩
      refine ⟨rfl, tYes_of ?_⟩
      refine ⟨_, hD, ?_, same_mut sm np10, ?_⟩
      · rw [List.length_replicate]
        exact small100k (by omega)
      · rw [upd_same, List.replicate_succ']
    rintro H10 ⟨s10, h10⟩
    have L10 : SqL K H10 p10 ((List.replicate m (16 : Int)).map V.int) := .inl (.inl (by rw [h10, List.map_replicate]))
    refine ⟨p10, List.replicate m 16, c5, rfl, L10, by rw [List.length_replicate]; omega, fun z hz => ?_, fun gs H11 p11 hgs s11 np11 hp11 => ?_⟩
    · rw [(List.mem_replicate.mp hz).2]
      decide
    have hgl : gs.length = m := by rw [hgs.1, List.length_replicate]
    clear hgs L10 h10
    have s911 := s10.trans s11
    have L11 : SqL K H11 p11 (gs.map V.int) := .inl (.inl hp11)
    refine ⟨p11, rfl, ⟨_, L11⟩, fun D nD => ?_⟩
    refine lc_list (K := K) (xs := gs.map V.int) (fun i H3 => Same H11 H3 ∧ H3 D = some (.lst (((gs.take i).map fun x => x + 1).map V.int))) ⟨same_upd nD, upd_same⟩ ?_ ?_ ?_
    · rintro i H3 _ ⟨sm, _⟩
      exact sm.seq L11
    · rintro i x H3 hx ⟨sm, hD⟩
      obtain ⟨hi, rfl⟩ := getm hx
      refine ⟨rfl, tYes_of ?_⟩
      refine ⟨_, rfl, _, _, rfl, rfl, _, hD, ?_, same_mut sm nD, ?_⟩
      · rw [List.length_map, List.length_map, List.length_take]
        exact small100k (by omega)
      · rw [upd_same, take_map_succ (fun x => x + 1) hi, List.map_append (l₂ := [gs[i] + 1])]
        rfl
    rintro H12 ⟨s12, h12⟩
    rw [List.length_map, List.take_length] at h12
    have hdl : (gs.map fun x => x + 1).length ≤ 21 := by
      rw [List.length_map, hgl]
      omega
    generalize (gs.map fun x => x + 1) = ls at h12 hdl
    have sF := (sE.trans s911).trans s12
    have L12 := (s911.trans s12).seq L9
    have LD : SqL K H12 D (ls.map V.int) := .inl (.inl h12)
    refine ⟨(by show 1 ≤ sizeLine; decide), fun t1 n1 => ?_⟩
    have sA1 : Same H12 (upd H12 t1 (.tup [.int 0])) := same_upd n1
    have h1 : (upd H12 t1 (.tup [.int 0])) t1 = some (.tup [.int 0]) := upd_same
    generalize upd H12 t1 (.tup [.int 0]) = H13 at sA1 h1
    refine ⟨_, rfl, p9, _, 0, _, rfl, rfl, sA1.seq L12, atI_nat (j := 0) e0, (by show 2 ≤ sizeLine; decide), fun t2 n2 => ?_⟩
    have sB1 : Same H13 (upd H13 t2 (.tup [.ref t1, .int f0])) := same_upd n2
    have hb : (upd H13 t2 (.tup [.ref t1, .int f0])) t2 = some (.tup [.ref t1, .int f0]) := upd_same
    generalize upd H13 t2 (.tup [.ref t1, .int f0]) = H14 at sB1 hb
    refine ⟨(by show 1 ≤ sizeLine; decide), fun q0 nq0 => ?_⟩
    have sC1 : Same H14 (upd H14 q0 (.lst [.ref t2])) := same_upd nq0
    have hq0 : (upd H14 q0 (.lst [.ref t2])) q0 = some (.lst [.ref t2]) := upd_same
    generalize upd H14 q0 (.lst [.ref t2]) = H15 at sC1 hq0
    have s15 := (sA1.trans sB1).trans sC1
    have LD15 := s15.seq LD
    have hE15 : Ents H15 [.ref t2] (([0], f0) :: flL (ls.take 0)) := .cons ⟨t2, t1, rfl, sC1 _ _ hb, sC1 _ _ (sB1 _ _ h1)⟩ .nil
    refine ⟨_, rfl, D, rfl, ⟨_, LD15⟩, ?_⟩
    refine for_list (K := K) (xs := ls.map V.int) (fun i σ H3 => ∃ (q1 : Addr) (ws : List V) (y9 : Option V), σ = [some (.ref a), some (.ref p1), some (.int (n : Int)), some (.int wd), some (.int st), some (.ref p5), some (.ref p9), some (.ref D), some (.ref q1), y9, y10, y11, none] ∧ Same H15 H3 ∧ H3 q1 = some (.lst ws) ∧ Ents H3 ws (([0], f0) :: flL (ls.take i))) ?_ ?_ ?_ ?_
    · exact ⟨q0, _, none, rfl, Same.refl _, hq0, hE15⟩
    · rintro i σ H3 _ ⟨_, _, _, _, sm, _⟩
      exact sm.seq LD15
    · rintro i x σ H3 hx ⟨q1, ws, y9, rfl, sm, hq1, hE⟩
      obtain ⟨hi, rfl⟩ := getm hx
      refine ⟨_, rfl, _, rfl, (by show 1 ≤ sizeLine; decide), fun u1 m1 => ?_⟩
      have tA : Same H3 (upd H3 u1 (.tup [.int ls[i]])) := same_upd m1
      have k1 : (upd H3 u1 (.tup [.int ls[i]])) u1 = some (.tup [.int ls[i]]) := upd_same
      generalize upd H3 u1 (.tup [.int ls[i]]) = G1 at tA k1
      refine ⟨(by show 2 ≤ sizeLine; decide), fun u2 m2 => ?_⟩
      have tB : Same G1 (upd G1 u2 (.tup [.ref u1, .int 1])) := same_upd m2
      have k2 : (upd G1 u2 (.tup [.ref u1, .int 1])) u2 = some (.tup [.ref u1, .int 1]) := upd_same
      generalize upd G1 u2 (.tup [.ref u1, .int 1]) = G2 at tB k2
      refine ⟨_, rfl, _, rfl, (by show 1 ≤ sizeLine; decide), fun u3 m3 => ?_⟩
      have tC : Same G2 (upd G2 u3 (.tup [.int (-ls[i])])) := same_upd m3
      have k3 : (upd G2 u3 (.tup [.int (-ls[i])])) u3 = some (.tup [.int (-ls[i])]) := upd_same
      generalize upd G2 u3 (.tup [.int (-ls[i])]) = G3 at tC k3
      refine ⟨(by show 2 ≤ sizeLine; decide), fun u4 m4 => ?_⟩
      have tD : Same G3 (upd G3 u4 (.tup [.ref u3, .int 1])) := same_upd m4
      have k4 : (upd G3 u4 (.tup [.ref u3, .int 1])) u4 = some (.tup [.ref u3, .int 1]) := upd_same
      generalize upd G3 u4 (.tup [.ref u3, .int 1]) = G4 at tD k4
      refine ⟨(by show 2 ≤ sizeLine; decide), fun u5 m5 => ?_⟩
      have tE : Same G4 (upd G4 u5 (.lst [.ref u2, .ref u4])) := same_upd m5
      have k5 : (upd G4 u5 (.lst [.ref u2, .ref u4])) u5 = some (.lst [.ref u2, .ref u4]) := upd_same
      generalize upd G4 u5 (.lst [.ref u2, .ref u4]) = G5 at tE k5
      have tAll := (((tA.trans tB).trans tC).trans tD).trans tE
      have hwl := hE.len
      rw [List.length_cons, flL_len, List.length_take] at hwl
      refine ⟨q1, u5, _, _, rfl, rfl, tAll _ _ hq1, k5, ?_, fun u6 m6 => ?_⟩
      · exact Nat.le_of_lt (small100k (by show ws.length + 2 ≤ 100000; omega))
      have tF : Same G5 (upd G5 u6 (.lst (ws ++ [.ref u2, .ref u4]))) := same_upd m6
      refine ⟨u6, _, _, rfl, (sm.trans tAll).trans tF, upd_same, ?_⟩
      have htk : ls.take (i + 1) = ls.take i ++ [ls[i]] := by rw [List.take_add_one, List.getElem?_eq_getElem hi]; rfl
      rw [htk, flL_snoc]
      show Ents _ _ ((([0], f0) :: flL (ls.take i)) ++ [([ls[i]], 1), ([-ls[i]], 1)])
      exact (hE.mono (tAll.trans tF)).app (.cons ⟨u2, u1, rfl, (tF _ _ (tE _ _ (tD _ _ (tC _ _ k2)))), tF _ _ (tE _ _ (tD _ _ (tC _ _ (tB _ _ k1))))⟩ (.cons ⟨u4, u3, rfl, tF _ _ (tE _ _ k4), tF _ _ (tE _ _ (tD _ _ k3))⟩ .nil))
    · rintro σ H3 ⟨q1, ws, y9, rfl, sm, hq1, hE⟩
      rw [List.length_map, List.take_length] at hE
      have sG := (sF.trans s15).trans sm
      have L3 := (s15.trans sm).seq L12
      have hD3 := sm _ _ (s15 _ _ h12)
      have hwl := hE.len
      rw [List.length_cons, flL_len] at hwl
      refine ⟨_, rfl, p9, _, 0, _, rfl, rfl, L3, atI_nat (j := 0) e0, _, rfl, _, rfl, q1, ws, _, rfl, ⟨.inl (.inl hq1), hE, by rw [List.length_cons, flL_len]; exact small100k (by omega)⟩, fun e he => ?_, fun g pg wg H4 hg s4 npg hpg hgE => ?_⟩
      · rcases List.mem_cons.mp he with rfl | he
        · exact List.cons_ne_nil _ _
        · intro z
          have := flL_mem he
          rw [z] at this
          cases this
      have hg2 : RowIs g (tblL f0 ls) := hg.congr (pairs_tbl f0 ls)
      obtain ⟨hgn, hgl2⟩ := tbl_rn hg2 (by omega)
      exact ⟨f0, D, pg, ls, wg, g, rfl, s4 _ _ hD3, by omega, hpg, hgE, hg2, hgn, hgl2, fun H5 _ => q H5⟩
end
end OT

set_option Elab.async false
set_option linter.all false
set_option maxRecDepth 100000
set_option maxHeartbeats 4000000
namespace OT
open PySem PySem.Spec PyProof.Rows L2
theorem all_mk {l : PySem.W.OpenLaw} {w : World} {K : PySem.W.Frag} {h : Heap} {mg : Str → Option Value} {fa : Addr} {f_row_of f_gather f_require_different f_row_of_points f_distances f_table_of_distances f__law_cell f__law_draws f__law_is_integer f__law_is_place f__law_is_row f__law_same f__law_plus f__law_back f__law_row f__law_times f__law_mirror f__law_cross f__law_own f__law_is_error f__law_points f__law_repeated f__law_first_repeated f__law_distances f__law_is_numbers f__law_is_repeated f__law_asked f__law_good f__law_both f__law_table f_law f_te f_ie B I C Cp Tx Ed Ln Nf M Z : Addr} (X : K.In h) (G : h.Ns mainGlobals mg) (hfa : mg "law" = some (.ref fa))
    {od_row_of an_row_of : Option Addr} {sl_row_of : Array (Option Value)} {oc_row_of kV_row_of dc_row_of pm_row_of cd_row_of ct_row_of : Value}
    {od_gather an_gather : Option Addr} {sl_gather : Array (Option Value)} {oc_gather kV_gather dc_gather pm_gather cd_gather ct_gather : Value}
    {od_require_different an_require_different : Option Addr} {sl_require_different : Array (Option Value)} {oc_require_different kV_require_different dc_require_different pm_require_different cd_require_different ct_require_different : Value}
    {od_row_of_points an_row_of_points : Option Addr} {sl_row_of_points : Array (Option Value)} {oc_row_of_points kV_row_of_points dc_row_of_points pm_row_of_points cd_row_of_points ct_row_of_points : Value}
    {od_distances an_distances : Option Addr} {sl_distances : Array (Option Value)} {oc_distances kV_distances dc_distances pm_distances cd_distances ct_distances : Value}
    {od_table_of_distances an_table_of_distances : Option Addr} {sl_table_of_distances : Array (Option Value)} {oc_table_of_distances kV_table_of_distances dc_table_of_distances pm_table_of_distances cd_table_of_distances ct_table_of_distances : Value}
    {od__law_cell an__law_cell : Option Addr} {sl__law_cell : Array (Option Value)} {oc__law_cell kV__law_cell dc__law_cell pm__law_cell cd__law_cell ct__law_cell : Value}
    {od__law_draws an__law_draws : Option Addr} {sl__law_draws : Array (Option Value)} {oc__law_draws kV__law_draws dc__law_draws pm__law_draws cd__law_draws ct__law_draws : Value}
    {od__law_is_integer an__law_is_integer : Option Addr} {sl__law_is_integer : Array (Option Value)} {oc__law_is_integer kV__law_is_integer dc__law_is_integer pm__law_is_integer cd__law_is_integer ct__law_is_integer : Value}
    {od__law_is_place an__law_is_place : Option Addr} {sl__law_is_place : Array (Option Value)} {oc__law_is_place kV__law_is_place dc__law_is_place pm__law_is_place cd__law_is_place ct__law_is_place : Value}
    {od__law_is_row an__law_is_row : Option Addr} {sl__law_is_row : Array (Option Value)} {oc__law_is_row kV__law_is_row dc__law_is_row pm__law_is_row cd__law_is_row ct__law_is_row : Value}
    {od__law_same an__law_same : Option Addr} {sl__law_same : Array (Option Value)} {oc__law_same kV__law_same dc__law_same pm__law_same cd__law_same ct__law_same : Value}
    {od__law_plus an__law_plus : Option Addr} {sl__law_plus : Array (Option Value)} {oc__law_plus kV__law_plus dc__law_plus pm__law_plus cd__law_plus ct__law_plus : Value}
    {od__law_back an__law_back : Option Addr} {sl__law_back : Array (Option Value)} {oc__law_back kV__law_back dc__law_back pm__law_back cd__law_back ct__law_back : Value}
    {od__law_row an__law_row : Option Addr} {sl__law_row : Array (Option Value)} {oc__law_row kV__law_row dc__law_row pm__law_row cd__law_row ct__law_row : Value}
    {od__law_times an__law_times : Option Addr} {sl__law_times : Array (Option Value)} {oc__law_times kV__law_times dc__law_times pm__law_times cd__law_times ct__law_times : Value}
    {od__law_mirror an__law_mirror : Option Addr} {sl__law_mirror : Array (Option Value)} {oc__law_mirror kV__law_mirror dc__law_mirror pm__law_mirror cd__law_mirror ct__law_mirror : Value}
    {od__law_cross an__law_cross : Option Addr} {sl__law_cross : Array (Option Value)} {oc__law_cross kV__law_cross dc__law_cross pm__law_cross cd__law_cross ct__law_cross : Value}
    {od__law_own an__law_own : Option Addr} {sl__law_own : Array (Option Value)} {oc__law_own kV__law_own dc__law_own pm__law_own cd__law_own ct__law_own : Value}
    {od__law_is_error an__law_is_error : Option Addr} {sl__law_is_error : Array (Option Value)} {oc__law_is_error kV__law_is_error dc__law_is_error pm__law_is_error cd__law_is_error ct__law_is_error : Value}
    {od__law_points an__law_points : Option Addr} {sl__law_points : Array (Option Value)} {oc__law_points kV__law_points dc__law_points pm__law_points cd__law_points ct__law_points : Value}
    {od__law_repeated an__law_repeated : Option Addr} {sl__law_repeated : Array (Option Value)} {oc__law_repeated kV__law_repeated dc__law_repeated pm__law_repeated cd__law_repeated ct__law_repeated : Value}
    {od__law_first_repeated an__law_first_repeated : Option Addr} {sl__law_first_repeated : Array (Option Value)} {oc__law_first_repeated kV__law_first_repeated dc__law_first_repeated pm__law_first_repeated cd__law_first_repeated ct__law_first_repeated : Value}
    {od__law_distances an__law_distances : Option Addr} {sl__law_distances : Array (Option Value)} {oc__law_distances kV__law_distances dc__law_distances pm__law_distances cd__law_distances ct__law_distances : Value}
    {od__law_is_numbers an__law_is_numbers : Option Addr} {sl__law_is_numbers : Array (Option Value)} {oc__law_is_numbers kV__law_is_numbers dc__law_is_numbers pm__law_is_numbers cd__law_is_numbers ct__law_is_numbers : Value}
    {od__law_is_repeated an__law_is_repeated : Option Addr} {sl__law_is_repeated : Array (Option Value)} {oc__law_is_repeated kV__law_is_repeated dc__law_is_repeated pm__law_is_repeated cd__law_is_repeated ct__law_is_repeated : Value}
    {od__law_asked an__law_asked : Option Addr} {sl__law_asked : Array (Option Value)} {oc__law_asked kV__law_asked dc__law_asked pm__law_asked cd__law_asked ct__law_asked : Value}
    {od__law_good an__law_good : Option Addr} {sl__law_good : Array (Option Value)} {oc__law_good kV__law_good dc__law_good pm__law_good cd__law_good ct__law_good : Value}
    {od__law_both an__law_both : Option Addr} {sl__law_both : Array (Option Value)} {oc__law_both kV__law_both dc__law_both pm__law_both cd__law_both ct__law_both : Value}
    {od__law_table an__law_table : Option Addr} {sl__law_table : Array (Option Value)} {oc__law_table kV__law_table dc__law_table pm__law_table cd__law_table ct__law_table : Value}
    {od_law an_law : Option Addr} {sl_law : Array (Option Value)} {oc_law kV_law dc_law pm_law cd_law ct_law : Value}
    {od_te an_te : Option Addr} {sl_te : Array (Option Value)} {oc_te kV_te dc_te pm_te cd_te ct_te : Value}
    {od_ie an_ie : Option Addr} {sl_ie : Array (Option Value)} {oc_ie kV_ie dc_ie pm_ie cd_ie ct_ie : Value}
    {nm_C q_C : Str} {N_C : Addr} {bs_C bm_C : List Value} {sn_C : List Str} {sub_C : List Value} {ab_C : Bool} {col_C : Option Bool} {dd_C : Option Addr} {m0_C m1_C m3_C m5_C : Option Value} {tk_C : Tok}
    (z_len : PySem.W.nsIn K mainGlobals "len" = some none)
    (z_int : PySem.W.nsIn K mainGlobals "int" = some none)
    (z_str : PySem.W.nsIn K mainGlobals "str" = some none)
    (z_bool : PySem.W.nsIn K mainGlobals "bool" = some none)
    (z_list : PySem.W.nsIn K mainGlobals "list" = some none)
    (z_tuple : PySem.W.nsIn K mainGlobals "tuple" = some none)
    (z_range : PySem.W.nsIn K mainGlobals "range" = some none)
    (z_enumerate : PySem.W.nsIn K mainGlobals "enumerate" = some none)
    (z_isinstance : PySem.W.nsIn K mainGlobals "isinstance" = some none)
    (z_sorted : PySem.W.nsIn K mainGlobals "sorted" = some none)
    (z_abs : PySem.W.nsIn K mainGlobals "abs" = some none)
    (z_any : PySem.W.nsIn K mainGlobals "any" = some none)
    (z_sum : PySem.W.nsIn K mainGlobals "sum" = some none)
    (z_min : PySem.W.nsIn K mainGlobals "min" = some none)
    (z_max : PySem.W.nsIn K mainGlobals "max" = some none)
    (z_zip : PySem.W.nsIn K mainGlobals "zip" = some none)
    (z_set : PySem.W.nsIn K mainGlobals "set" = some none)
    (z_ValueError : PySem.W.nsIn K mainGlobals "ValueError" = some none)
    (a_row_of : PySem.W.nsIn K mainGlobals "row_of" = some (some (.ref f_row_of)))
    (l_row_of : K.lookup f_row_of = some ⟨oc_row_of, od_row_of, .func (PySem.W.fnOf "row_of" "row_of" (C8.fnArgs s_row_of) (C8.fnBody s_row_of) (C8.fnScope s_row_of) .none kV_row_of dc_row_of pm_row_of an_row_of cd_row_of ct_row_of), sl_row_of⟩)
    (co_row_of : PySem.W.codeIn K cd_row_of "row_of" = true)
    (k_row_of : PySem.W.keepIn K (.ref f_row_of) = true)
    (a_gather : PySem.W.nsIn K mainGlobals "gather" = some (some (.ref f_gather)))
    (l_gather : K.lookup f_gather = some ⟨oc_gather, od_gather, .func (PySem.W.fnOf "gather" "gather" (C8.fnArgs s_gather) (C8.fnBody s_gather) (C8.fnScope s_gather) .none kV_gather dc_gather pm_gather an_gather cd_gather ct_gather), sl_gather⟩)
    (co_gather : PySem.W.codeIn K cd_gather "gather" = true)
    (k_gather : PySem.W.keepIn K (.ref f_gather) = true)
    (a_require_different : PySem.W.nsIn K mainGlobals "require_different" = some (some (.ref f_require_different)))
    (l_require_different : K.lookup f_require_different = some ⟨oc_require_different, od_require_different, .func (PySem.W.fnOf "require_different" "require_different" (C8.fnArgs s_require_different) (C8.fnBody s_require_different) (C8.fnScope s_require_different) .none kV_require_different dc_require_different pm_require_different an_require_different cd_require_different ct_require_different), sl_require_different⟩)
    (co_require_different : PySem.W.codeIn K cd_require_different "require_different" = true)
    (k_require_different : PySem.W.keepIn K (.ref f_require_different) = true)
    (a_row_of_points : PySem.W.nsIn K mainGlobals "row_of_points" = some (some (.ref f_row_of_points)))
    (l_row_of_points : K.lookup f_row_of_points = some ⟨oc_row_of_points, od_row_of_points, .func (PySem.W.fnOf "row_of_points" "row_of_points" (C8.fnArgs s_row_of_points) (C8.fnBody s_row_of_points) (C8.fnScope s_row_of_points) .none kV_row_of_points dc_row_of_points pm_row_of_points an_row_of_points cd_row_of_points ct_row_of_points), sl_row_of_points⟩)
    (co_row_of_points : PySem.W.codeIn K cd_row_of_points "row_of_points" = true)
    (k_row_of_points : PySem.W.keepIn K (.ref f_row_of_points) = true)
    (a_distances : PySem.W.nsIn K mainGlobals "distances" = some (some (.ref f_distances)))
    (l_distances : K.lookup f_distances = some ⟨oc_distances, od_distances, .func (PySem.W.fnOf "distances" "distances" (C8.fnArgs s_distances) (C8.fnBody s_distances) (C8.fnScope s_distances) .none kV_distances dc_distances pm_distances an_distances cd_distances ct_distances), sl_distances⟩)
    (co_distances : PySem.W.codeIn K cd_distances "distances" = true)
    (k_distances : PySem.W.keepIn K (.ref f_distances) = true)
    (a_table_of_distances : PySem.W.nsIn K mainGlobals "table_of_distances" = some (some (.ref f_table_of_distances)))
    (l_table_of_distances : K.lookup f_table_of_distances = some ⟨oc_table_of_distances, od_table_of_distances, .func (PySem.W.fnOf "table_of_distances" "table_of_distances" (C8.fnArgs s_table_of_distances) (C8.fnBody s_table_of_distances) (C8.fnScope s_table_of_distances) .none kV_table_of_distances dc_table_of_distances pm_table_of_distances an_table_of_distances cd_table_of_distances ct_table_of_distances), sl_table_of_distances⟩)
    (co_table_of_distances : PySem.W.codeIn K cd_table_of_distances "table_of_distances" = true)
    (k_table_of_distances : PySem.W.keepIn K (.ref f_table_of_distances) = true)
    (a__law_cell : PySem.W.nsIn K mainGlobals "_law_cell" = some (some (.ref f__law_cell)))
    (l__law_cell : K.lookup f__law_cell = some ⟨oc__law_cell, od__law_cell, .func (PySem.W.fnOf "_law_cell" "_law_cell" (C8.fnArgs s__law_cell) (C8.fnBody s__law_cell) (C8.fnScope s__law_cell) .none kV__law_cell dc__law_cell pm__law_cell an__law_cell cd__law_cell ct__law_cell), sl__law_cell⟩)
    (co__law_cell : PySem.W.codeIn K cd__law_cell "_law_cell" = true)
    (k__law_cell : PySem.W.keepIn K (.ref f__law_cell) = true)
    (a__law_draws : PySem.W.nsIn K mainGlobals "_law_draws" = some (some (.ref f__law_draws)))
    (l__law_draws : K.lookup f__law_draws = some ⟨oc__law_draws, od__law_draws, .func (PySem.W.fnOf "_law_draws" "_law_draws" (C8.fnArgs s__law_draws) (C8.fnBody s__law_draws) (C8.fnScope s__law_draws) .none kV__law_draws dc__law_draws pm__law_draws an__law_draws cd__law_draws ct__law_draws), sl__law_draws⟩)
    (co__law_draws : PySem.W.codeIn K cd__law_draws "_law_draws" = true)
    (k__law_draws : PySem.W.keepIn K (.ref f__law_draws) = true)
    (a__law_is_integer : PySem.W.nsIn K mainGlobals "_law_is_integer" = some (some (.ref f__law_is_integer)))
    (l__law_is_integer : K.lookup f__law_is_integer = some ⟨oc__law_is_integer, od__law_is_integer, .func (PySem.W.fnOf "_law_is_integer" "_law_is_integer" (C8.fnArgs s__law_is_integer) (C8.fnBody s__law_is_integer) (C8.fnScope s__law_is_integer) .none kV__law_is_integer dc__law_is_integer pm__law_is_integer an__law_is_integer cd__law_is_integer ct__law_is_integer), sl__law_is_integer⟩)
    (co__law_is_integer : PySem.W.codeIn K cd__law_is_integer "_law_is_integer" = true)
    (k__law_is_integer : PySem.W.keepIn K (.ref f__law_is_integer) = true)
    (a__law_is_place : PySem.W.nsIn K mainGlobals "_law_is_place" = some (some (.ref f__law_is_place)))
    (l__law_is_place : K.lookup f__law_is_place = some ⟨oc__law_is_place, od__law_is_place, .func (PySem.W.fnOf "_law_is_place" "_law_is_place" (C8.fnArgs s__law_is_place) (C8.fnBody s__law_is_place) (C8.fnScope s__law_is_place) .none kV__law_is_place dc__law_is_place pm__law_is_place an__law_is_place cd__law_is_place ct__law_is_place), sl__law_is_place⟩)
    (co__law_is_place : PySem.W.codeIn K cd__law_is_place "_law_is_place" = true)
    (k__law_is_place : PySem.W.keepIn K (.ref f__law_is_place) = true)
    (a__law_is_row : PySem.W.nsIn K mainGlobals "_law_is_row" = some (some (.ref f__law_is_row)))
    (l__law_is_row : K.lookup f__law_is_row = some ⟨oc__law_is_row, od__law_is_row, .func (PySem.W.fnOf "_law_is_row" "_law_is_row" (C8.fnArgs s__law_is_row) (C8.fnBody s__law_is_row) (C8.fnScope s__law_is_row) .none kV__law_is_row dc__law_is_row pm__law_is_row an__law_is_row cd__law_is_row ct__law_is_row), sl__law_is_row⟩)
    (co__law_is_row : PySem.W.codeIn K cd__law_is_row "_law_is_row" = true)
    (k__law_is_row : PySem.W.keepIn K (.ref f__law_is_row) = true)
    (a__law_same : PySem.W.nsIn K mainGlobals "_law_same" = some (some (.ref f__law_same)))
    (l__law_same : K.lookup f__law_same = some ⟨oc__law_same, od__law_same, .func (PySem.W.fnOf "_law_same" "_law_same" (C8.fnArgs s__law_same) (C8.fnBody s__law_same) (C8.fnScope s__law_same) .none kV__law_same dc__law_same pm__law_same an__law_same cd__law_same ct__law_same), sl__law_same⟩)
    (co__law_same : PySem.W.codeIn K cd__law_same "_law_same" = true)
    (k__law_same : PySem.W.keepIn K (.ref f__law_same) = true)
    (a__law_plus : PySem.W.nsIn K mainGlobals "_law_plus" = some (some (.ref f__law_plus)))
    (l__law_plus : K.lookup f__law_plus = some ⟨oc__law_plus, od__law_plus, .func (PySem.W.fnOf "_law_plus" "_law_plus" (C8.fnArgs s__law_plus) (C8.fnBody s__law_plus) (C8.fnScope s__law_plus) .none kV__law_plus dc__law_plus pm__law_plus an__law_plus cd__law_plus ct__law_plus), sl__law_plus⟩)
    (co__law_plus : PySem.W.codeIn K cd__law_plus "_law_plus" = true)
    (k__law_plus : PySem.W.keepIn K (.ref f__law_plus) = true)
    (a__law_back : PySem.W.nsIn K mainGlobals "_law_back" = some (some (.ref f__law_back)))
    (l__law_back : K.lookup f__law_back = some ⟨oc__law_back, od__law_back, .func (PySem.W.fnOf "_law_back" "_law_back" (C8.fnArgs s__law_back) (C8.fnBody s__law_back) (C8.fnScope s__law_back) .none kV__law_back dc__law_back pm__law_back an__law_back cd__law_back ct__law_back), sl__law_back⟩)
    (co__law_back : PySem.W.codeIn K cd__law_back "_law_back" = true)
    (k__law_back : PySem.W.keepIn K (.ref f__law_back) = true)
    (a__law_row : PySem.W.nsIn K mainGlobals "_law_row" = some (some (.ref f__law_row)))
    (l__law_row : K.lookup f__law_row = some ⟨oc__law_row, od__law_row, .func (PySem.W.fnOf "_law_row" "_law_row" (C8.fnArgs s__law_row) (C8.fnBody s__law_row) (C8.fnScope s__law_row) .none kV__law_row dc__law_row pm__law_row an__law_row cd__law_row ct__law_row), sl__law_row⟩)
    (co__law_row : PySem.W.codeIn K cd__law_row "_law_row" = true)
    (k__law_row : PySem.W.keepIn K (.ref f__law_row) = true)
    (a__law_times : PySem.W.nsIn K mainGlobals "_law_times" = some (some (.ref f__law_times)))
    (l__law_times : K.lookup f__law_times = some ⟨oc__law_times, od__law_times, .func (PySem.W.fnOf "_law_times" "_law_times" (C8.fnArgs s__law_times) (C8.fnBody s__law_times) (C8.fnScope s__law_times) .none kV__law_times dc__law_times pm__law_times an__law_times cd__law_times ct__law_times), sl__law_times⟩)
    (co__law_times : PySem.W.codeIn K cd__law_times "_law_times" = true)
    (k__law_times : PySem.W.keepIn K (.ref f__law_times) = true)
    (a__law_mirror : PySem.W.nsIn K mainGlobals "_law_mirror" = some (some (.ref f__law_mirror)))
    (l__law_mirror : K.lookup f__law_mirror = some ⟨oc__law_mirror, od__law_mirror, .func (PySem.W.fnOf "_law_mirror" "_law_mirror" (C8.fnArgs s__law_mirror) (C8.fnBody s__law_mirror) (C8.fnScope s__law_mirror) .none kV__law_mirror dc__law_mirror pm__law_mirror an__law_mirror cd__law_mirror ct__law_mirror), sl__law_mirror⟩)
    (co__law_mirror : PySem.W.codeIn K cd__law_mirror "_law_mirror" = true)
    (k__law_mirror : PySem.W.keepIn K (.ref f__law_mirror) = true)
    (a__law_cross : PySem.W.nsIn K mainGlobals "_law_cross" = some (some (.ref f__law_cross)))
    (l__law_cross : K.lookup f__law_cross = some ⟨oc__law_cross, od__law_cross, .func (PySem.W.fnOf "_law_cross" "_law_cross" (C8.fnArgs s__law_cross) (C8.fnBody s__law_cross) (C8.fnScope s__law_cross) .none kV__law_cross dc__law_cross pm__law_cross an__law_cross cd__law_cross ct__law_cross), sl__law_cross⟩)
    (co__law_cross : PySem.W.codeIn K cd__law_cross "_law_cross" = true)
    (k__law_cross : PySem.W.keepIn K (.ref f__law_cross) = true)
    (a__law_own : PySem.W.nsIn K mainGlobals "_law_own" = some (some (.ref f__law_own)))
    (l__law_own : K.lookup f__law_own = some ⟨oc__law_own, od__law_own, .func (PySem.W.fnOf "_law_own" "_law_own" (C8.fnArgs s__law_own) (C8.fnBody s__law_own) (C8.fnScope s__law_own) .none kV__law_own dc__law_own pm__law_own an__law_own cd__law_own ct__law_own), sl__law_own⟩)
    (co__law_own : PySem.W.codeIn K cd__law_own "_law_own" = true)
    (k__law_own : PySem.W.keepIn K (.ref f__law_own) = true)
    (a__law_is_error : PySem.W.nsIn K mainGlobals "_law_is_error" = some (some (.ref f__law_is_error)))
    (l__law_is_error : K.lookup f__law_is_error = some ⟨oc__law_is_error, od__law_is_error, .func (PySem.W.fnOf "_law_is_error" "_law_is_error" (C8.fnArgs s__law_is_error) (C8.fnBody s__law_is_error) (C8.fnScope s__law_is_error) .none kV__law_is_error dc__law_is_error pm__law_is_error an__law_is_error cd__law_is_error ct__law_is_error), sl__law_is_error⟩)
    (co__law_is_error : PySem.W.codeIn K cd__law_is_error "_law_is_error" = true)
    (k__law_is_error : PySem.W.keepIn K (.ref f__law_is_error) = true)
    (a__law_points : PySem.W.nsIn K mainGlobals "_law_points" = some (some (.ref f__law_points)))
    (l__law_points : K.lookup f__law_points = some ⟨oc__law_points, od__law_points, .func (PySem.W.fnOf "_law_points" "_law_points" (C8.fnArgs s__law_points) (C8.fnBody s__law_points) (C8.fnScope s__law_points) .none kV__law_points dc__law_points pm__law_points an__law_points cd__law_points ct__law_points), sl__law_points⟩)
    (co__law_points : PySem.W.codeIn K cd__law_points "_law_points" = true)
    (k__law_points : PySem.W.keepIn K (.ref f__law_points) = true)
    (a__law_repeated : PySem.W.nsIn K mainGlobals "_law_repeated" = some (some (.ref f__law_repeated)))
    (l__law_repeated : K.lookup f__law_repeated = some ⟨oc__law_repeated, od__law_repeated, .func (PySem.W.fnOf "_law_repeated" "_law_repeated" (C8.fnArgs s__law_repeated) (C8.fnBody s__law_repeated) (C8.fnScope s__law_repeated) .none kV__law_repeated dc__law_repeated pm__law_repeated an__law_repeated cd__law_repeated ct__law_repeated), sl__law_repeated⟩)
    (co__law_repeated : PySem.W.codeIn K cd__law_repeated "_law_repeated" = true)
    (k__law_repeated : PySem.W.keepIn K (.ref f__law_repeated) = true)
    (a__law_first_repeated : PySem.W.nsIn K mainGlobals "_law_first_repeated" = some (some (.ref f__law_first_repeated)))
    (l__law_first_repeated : K.lookup f__law_first_repeated = some ⟨oc__law_first_repeated, od__law_first_repeated, .func (PySem.W.fnOf "_law_first_repeated" "_law_first_repeated" (C8.fnArgs s__law_first_repeated) (C8.fnBody s__law_first_repeated) (C8.fnScope s__law_first_repeated) .none kV__law_first_repeated dc__law_first_repeated pm__law_first_repeated an__law_first_repeated cd__law_first_repeated ct__law_first_repeated), sl__law_first_repeated⟩)
    (co__law_first_repeated : PySem.W.codeIn K cd__law_first_repeated "_law_first_repeated" = true)
    (k__law_first_repeated : PySem.W.keepIn K (.ref f__law_first_repeated) = true)
    (a__law_distances : PySem.W.nsIn K mainGlobals "_law_distances" = some (some (.ref f__law_distances)))
    (l__law_distances : K.lookup f__law_distances = some ⟨oc__law_distances, od__law_distances, .func (PySem.W.fnOf "_law_distances" "_law_distances" (C8.fnArgs s__law_distances) (C8.fnBody s__law_distances) (C8.fnScope s__law_distances) .none kV__law_distances dc__law_distances pm__law_distances an__law_distances cd__law_distances ct__law_distances), sl__law_distances⟩)
    (co__law_distances : PySem.W.codeIn K cd__law_distances "_law_distances" = true)
    (k__law_distances : PySem.W.keepIn K (.ref f__law_distances) = true)
    (a__law_is_numbers : PySem.W.nsIn K mainGlobals "_law_is_numbers" = some (some (.ref f__law_is_numbers)))
    (l__law_is_numbers : K.lookup f__law_is_numbers = some ⟨oc__law_is_numbers, od__law_is_numbers, .func (PySem.W.fnOf "_law_is_numbers" "_law_is_numbers" (C8.fnArgs s__law_is_numbers) (C8.fnBody s__law_is_numbers) (C8.fnScope s__law_is_numbers) .none kV__law_is_numbers dc__law_is_numbers pm__law_is_numbers an__law_is_numbers cd__law_is_numbers ct__law_is_numbers), sl__law_is_numbers⟩)
    (co__law_is_numbers : PySem.W.codeIn K cd__law_is_numbers "_law_is_numbers" = true)
    (k__law_is_numbers : PySem.W.keepIn K (.ref f__law_is_numbers) = true)
    (a__law_is_repeated : PySem.W.nsIn K mainGlobals "_law_is_repeated" = some (some (.ref f__law_is_repeated)))
    (l__law_is_repeated : K.lookup f__law_is_repeated = some ⟨oc__law_is_repeated, od__law_is_repeated, .func (PySem.W.fnOf "_law_is_repeated" "_law_is_repeated" (C8.fnArgs s__law_is_repeated) (C8.fnBody s__law_is_repeated) (C8.fnScope s__law_is_repeated) .none kV__law_is_repeated dc__law_is_repeated pm__law_is_repeated an__law_is_repeated cd__law_is_repeated ct__law_is_repeated), sl__law_is_repeated⟩)
    (co__law_is_repeated : PySem.W.codeIn K cd__law_is_repeated "_law_is_repeated" = true)
    (k__law_is_repeated : PySem.W.keepIn K (.ref f__law_is_repeated) = true)
    (a__law_asked : PySem.W.nsIn K mainGlobals "_law_asked" = some (some (.ref f__law_asked)))
    (l__law_asked : K.lookup f__law_asked = some ⟨oc__law_asked, od__law_asked, .func (PySem.W.fnOf "_law_asked" "_law_asked" (C8.fnArgs s__law_asked) (C8.fnBody s__law_asked) (C8.fnScope s__law_asked) .none kV__law_asked dc__law_asked pm__law_asked an__law_asked cd__law_asked ct__law_asked), sl__law_asked⟩)
    (co__law_asked : PySem.W.codeIn K cd__law_asked "_law_asked" = true)
    (k__law_asked : PySem.W.keepIn K (.ref f__law_asked) = true)
    (a__law_good : PySem.W.nsIn K mainGlobals "_law_good" = some (some (.ref f__law_good)))
    (l__law_good : K.lookup f__law_good = some ⟨oc__law_good, od__law_good, .func (PySem.W.fnOf "_law_good" "_law_good" (C8.fnArgs s__law_good) (C8.fnBody s__law_good) (C8.fnScope s__law_good) .none kV__law_good dc__law_good pm__law_good an__law_good cd__law_good ct__law_good), sl__law_good⟩)
    (co__law_good : PySem.W.codeIn K cd__law_good "_law_good" = true)
    (k__law_good : PySem.W.keepIn K (.ref f__law_good) = true)
    (a__law_both : PySem.W.nsIn K mainGlobals "_law_both" = some (some (.ref f__law_both)))
    (l__law_both : K.lookup f__law_both = some ⟨oc__law_both, od__law_both, .func (PySem.W.fnOf "_law_both" "_law_both" (C8.fnArgs s__law_both) (C8.fnBody s__law_both) (C8.fnScope s__law_both) .none kV__law_both dc__law_both pm__law_both an__law_both cd__law_both ct__law_both), sl__law_both⟩)
    (co__law_both : PySem.W.codeIn K cd__law_both "_law_both" = true)
    (k__law_both : PySem.W.keepIn K (.ref f__law_both) = true)
    (a__law_table : PySem.W.nsIn K mainGlobals "_law_table" = some (some (.ref f__law_table)))
    (l__law_table : K.lookup f__law_table = some ⟨oc__law_table, od__law_table, .func (PySem.W.fnOf "_law_table" "_law_table" (C8.fnArgs s__law_table) (C8.fnBody s__law_table) (C8.fnScope s__law_table) .none kV__law_table dc__law_table pm__law_table an__law_table cd__law_table ct__law_table), sl__law_table⟩)
    (co__law_table : PySem.W.codeIn K cd__law_table "_law_table" = true)
    (k__law_table : PySem.W.keepIn K (.ref f__law_table) = true)
    (a_law : PySem.W.nsIn K mainGlobals "law" = some (some (.ref f_law)))
    (l_law : K.lookup f_law = some ⟨oc_law, od_law, .func (PySem.W.fnOf "law" "law" (C8.fnArgs s_law) (C8.fnBody s_law) (C8.fnScope s_law) .none kV_law dc_law pm_law an_law cd_law ct_law), sl_law⟩)
    (co_law : PySem.W.codeIn K cd_law "law" = true)
    (k_law : PySem.W.keepIn K (.ref f_law) = true)
    (a_te : PySem.W.findIn K (.ref B) "__init__" = some (some (.ref f_te)))
    (l_te : K.lookup f_te = some ⟨oc_te, od_te, .func (PySem.W.fnOf "__init__" "TableError.__init__" (C8.fnArgs s_TableError___init__) (C8.fnBody s_TableError___init__) (C8.fnScope s_TableError___init__) .none kV_te dc_te pm_te an_te cd_te ct_te), sl_te⟩)
    (co_te : PySem.W.codeIn K cd_te "TableError.__init__" = true)
    (k_te : PySem.W.keepIn K (.ref f_te) = true)
    (a_ie : PySem.W.findIn K (.ref I) "__init__" = some (some (.ref f_ie)))
    (l_ie : K.lookup f_ie = some ⟨oc_ie, od_ie, .func (PySem.W.fnOf "__init__" "IndexedError.__init__" (C8.fnArgs s_IndexedError___init__) (C8.fnBody s_IndexedError___init__) (C8.fnScope s_IndexedError___init__) .none kV_ie dc_ie pm_ie an_ie cd_ie ct_ie), sl_ie⟩)
    (co_ie : PySem.W.codeIn K cd_ie "IndexedError.__init__" = true)
    (k_ie : PySem.W.keepIn K (.ref f_ie) = true)
    (g_B : PySem.W.nsIn K mainGlobals "TableError" = some (some (.ref B)))
    (g_I : PySem.W.nsIn K mainGlobals "IndexedError" = some (some (.ref I)))
    (g_C : PySem.W.nsIn K mainGlobals "DuplicatePoint" = some (some (.ref C)))
    (g_Cp : PySem.W.nsIn K mainGlobals "BadPlace" = some (some (.ref Cp)))
    (g_Tx : PySem.W.nsIn K mainGlobals "BadText" = some (some (.ref Tx)))
    (g_Ed : PySem.W.nsIn K mainGlobals "BadEdge" = some (some (.ref Ed)))
    (g_Ln : PySem.W.nsIn K mainGlobals "BadLine" = some (some (.ref Ln)))
    (g_Nf : PySem.W.nsIn K mainGlobals "NotAFactor" = some (some (.ref Nf)))
    (g_M : PySem.W.nsIn K mainGlobals "MixedDimensions" = some (some (.ref M)))
    (g_Z : PySem.W.nsIn K mainGlobals "ZeroRow" = some (some (.ref Z)))
    (xl_C : K.lookup C = some (excClassObj nm_C q_C C N_C bs_C bm_C true sn_C sub_C ab_C col_C dd_C m0_C m1_C (some (.str "DuplicatePoint" tk_C)) m3_C m5_C "ValueError.__new__"))
    (vb_C : PySem.HandSPX.refsVE bm_C = true)
    (sa_C : PySem.W.findIn K (.ref C) "__setattr__" = some (some (.builtin "object.__setattr__")))
    (ex_C : PySem.W.subIn K (.ref C) (.type "BaseException") = some true)
    (ty_C : PySem.W.typeIn K (.ref C) = some (.type "type"))
    (kc_C : PySem.W.keepIn K (.ref C) = true)
    (ga_C : PySem.W.findIn K (.ref C) "__getattribute__" = some (some (.builtin "BaseException.__getattribute__")))
    (gg_C : PySem.W.findIn K (.ref C) "__getattr__" = some none)
    (hd_C : PySem.W.hasDictIn K C = true)
    (ha_C : PySem.W.findIn K (.ref C) "__class__" = some (some (.builtin "object.__class__")))
    (mr_C : PySem.W.mroIn K C (.type "object") = some true)
    (rd_C : PySem.W.readsIn K C (.type "type") = true)
    (fn_C : PySem.W.findCls K (.ref C) (.type "type") "__name__" = some (.get (.builtin "getset_descriptor.__get__") (.builtin "type.__name__") (.ref C) (.type "type")))
    (nw_C : PySem.W.findIn K (.ref C) "word" = some none)
    (ni_C : PySem.W.findIn K (.ref C) "index" = some none)
    (in_C : PySem.W.findIn K (.ref C) "__init__" = some (some (.ref f_ie)))
    (hn : PySem.W.specialIn K (.builtin "object.__class__") "__get__" = some (some (.builtin "getset_descriptor.__get__")))
    (ht : PySem.W.takesIn K (.builtin "object.__class__") = some true)
    (ti_ie : PySem.W.typeIn K (.ref f_ie) = some (.type "function"))
    (ti_te : PySem.W.typeIn K (.ref f_te) = some (.type "function"))
    (rB : PySem.W.readsIn K B (.type "type") = true)
    (sB : PySem.W.specialIn K (.ref B) "__getattribute__" = some (some (.builtin "type.__getattribute__")))
    (fB : PySem.W.findCls K (.ref B) (.type "type") "__init__" = some (.val (.ref f_te)))
    (xC : PySem.W.exmOne K (.ref C) (.ref B) = some true)
    (kBC : PySem.W.kitOne K (.ref C) (.ref B) = some true)
    (kVC : PySem.W.kitOne K (.ref C) (.type "ValueError") = some true)
    (k1 : PySem.W.kitOne K (.ref C) (.ref C) = some true)
    (k2 : PySem.W.kitOne K (.ref C) (.ref Cp) = some false)
    (k3 : PySem.W.kitOne K (.ref C) (.ref Tx) = some false)
    (k4 : PySem.W.kitOne K (.ref C) (.ref Ed) = some false)
    (k5 : PySem.W.kitOne K (.ref C) (.ref Ln) = some false)
    (k6 : PySem.W.kitOne K (.ref C) (.ref Nf) = some false)
    (k7 : PySem.W.kitOne K (.ref C) (.ref M) = some false)
    (k8 : PySem.W.kitOne K (.ref C) (.ref Z) = some false) :
    ∃ fd : FuncData, (∀ (s : Shared) (v : Value), BindsTo s fd ⟨[v], []⟩ [("_law_script", v)]) ∧ ∀ base : Heap, K.In base → base.Ns mainGlobals mg → FnOk l.prog w K mg base L2.CX0 8 fa fd ["_law_script"] (spLaw K) := by
  have e := hfa.symm.trans (PySem.W.mg_of X G a_law)
  cases e
  have T : Bi mg := ⟨PySem.W.mg_none_of X G z_len, PySem.W.mg_none_of X G z_int, PySem.W.mg_none_of X G z_str, PySem.W.mg_none_of X G z_bool, PySem.W.mg_none_of X G z_list, PySem.W.mg_none_of X G z_tuple, PySem.W.mg_none_of X G z_range, PySem.W.mg_none_of X G z_enumerate, PySem.W.mg_none_of X G z_isinstance, PySem.W.mg_none_of X G z_sorted, PySem.W.mg_none_of X G z_abs, PySem.W.mg_none_of X G z_any, PySem.W.mg_none_of X G z_sum, PySem.W.mg_none_of X G z_min, PySem.W.mg_none_of X G z_max, PySem.W.mg_none_of X G z_zip, PySem.W.mg_none_of X G z_set⟩
  have D_row_of : C8.Def K mg "row_of" s_row_of f_row_of _ := ⟨⟨⟨_, _, _, _, _, _, _, _, _, _, rfl, l_row_of, co_row_of⟩⟩, PySem.W.mg_of X G a_row_of, k_row_of⟩
  have b_row_of := D_row_of.fn.binds (ps := ["numbers"]) rfl fun _ _ _ _ _ _ us hl => match us, hl with | [_], _ => rfl
  have D_gather : C8.Def K mg "gather" s_gather f_gather _ := ⟨⟨⟨_, _, _, _, _, _, _, _, _, _, rfl, l_gather, co_gather⟩⟩, PySem.W.mg_of X G a_gather, k_gather⟩
  have b_gather := D_gather.fn.binds (ps := ["entries"]) rfl fun _ _ _ _ _ _ us hl => match us, hl with | [_], _ => rfl
  have D_require_different : C8.Def K mg "require_different" s_require_different f_require_different _ := ⟨⟨⟨_, _, _, _, _, _, _, _, _, _, rfl, l_require_different, co_require_different⟩⟩, PySem.W.mg_of X G a_require_different, k_require_different⟩
  have b_require_different := D_require_different.fn.binds (ps := ["points"]) rfl fun _ _ _ _ _ _ us hl => match us, hl with | [_], _ => rfl
  have D_row_of_points : C8.Def K mg "row_of_points" s_row_of_points f_row_of_points _ := ⟨⟨⟨_, _, _, _, _, _, _, _, _, _, rfl, l_row_of_points, co_row_of_points⟩⟩, PySem.W.mg_of X G a_row_of_points, k_row_of_points⟩
  have b_row_of_points := D_row_of_points.fn.binds (ps := ["points"]) rfl fun _ _ _ _ _ _ us hl => match us, hl with | [_], _ => rfl
  have D_distances : C8.Def K mg "distances" s_distances f_distances _ := ⟨⟨⟨_, _, _, _, _, _, _, _, _, _, rfl, l_distances, co_distances⟩⟩, PySem.W.mg_of X G a_distances, k_distances⟩
  have b_distances := D_distances.fn.binds (ps := ["points"]) rfl fun _ _ _ _ _ _ us hl => match us, hl with | [_], _ => rfl
  have D_table_of_distances : C8.Def K mg "table_of_distances" s_table_of_distances f_table_of_distances _ := ⟨⟨⟨_, _, _, _, _, _, _, _, _, _, rfl, l_table_of_distances, co_table_of_distances⟩⟩, PySem.W.mg_of X G a_table_of_distances, k_table_of_distances⟩
  have b_table_of_distances := D_table_of_distances.fn.binds (ps := ["count", "differences"]) rfl fun _ _ _ _ _ _ us hl => match us, hl with | [_, _], _ => rfl
  have D__law_cell : C8.Def K mg "_law_cell" s__law_cell f__law_cell _ := ⟨⟨⟨_, _, _, _, _, _, _, _, _, _, rfl, l__law_cell, co__law_cell⟩⟩, PySem.W.mg_of X G a__law_cell, k__law_cell⟩
  have b__law_cell := D__law_cell.fn.binds (ps := ["_law_script", "_law_k"]) rfl fun _ _ _ _ _ _ us hl => match us, hl with | [_, _], _ => rfl
  have D__law_draws : C8.Def K mg "_law_draws" s__law_draws f__law_draws _ := ⟨⟨⟨_, _, _, _, _, _, _, _, _, _, rfl, l__law_draws, co__law_draws⟩⟩, PySem.W.mg_of X G a__law_draws, k__law_draws⟩
  have b__law_draws := D__law_draws.fn.binds (ps := ["_law_cell_here", "_law_sizes"]) rfl fun _ _ _ _ _ _ us hl => match us, hl with | [_, _], _ => rfl
  have D__law_is_integer : C8.Def K mg "_law_is_integer" s__law_is_integer f__law_is_integer _ := ⟨⟨⟨_, _, _, _, _, _, _, _, _, _, rfl, l__law_is_integer, co__law_is_integer⟩⟩, PySem.W.mg_of X G a__law_is_integer, k__law_is_integer⟩
  have b__law_is_integer := D__law_is_integer.fn.binds (ps := ["_law_actual"]) rfl fun _ _ _ _ _ _ us hl => match us, hl with | [_], _ => rfl
  have D__law_is_place : C8.Def K mg "_law_is_place" s__law_is_place f__law_is_place _ := ⟨⟨⟨_, _, _, _, _, _, _, _, _, _, rfl, l__law_is_place, co__law_is_place⟩⟩, PySem.W.mg_of X G a__law_is_place, k__law_is_place⟩
  have b__law_is_place := D__law_is_place.fn.binds (ps := ["_law_actual"]) rfl fun _ _ _ _ _ _ us hl => match us, hl with | [_], _ => rfl
  have D__law_is_row : C8.Def K mg "_law_is_row" s__law_is_row f__law_is_row _ := ⟨⟨⟨_, _, _, _, _, _, _, _, _, _, rfl, l__law_is_row, co__law_is_row⟩⟩, PySem.W.mg_of X G a__law_is_row, k__law_is_row⟩
  have b__law_is_row := D__law_is_row.fn.binds (ps := ["_law_actual"]) rfl fun _ _ _ _ _ _ us hl => match us, hl with | [_], _ => rfl
  have D__law_same : C8.Def K mg "_law_same" s__law_same f__law_same _ := ⟨⟨⟨_, _, _, _, _, _, _, _, _, _, rfl, l__law_same, co__law_same⟩⟩, PySem.W.mg_of X G a__law_same, k__law_same⟩
  have b__law_same := D__law_same.fn.binds (ps := ["_law_actual", "_law_expected"]) rfl fun _ _ _ _ _ _ us hl => match us, hl with | [_, _], _ => rfl
  have D__law_plus : C8.Def K mg "_law_plus" s__law_plus f__law_plus _ := ⟨⟨⟨_, _, _, _, _, _, _, _, _, _, rfl, l__law_plus, co__law_plus⟩⟩, PySem.W.mg_of X G a__law_plus, k__law_plus⟩
  have b__law_plus := D__law_plus.fn.binds (ps := ["_law_place", "_law_other"]) rfl fun _ _ _ _ _ _ us hl => match us, hl with | [_, _], _ => rfl
  have D__law_back : C8.Def K mg "_law_back" s__law_back f__law_back _ := ⟨⟨⟨_, _, _, _, _, _, _, _, _, _, rfl, l__law_back, co__law_back⟩⟩, PySem.W.mg_of X G a__law_back, k__law_back⟩
  have b__law_back := D__law_back.fn.binds (ps := ["_law_place"]) rfl fun _ _ _ _ _ _ us hl => match us, hl with | [_], _ => rfl
  have D__law_row : C8.Def K mg "_law_row" s__law_row f__law_row _ := ⟨⟨⟨_, _, _, _, _, _, _, _, _, _, rfl, l__law_row, co__law_row⟩⟩, PySem.W.mg_of X G a__law_row, k__law_row⟩
  have b__law_row := D__law_row.fn.binds (ps := ["_law_pairs"]) rfl fun _ _ _ _ _ _ us hl => match us, hl with | [_], _ => rfl
  have D__law_times : C8.Def K mg "_law_times" s__law_times f__law_times _ := ⟨⟨⟨_, _, _, _, _, _, _, _, _, _, rfl, l__law_times, co__law_times⟩⟩, PySem.W.mg_of X G a__law_times, k__law_times⟩
  have b__law_times := D__law_times.fn.binds (ps := ["_law_first", "_law_second"]) rfl fun _ _ _ _ _ _ us hl => match us, hl with | [_, _], _ => rfl
  have D__law_mirror : C8.Def K mg "_law_mirror" s__law_mirror f__law_mirror _ := ⟨⟨⟨_, _, _, _, _, _, _, _, _, _, rfl, l__law_mirror, co__law_mirror⟩⟩, PySem.W.mg_of X G a__law_mirror, k__law_mirror⟩
  have b__law_mirror := D__law_mirror.fn.binds (ps := ["_law_row_here"]) rfl fun _ _ _ _ _ _ us hl => match us, hl with | [_], _ => rfl
  have D__law_cross : C8.Def K mg "_law_cross" s__law_cross f__law_cross _ := ⟨⟨⟨_, _, _, _, _, _, _, _, _, _, rfl, l__law_cross, co__law_cross⟩⟩, PySem.W.mg_of X G a__law_cross, k__law_cross⟩
  have b__law_cross := D__law_cross.fn.binds (ps := ["_law_first", "_law_second"]) rfl fun _ _ _ _ _ _ us hl => match us, hl with | [_, _], _ => rfl
  have D__law_own : C8.Def K mg "_law_own" s__law_own f__law_own _ := ⟨⟨⟨_, _, _, _, _, _, _, _, _, _, rfl, l__law_own, co__law_own⟩⟩, PySem.W.mg_of X G a__law_own, k__law_own⟩
  have b__law_own := D__law_own.fn.binds (ps := ["_law_row_here"]) rfl fun _ _ _ _ _ _ us hl => match us, hl with | [_], _ => rfl
  have D__law_is_error : C8.Def K mg "_law_is_error" s__law_is_error f__law_is_error _ := ⟨⟨⟨_, _, _, _, _, _, _, _, _, _, rfl, l__law_is_error, co__law_is_error⟩⟩, PySem.W.mg_of X G a__law_is_error, k__law_is_error⟩
  have b__law_is_error := D__law_is_error.fn.binds (ps := ["_law_e", "_law_word"]) rfl fun _ _ _ _ _ _ us hl => match us, hl with | [_, _], _ => rfl
  have D__law_points : C8.Def K mg "_law_points" s__law_points f__law_points _ := ⟨⟨⟨_, _, _, _, _, _, _, _, _, _, rfl, l__law_points, co__law_points⟩⟩, PySem.W.mg_of X G a__law_points, k__law_points⟩
  have b__law_points := D__law_points.fn.binds (ps := ["_law_cell_here", "_law_other", "_law_count", "_law_widest", "_law_start"]) rfl fun _ _ _ _ _ _ us hl => match us, hl with | [_, _, _, _, _], _ => rfl
  have D__law_repeated : C8.Def K mg "_law_repeated" s__law_repeated f__law_repeated _ := ⟨⟨⟨_, _, _, _, _, _, _, _, _, _, rfl, l__law_repeated, co__law_repeated⟩⟩, PySem.W.mg_of X G a__law_repeated, k__law_repeated⟩
  have b__law_repeated := D__law_repeated.fn.binds (ps := ["_law_cell_here", "_law_points_here", "_law_times_here"]) rfl fun _ _ _ _ _ _ us hl => match us, hl with | [_, _, _], _ => rfl
  have D__law_first_repeated : C8.Def K mg "_law_first_repeated" s__law_first_repeated f__law_first_repeated _ := ⟨⟨⟨_, _, _, _, _, _, _, _, _, _, rfl, l__law_first_repeated, co__law_first_repeated⟩⟩, PySem.W.mg_of X G a__law_first_repeated, k__law_first_repeated⟩
  have b__law_first_repeated := D__law_first_repeated.fn.binds (ps := ["_law_points_here"]) rfl fun _ _ _ _ _ _ us hl => match us, hl with | [_], _ => rfl
  have D__law_distances : C8.Def K mg "_law_distances" s__law_distances f__law_distances _ := ⟨⟨⟨_, _, _, _, _, _, _, _, _, _, rfl, l__law_distances, co__law_distances⟩⟩, PySem.W.mg_of X G a__law_distances, k__law_distances⟩
  have b__law_distances := D__law_distances.fn.binds (ps := ["_law_points_here"]) rfl fun _ _ _ _ _ _ us hl => match us, hl with | [_], _ => rfl
  have D__law_is_numbers : C8.Def K mg "_law_is_numbers" s__law_is_numbers f__law_is_numbers _ := ⟨⟨⟨_, _, _, _, _, _, _, _, _, _, rfl, l__law_is_numbers, co__law_is_numbers⟩⟩, PySem.W.mg_of X G a__law_is_numbers, k__law_is_numbers⟩
  have b__law_is_numbers := D__law_is_numbers.fn.binds (ps := ["_law_actual"]) rfl fun _ _ _ _ _ _ us hl => match us, hl with | [_], _ => rfl
  have D__law_is_repeated : C8.Def K mg "_law_is_repeated" s__law_is_repeated f__law_is_repeated _ := ⟨⟨⟨_, _, _, _, _, _, _, _, _, _, rfl, l__law_is_repeated, co__law_is_repeated⟩⟩, PySem.W.mg_of X G a__law_is_repeated, k__law_is_repeated⟩
  have b__law_is_repeated := D__law_is_repeated.fn.binds (ps := ["_law_e"]) rfl fun _ _ _ _ _ _ us hl => match us, hl with | [_], _ => rfl
  have D__law_asked : C8.Def K mg "_law_asked" s__law_asked f__law_asked _ := ⟨⟨⟨_, _, _, _, _, _, _, _, _, _, rfl, l__law_asked, co__law_asked⟩⟩, PySem.W.mg_of X G a__law_asked, k__law_asked⟩
  have b__law_asked := D__law_asked.fn.binds (ps := ["_law_which", "_law_points_here"]) rfl fun _ _ _ _ _ _ us hl => match us, hl with | [_, _], _ => rfl
  have D__law_good : C8.Def K mg "_law_good" s__law_good f__law_good _ := ⟨⟨⟨_, _, _, _, _, _, _, _, _, _, rfl, l__law_good, co__law_good⟩⟩, PySem.W.mg_of X G a__law_good, k__law_good⟩
  have b__law_good := D__law_good.fn.binds (ps := ["_law_which", "_law_told", "_law_points_here"]) rfl fun _ _ _ _ _ _ us hl => match us, hl with | [_, _, _], _ => rfl
  have D__law_both : C8.Def K mg "_law_both" s__law_both f__law_both _ := ⟨⟨⟨_, _, _, _, _, _, _, _, _, _, rfl, l__law_both, co__law_both⟩⟩, PySem.W.mg_of X G a__law_both, k__law_both⟩
  have b__law_both := D__law_both.fn.binds (ps := ["_law_points_here"]) rfl fun _ _ _ _ _ _ us hl => match us, hl with | [_], _ => rfl
  have D__law_table : C8.Def K mg "_law_table" s__law_table f__law_table _ := ⟨⟨⟨_, _, _, _, _, _, _, _, _, _, rfl, l__law_table, co__law_table⟩⟩, PySem.W.mg_of X G a__law_table, k__law_table⟩
  have b__law_table := D__law_table.fn.binds (ps := ["_law_count", "_law_differences", "_law_expected"]) rfl fun _ _ _ _ _ _ us hl => match us, hl with | [_, _, _], _ => rfl
  have D_law : C8.Def K mg "law" s_law fa _ := ⟨⟨⟨_, _, _, _, _, _, _, _, _, _, rfl, l_law, co_law⟩⟩, hfa, k_law⟩
  have b_law := D_law.fn.binds (ps := ["_law_script"]) rfl fun _ _ _ _ _ _ us hl => match us, hl with | [_], _ => rfl
  have D_te : C8.Fun K "__init__" "TableError.__init__" s_TableError___init__ f_te _ := ⟨⟨_, _, _, _, _, _, _, _, _, _, rfl, l_te, co_te⟩⟩
  have b_te := D_te.binds (ps := ["self"]) rfl fun _ _ _ _ _ _ us hl => match us, hl with | [_], _ => rfl
  have D_ie : C8.Fun K "__init__" "IndexedError.__init__" s_IndexedError___init__ f_ie _ := ⟨⟨_, _, _, _, _, _, _, _, _, _, rfl, l_ie, co_ie⟩⟩
  have b_ie := D_ie.binds (ps := ["self", "index"]) rfl fun _ _ _ _ _ _ us hl => match us, hl with | [_, _], _ => rfl
  have oc_C : PySem.W.OtCls K C := ⟨ga_C, gg_C, ex_C, hd_C, ha_C, hn, ht, mr_C⟩
  have er_C : OtErr K C "DuplicatePoint" := ⟨⟨⟨_, _, _, _, _, _, _, _, _, _, _, _, _, _, _, xl_C, vb_C⟩, sa_C, ex_C, ty_C, kc_C⟩, oc_C, ⟨⟨_, _, _, _, _, xl_C, rfl⟩, rd_C, ty_C, fn_C⟩, nw_C, ni_C⟩
  have ei_C : ErrI K mg "DuplicatePoint" C f_ie := ⟨PySem.W.mg_of X G g_C, er_C, in_C, ti_ie⟩
  refine ⟨PySem.W.fnOf "law" "law" (C8.fnArgs s_law) (C8.fnBody s_law) (C8.fnScope s_law) .none kV_law dc_law pm_law an_law cd_law ct_law, fun s v => .of_eq rfl, fun base _ _ => ?_⟩
  have GT : FnOk l.prog w K mg base L2.CX0 1 f_te _ ["self"] (spTE K) := ok_te D_te
  have RB : OtRead K B "__init__" f_te := ⟨rB, sB, fB, k_te⟩
  have GI := ok_ie D_ie GT b_te RB (PySem.W.mg_of X G g_B)
  have gB := PySem.W.mg_of X G g_B
  have c1 := c__law_cell (P := l.prog) (w := w) (base := base) D__law_cell b__law_cell T
  have c2 : C8.Cal l.prog w K mg base 1 "_law_draws" (spDraws K) [] := c__law_draws D__law_draws b__law_draws T
  have c3 := c__law_is_integer (P := l.prog) (w := w) (base := base) D__law_is_integer b__law_is_integer T
  have c4 := c__law_is_place D__law_is_place b__law_is_place T c3
  have c5 := c__law_is_row D__law_is_row b__law_is_row T c4 c3
  have c6 := c__law_same D__law_same b__law_same T c5
  have c7 := c__law_back (P := l.prog) (w := w) (base := base) D__law_back b__law_back T
  have c8 := c__law_row (P := l.prog) (w := w) (base := base) D__law_row b__law_row T
  have c9 := c__law_plus (P := l.prog) (w := w) (base := base) D__law_plus b__law_plus T
  have c17 := c__law_mirror D__law_mirror b__law_mirror T c8 c7
  have c25 := c__law_times D__law_times b__law_times T c9 c8
  have c26 := c__law_cross D__law_cross b__law_cross T c25 c17
  have c27 := c__law_own D__law_own b__law_own T c26
  have d5 := c_row_of (P := l.prog) (w := w) (base := base) D_row_of b_row_of T
  have d6 := c_gather D_gather b_gather T d5
  have GR := ok_require_different D_require_different T ei_C GI b_ie
  have GRp := ok_row_of_points D_row_of_points T D_require_different b_require_different GR
  have GDs := ok_distances D_distances T D_require_different b_require_different GR
  have d7 := c_table_of_distances D_table_of_distances b_table_of_distances T d6
  have p1 := c__law_points D__law_points b__law_points T c2
  have p2 := c__law_repeated D__law_repeated b__law_repeated T c2
  have p3 := c__law_first_repeated (P := l.prog) (w := w) (base := base) D__law_first_repeated b__law_first_repeated T
  have p4 := c__law_distances (P := l.prog) (w := w) (base := base) D__law_distances b__law_distances T
  have p5 := c__law_is_numbers D__law_is_numbers b__law_is_numbers T c3
  have h1 := h__law_is_error (P := l.prog) (w := w) (base := base) D__law_is_error T gB (PySem.W.mg_none_of X G z_ValueError)
  have h3 := h__law_is_integer (P := l.prog) (w := w) (base := base) D__law_is_integer T
  have h2 := h__law_is_repeated D__law_is_repeated T er_C er_C.ni ⟨kBC, kVC⟩ (PySem.W.mg_of X G g_C) (PySem.W.mg_of X G g_Cp) (PySem.W.mg_of X G g_Tx) (PySem.W.mg_of X G g_Ed) (PySem.W.mg_of X G g_Ln) (PySem.W.mg_of X G g_Nf) (PySem.W.mg_of X G g_M) (PySem.W.mg_of X G g_Z) ⟨k1, k2, k3, k4, k5, k6, k7, k8⟩ D__law_is_error b__law_is_error h1 D__law_is_integer b__law_is_integer h3
  have c40 := c__law_asked D__law_asked b__law_asked T gB er_C er_C.ni xC D_row_of_points b_row_of_points GRp D_distances b_distances GDs D__law_is_repeated b__law_is_repeated h2
  have c41 := c__law_good D__law_good b__law_good T p3 c6 p5 p4
  have c42 := c__law_both D__law_both b__law_both T c40 c41
  have c43 := c__law_table D__law_table b__law_table T d7 c6
  exact c_law D_law b_law T c1 c2 p1 c42 p2 c43 p4 c27 c8
theorem walk {l : PySem.W.OpenLaw} {q : Program} {loose : List Str} {XP : (Str → Option Value) → Heap → Prop} {YP : World → Heap → Prop} {d : DefRec} {K : Params → PySem.W.Frag} (hn : l.most = some 63) (hdf : d.params.defaults = [])
    (hY : ∀ (w : World) (h : Heap), YP w h → (K w.params).In h)
    (F : ∀ (w : World) (mg : Str → Option Value) (fa : Addr) (h : Heap), (K w.params).In h → h.Ns mainGlobals mg → mg d.name = some (.ref fa) →
      ∃ fd : FuncData, (∀ (s : Shared) (u : Value), BindsTo s fd ⟨[u], []⟩ [("_law_script", u)]) ∧ ∀ base : Heap, (K w.params).In base → base.Ns mainGlobals mg → FnOk l.prog w (K w.params) mg base L2.CX0 8 fa fd ["_law_script"] (spLaw (K w.params))) :
    PySem.W.WalkO q loose XP YP l.row.toRowW d [] (fun f vs => PySem.call f vs) :=
  L2.walk_ofK (n := 63) (k := 8) (x := "_law_script") (CX := L2.CX0) (sp := spLaw) hn (by decide) hdf ⟨rfl, by decide, by decide⟩ hY F (fun _ _ a ns hl _ hS => ⟨a, ns, rfl, hS, hl, fun _ => rfl⟩) fun _ _ _ _ z => z
end OT
open PySem PySem.W PyProof.Rows
set_option maxRecDepth 100000 in
set_option maxHeartbeats 0 in
theorem PySem.Challenge.cw_owntables_k08_points_holds : PySem.Challenge.rw_owntables_k08_points.Holds := by
  w_on; o_law; k_head; (case hw => w_witness2)
  k_fill
  refine OT.walk (l := PySem.Challenge.rw_owntables_k08_points) rfl rfl (fun w h Y => PySem.W.kIn_of Y) ?F
  case F =>
    intro w mg fa h KX G hmg
    refine' OT.all_mk KX G hmg ?z_len ?z_int ?z_str ?z_bool ?z_list ?z_tuple ?z_range ?z_enumerate ?z_isinstance ?z_sorted ?z_abs ?z_any ?z_sum ?z_min ?z_max ?z_zip ?z_set ?z_ValueError ?a_row_of ?l_row_of ?co_row_of ?k_row_of ?a_gather ?l_gather ?co_gather ?k_gather ?a_require_different ?l_require_different ?co_require_different ?k_require_different ?a_row_of_points ?l_row_of_points ?co_row_of_points ?k_row_of_points ?a_distances ?l_distances ?co_distances ?k_distances ?a_table_of_distances ?l_table_of_distances ?co_table_of_distances ?k_table_of_distances ?a__law_cell ?l__law_cell ?co__law_cell ?k__law_cell ?a__law_draws ?l__law_draws ?co__law_draws ?k__law_draws ?a__law_is_integer ?l__law_is_integer ?co__law_is_integer ?k__law_is_integer ?a__law_is_place ?l__law_is_place ?co__law_is_place ?k__law_is_place ?a__law_is_row ?l__law_is_row ?co__law_is_row ?k__law_is_row ?a__law_same ?l__law_same ?co__law_same ?k__law_same ?a__law_plus ?l__law_plus ?co__law_plus ?k__law_plus ?a__law_back ?l__law_back ?co__law_back ?k__law_back ?a__law_row ?l__law_row ?co__law_row ?k__law_row ?a__law_times ?l__law_times ?co__law_times ?k__law_times ?a__law_mirror ?l__law_mirror ?co__law_mirror ?k__law_mirror ?a__law_cross ?l__law_cross ?co__law_cross ?k__law_cross ?a__law_own ?l__law_own ?co__law_own ?k__law_own ?a__law_is_error ?l__law_is_error ?co__law_is_error ?k__law_is_error ?a__law_points ?l__law_points ?co__law_points ?k__law_points ?a__law_repeated ?l__law_repeated ?co__law_repeated ?k__law_repeated ?a__law_first_repeated ?l__law_first_repeated ?co__law_first_repeated ?k__law_first_repeated ?a__law_distances ?l__law_distances ?co__law_distances ?k__law_distances ?a__law_is_numbers ?l__law_is_numbers ?co__law_is_numbers ?k__law_is_numbers ?a__law_is_repeated ?l__law_is_repeated ?co__law_is_repeated ?k__law_is_repeated ?a__law_asked ?l__law_asked ?co__law_asked ?k__law_asked ?a__law_good ?l__law_good ?co__law_good ?k__law_good ?a__law_both ?l__law_both ?co__law_both ?k__law_both ?a__law_table ?l__law_table ?co__law_table ?k__law_table ?a_law ?l_law ?co_law ?k_law ?a_te ?l_te ?co_te ?k_te ?a_ie ?l_ie ?co_ie ?k_ie ?g_B ?g_I ?g_C ?g_Cp ?g_Tx ?g_Ed ?g_Ln ?g_Nf ?g_M ?g_Z ?xl_C ?vb_C ?sa_C ?ex_C ?ty_C ?kc_C ?ga_C ?gg_C ?hd_C ?ha_C ?mr_C ?rd_C ?fn_C ?nw_C ?ni_C ?in_C ?hn ?ht ?ti_ie ?ti_te ?rB ?sB ?fB ?xC ?kBC ?kVC ?k1 ?k2 ?k3 ?k4 ?k5 ?k6 ?k7 ?k8
    (case g_B => k_is)
    (case g_I => k_is)
    (case g_C => k_is)
    (case g_Cp => k_is)
    (case g_Tx => k_is)
    (case g_Ed => k_is)
    (case g_Ln => k_is)
    (case g_Nf => k_is)
    (case g_M => k_is)
    (case g_Z => k_is)
    (case a_row_of => k_is)
    (case a_gather => k_is)
    (case a_require_different => k_is)
    (case a_row_of_points => k_is)
    (case a_distances => k_is)
    (case a_table_of_distances => k_is)
    (case a__law_cell => k_is)
    (case a__law_draws => k_is)
    (case a__law_is_integer => k_is)
    (case a__law_is_place => k_is)
    (case a__law_is_row => k_is)
    (case a__law_same => k_is)
    (case a__law_plus => k_is)
    (case a__law_back => k_is)
    (case a__law_row => k_is)
    (case a__law_times => k_is)
    (case a__law_mirror => k_is)
    (case a__law_cross => k_is)
    (case a__law_own => k_is)
    (case a__law_is_error => k_is)
    (case a__law_points => k_is)
    (case a__law_repeated => k_is)
    (case a__law_first_repeated => k_is)
    (case a__law_distances => k_is)
    (case a__law_is_numbers => k_is)
    (case a__law_is_repeated => k_is)
    (case a__law_asked => k_is)
    (case a__law_good => k_is)
    (case a__law_both => k_is)
    (case a__law_table => k_is)
    (case a_law => k_is)
    (case a_te => k_is)
    (case a_ie => k_is)
    (case xl_C => k_is)
    (case in_C => k_is)
    (case z_len => k_is)
    (case z_int => k_is)
    (case z_str => k_is)
    (case z_bool => k_is)
    (case z_list => k_is)
    (case z_tuple => k_is)
    (case z_range => k_is)
    (case z_enumerate => k_is)
    (case z_isinstance => k_is)
    (case z_sorted => k_is)
    (case z_abs => k_is)
    (case z_any => k_is)
    (case z_sum => k_is)
    (case z_min => k_is)
    (case z_max => k_is)
    (case z_zip => k_is)
    (case z_set => k_is)
    (case z_ValueError => k_is)
    (case l_row_of => k_is)
    (case co_row_of => k_is)
    (case k_row_of => k_is)
    (case l_gather => k_is)
    (case co_gather => k_is)
    (case k_gather => k_is)
    (case l_require_different => k_is)
    (case co_require_different => k_is)
    (case k_require_different => k_is)
    (case l_row_of_points => k_is)
    (case co_row_of_points => k_is)
    (case k_row_of_points => k_is)
    (case l_distances => k_is)
    (case co_distances => k_is)
    (case k_distances => k_is)
    (case l_table_of_distances => k_is)
    (case co_table_of_distances => k_is)
    (case k_table_of_distances => k_is)
    (case l__law_cell => k_is)
    (case co__law_cell => k_is)
    (case k__law_cell => k_is)
    (case l__law_draws => k_is)
    (case co__law_draws => k_is)
    (case k__law_draws => k_is)
    (case l__law_is_integer => k_is)
    (case co__law_is_integer => k_is)
    (case k__law_is_integer => k_is)
    (case l__law_is_place => k_is)
    (case co__law_is_place => k_is)
    (case k__law_is_place => k_is)
    (case l__law_is_row => k_is)
    (case co__law_is_row => k_is)
    (case k__law_is_row => k_is)
    (case l__law_same => k_is)
    (case co__law_same => k_is)
    (case k__law_same => k_is)
    (case l__law_plus => k_is)
    (case co__law_plus => k_is)
    (case k__law_plus => k_is)
    (case l__law_back => k_is)
    (case co__law_back => k_is)
    (case k__law_back => k_is)
    (case l__law_row => k_is)
    (case co__law_row => k_is)
    (case k__law_row => k_is)
    (case l__law_times => k_is)
    (case co__law_times => k_is)
    (case k__law_times => k_is)
    (case l__law_mirror => k_is)
    (case co__law_mirror => k_is)
    (case k__law_mirror => k_is)
    (case l__law_cross => k_is)
    (case co__law_cross => k_is)
    (case k__law_cross => k_is)
    (case l__law_own => k_is)
    (case co__law_own => k_is)
    (case k__law_own => k_is)
    (case l__law_is_error => k_is)
    (case co__law_is_error => k_is)
    (case k__law_is_error => k_is)
    (case l__law_points => k_is)
    (case co__law_points => k_is)
    (case k__law_points => k_is)
    (case l__law_repeated => k_is)
    (case co__law_repeated => k_is)
    (case k__law_repeated => k_is)
    (case l__law_first_repeated => k_is)
    (case co__law_first_repeated => k_is)
    (case k__law_first_repeated => k_is)
    (case l__law_distances => k_is)
    (case co__law_distances => k_is)
    (case k__law_distances => k_is)
    (case l__law_is_numbers => k_is)
    (case co__law_is_numbers => k_is)
    (case k__law_is_numbers => k_is)
    (case l__law_is_repeated => k_is)
    (case co__law_is_repeated => k_is)
    (case k__law_is_repeated => k_is)
    (case l__law_asked => k_is)
    (case co__law_asked => k_is)
    (case k__law_asked => k_is)
    (case l__law_good => k_is)
    (case co__law_good => k_is)
    (case k__law_good => k_is)
    (case l__law_both => k_is)
    (case co__law_both => k_is)
    (case k__law_both => k_is)
    (case l__law_table => k_is)
    (case co__law_table => k_is)
    (case k__law_table => k_is)
    (case l_law => k_is)
    (case co_law => k_is)
    (case k_law => k_is)
    (case l_te => k_is)
    (case co_te => k_is)
    (case k_te => k_is)
    (case l_ie => k_is)
    (case co_ie => k_is)
    (case k_ie => k_is)
    (case vb_C => decide +kernel)
    (case sa_C => k_is)
    (case ex_C => k_is)
    (case ty_C => k_is)
    (case kc_C => k_is)
    (case ga_C => k_is)
    (case gg_C => k_is)
    (case hd_C => k_is)
    (case ha_C => k_is)
    (case mr_C => k_is)
    (case rd_C => k_is)
    (case fn_C => k_is)
    (case nw_C => k_is)
    (case ni_C => k_is)
    (case hn => k_is)
    (case ht => k_is)
    (case ti_ie => k_is)
    (case ti_te => k_is)
    (case rB => k_is)
    (case sB => k_is)
    (case fB => k_is)
    (case xC => first | rfl | k_is)
    (case kBC => first | rfl | k_is)
    (case kVC => first | rfl | k_is)
    (case k1 => first | rfl | k_is)
    (case k2 => first | rfl | k_is)
    (case k3 => first | rfl | k_is)
    (case k4 => first | rfl | k_is)
    (case k5 => first | rfl | k_is)
    (case k6 => first | rfl | k_is)
    (case k7 => first | rfl | k_is)
    (case k8 => first | rfl | k_is)

