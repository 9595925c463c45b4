import PyProof.Rows.All
import Wide.All
import OpenK.AllK
import Wide.FinOn
import KE.KTypeName
import HandS.ForMost
import HandS.ForExc
import HandS.ExcInit
import HandS.ExcIs
import HandS.ExcField
import HandS.IsInst
import HandS.HotCalls
import HandS.Codes
import HandS.StrMore
import HandS.TupAny
import HandS.Walk
import HandS.TupSets
import HandS.DictTup
import HandS.FStr
import KE.KExcIs
import HandS.SortKw
import KE.KSortTupG
import HandS.Conv
import HandS.More
import HandS.Zip
import HandS.Star
import HandS.Wide
import HandS.Evl
import HandS.Style
import HandS.CallSlots
import HandS.Defaults
import PyProof.EqAt
import PyProof.EqKinds
import PyProof.TupleCall
import PySem.Challenge.RW_owntables_k02_normal_rows
set_option Elab.async false
set_option linter.all false
set_option maxRecDepth 100000
set_option maxHeartbeats 2000000
/-! Own errors of the package: word, index, made and told. -/
namespace PySem.W
open PySem PySem.Calls PyProof.Rows Builtin Builtin.ObjectAttr Builtin.Getset_descriptor
section
variable {prog : Program} {w : World} {A : Around} {E : Value → Shared → Prop} {s : Shared} {K : Frag} {x D : Addr} {ox : Obj}
/-- what a class says of the attribute «class» of its instances -/
structure OtCls (K : Frag) (D : Addr) : Prop where
  hga : findIn K (.ref D) "__getattribute__" = some (some (.builtin "BaseException.__getattribute__"))
  hgt : findIn K (.ref D) "__getattr__" = some none
  hsub : subIn K (.ref D) (.type "BaseException") = some true
  hdct : hasDictIn K D = true
  ha : findIn K (.ref D) "__class__" = some (some (.builtin "object.__class__"))
  hn : specialIn K (.builtin "object.__class__") "__get__" = some (some (.builtin "getset_descriptor.__get__"))
  htk : takesIn K (.builtin "object.__class__") = some true
  hm : mroIn K D (.type "object") = some true
theorem ot_class {expr : Bool} {Q : Value → Shared → Prop} (T : OtCls K D) (X : K.In s.heap) (I : InstAt s.heap x ox D none)
    (h : Q (.ref D) { s with toks := s.toks + 1 }) : wpAny (model prog w) A (getAttr (.ref x) "__class__" expr) Q E s := by
  obtain ⟨hga, hgt, hsub, hdct, ha, hn, htk, hm⟩ := T
  have found : findObj K D none "__class__" = some (.bind (.builtin "getset_descriptor.__get__") (.builtin "object.__class__")) :=
    findObj_dataN (by obtain ⟨cd, q, _⟩ := any_some hdct; rw [q]; rfl) ha hn htk
  obtain ⟨hp, gens, dr, tk, os⟩ := s
  have ty := I.type (M := model prog w)
  have l1 := looks_findIn (M := model prog w) X hga
  have l2 := looks_findIn (M := model prog w) X hgt
  have l3 := looks_find (M := model prog w) X I found
  have isx : Looks (model prog w) hp (isInstance (.ref x) (.type "BaseException")) true := ty.andThen (looks_subIn X hsub)
  have e0 : (Value.builtin "BaseException.__getattribute__" == Value.builtin "object.__getattribute__") = false := by decide +kernel
  unfold getAttr getAttrBy
  apply wpAny_bind; apply wpAny_mkText; apply wpAny_holding
  apply wpAny_bind; apply ty.at
  apply wpAny_bind; apply l1.at
  show wpAny _ _ (if (onTheHeap (Value.ref D) && _) = true then _ else _) _ _ _
  rw [e0, Bool.and_false, if_neg Bool.false_ne_true]
  unfold getAttrByItsOwn hookBefore
  apply wpAny_bind
  rw [if_pos (show onTheHeap (Value.ref D) = true from rfl)]
  apply l2.at
  apply wpAny_bind; apply wpAny_attempt; apply wpAny_holding
  unfold callGetattribute
  rw [(by cases expr <;> rfl : (expr && onTheHeap (Value.builtin "BaseException.__getattribute__")) = false), if_neg Bool.false_ne_true]
  unfold boundAndCalled
  rw [PySem.F.excAttr_ValueError.ga.bind (.ref x)]
  apply wpAny_bind; apply wpAny_pure
  show wpAny _ _ (call (.builtin "BaseException.__getattribute__") [.ref x, .str "__class__" tk]) _ _ _
  apply wpAny_call
  apply codeAny_call_builtin PySem.F.excAttr_ValueError.ga.plain PySem.F.entry_bexc_ga
  apply @check_slot (model prog w) _ _ ⟨hp, gens, dr, tk + 1, os⟩ "BaseException.__getattribute__" "BaseException" "__getattribute__" (.ref x) [.str "__class__" tk] [] _ (by decide +kernel) (by decide +kernel) isx (PySem.F.args_bexc_ga (.ref x) (.str "__class__" tk))
  unfold Builtin.«object.__getattribute__»
  refine wpAny_bind (wpAny_of_eq (a := ((Value.ref x : Value), [Value.str "__class__" tk])) (by first | rfl | (simp only [slotArgs]; rfl)) ?_)
  apply wpAny_bind; apply wpAny_pure
  apply wpAny_bind; apply ty.at
  apply wpAny_bind; apply l3.at
  show wpAny _ _ (holding [Value.builtin "object.__class__"] (call _ [.builtin "object.__class__", .ref x, .ref D]) >>= ret) _ _ _
  apply wpAny_bind; apply wpAny_holding; apply wpAny_call
  refine class_get (s := ⟨hp, gens, dr, tk + 1, os⟩) (ox := ox) (od := none) X I hm ?_
  apply wpAny_pure
  show wpAny _ _ (handedOut (.ref D)) _ _ _
  rw [handedOut_of (v := .ref D) rfl]
  exact wpAny_pure h
/-- the written part's class at C keeps its name nm -/
structure OtName (K : Frag) (C : Addr) (nm : Str) : Prop where
  keeps : ∃ (c : Value) (dd : Option Addr) (dat : Data) (sl : Array (Option Value)) (tk : Tok), K.lookup C = some ⟨c, dd, dat, sl⟩ ∧ sl[2]? = some (some (.str nm tk))
  reads : readsIn K C (.type "type") = true
  ty : typeIn K (.ref C) = some (.type "type")
  found : findCls K (.ref C) (.type "type") "__name__" = some (.get (.builtin "getset_descriptor.__get__") (.builtin "type.__name__") (.ref C) (.type "type"))
theorem ot_dga (d tp : Value) (C : Addr) : descrGetArgs ⟨[d, .ref C, tp], []⟩ = pure (d, some (.ref C), given tp) := by kernel_rfl
theorem ot_name {expr : Bool} {nm : Str} {Q : Value → Shared → Prop} (T : OtName K D nm) (X : K.In s.heap)
    (h : ∀ tk u, Q (.str nm tk) { s with toks := u }) : wpAny (model prog w) A (getAttr (.ref D) "__name__" expr) Q E s := by
  obtain ⟨⟨c, dd, dat, sl, tk, hk, hsl⟩, hr, ty, hf⟩ := T
  refine cls_bind X hr hf ?_
  obtain ⟨hp, gens, dr, tks, os⟩ := s
  have t0 : Looks (model prog w) hp (typeOf (.ref D)) (.type "type") := looks_typeIn X ty
  have t1 : Looks (model prog w) hp (isSubtype (.type "type") (.type "type")) true := Looks.of_pure (by rw [isSubtype_type]; kernel_rfl)
  refine wpAny_call (codeAny_call_builtin KF.slot_gs.plain KF.entry_gs (KF.slot_gs.check _ _ _ _ _ _ _ _ ktyn_type (KF.args_gs _ _ _) ?_))
  unfold Builtin.«getset_descriptor.__get__» descrGet
  rw [ot_dga]
  apply wpAny_bind
  apply wpAny_pure
  unfold descrGetter descrCheckInstance descrNameAndClass isInstance
  simp only [ktyn_owner]
  repeat lk
  refine ⟨Code.quiet_builtin _ (by decide +kernel), codeAny_builtin ktyn_entry ?_⟩
  unfold Builtin.«type.__name__» keptObject slotAt
  dsimp only
  refine wpAny_bind (wpAny_bind (wpAny_loadPart (X _ _ hk) (wpAny_pure ?_)))
  dsimp only
  rw [hsl]
  exact wpAny_pure (handed_on rfl (h _ _))
end
end PySem.W
namespace L2
open PySem PySem.Spec PyProof.Rows
/-! ### an exception's own __init__ -/
section
variable {X : Cx} {pos p1 p2 : Pos} {e : Expr} {es : List Expr} {te : TE} {ta : TA}
/-- e.__class__.__name__, e an exception that is being made, without a field so far -/
def tOtName (K : PySem.W.Frag) (te : TE) : TE := fun σ H Q => te σ H fun x H1 => ∃ (a C : Addr) (nm : Str), x = .ref a ∧ H1 a = some (exo a C none) ∧ PySem.W.OtCls K C ∧ PySem.W.OtName K C nm ∧ Q (.str nm) H1
theorem pe_otname (he : PE X e te) (hb : attributeBase e "__class__" X.env (eval e X.env) = eval e X.env := by rfl)
    (hb2 : attributeBase (.Attribute e "__class__" p1) "__name__" X.env (eval (.Attribute e "__class__" p1) X.env) = eval (.Attribute e "__class__" p1) X.env := by rfl) :
    PE X (.Attribute (.Attribute e "__class__" p1) "__name__" pos) (tOtName X.K te) := by
  refine ⟨fun pins s σ H Q I h => ?_⟩
  refine attr_of hb2 (attr_of hb (thn (he.run pins s σ H _ I h) fun u s1 hh => ?_))
  obtain ⟨x, H1, I1, rx, a, C, nm, ex, ea, tc, tn, q⟩ := hh
  subst ex
  obtain rfl : u = Value.ref a := rx
  obtain ⟨t1, ho⟩ := exo_at I1.hok ea
  have J : PySem.W.InstAt s1.heap a _ C none := ⟨ho, rfl, rfl, True.intro⟩
  refine PySem.W.ot_class tc I1.kIn J ?_
  refine PySem.W.ot_name tn I1.kIn fun tk u => ?_
  exact ⟨.str nm, H1, I1.tok u, ⟨tk, rfl⟩, q⟩
/-- a class of the text, its attributes read by the type's own way -/
structure OtRead (K : PySem.W.Frag) (C : Addr) (m : Str) (f : Addr) : Prop where
  rd : PySem.W.readsIn K C (.type "type") = true
  ga : PySem.W.specialIn K (.ref C) "__getattribute__" = some (some (.builtin "type.__getattribute__"))
  at_ : PySem.W.findCls K (.ref C) (.type "type") m = some (.val (.ref f))
  kp : PySem.W.keepIn K (.ref f) = true
/-- B.m(e, ..), B a class of the text, m a def of it -/
theorem pe_otcall {CX : CXT} {k : Nat} {f C : Addr} {fd : FuncData} {ps : List Str} {sp : Sp} {E : XK} {o : Expr} {to : TE} {m : Str} {pl : Sem Bool} (ho : PE X o to) (R : OtRead X.K C m f) (F : FnOk X.prog X.w X.K X.mg X.base CX k f fd ps sp) (hr : Room k X.A) (hb : Binds X.K fd ps []) (hx : Passes CX X E) (ha : PA X (e :: es) ta)
    (hc : eval (.Call (.Attribute o m p2) (e :: es) [] pos) X.env = (do
      let ov ← eval o X.env
      standAt p2.atName
      let (f, first) ← holding [ov] (getMethod ov m pl)
      callWith pos f first (backTo pos (starEach (e :: es) X.env)) (backToKw pos (keywordEach [] X.env))) := by rfl)
    (he : starEach (e :: es) X.env = (false, eval e X.env) :: starEach es X.env := by rfl) (hpl : (backTo pos (starEach es X.env)).any (·.1) = false := by rfl) :
    PE X (.Call (.Attribute o m p2) (e :: es) [] pos) (fun σ H Q => to σ H fun x H1 => x = .ref C ∧ ta σ H1 fun vs H2 => sp vs H2 Q E) := by
  refine ⟨fun pins s σ H Q I h => ?_⟩
  refine PySem.W.methodCall_KW (thn (ho.run pins s σ H _ I h) fun u s1 hh => ?_) hc
  obtain ⟨x, H1, I1, rx, ex, q⟩ := hh
  subst ex
  obtain rfl : u = Value.ref C := rx
  refine PySem.W.method_cls I1.kIn R.ga (PySem.W.cls_value I1.kIn R.rd R.at_ rfl ?_)
  have I2 := I1.tok (s1.toks + 1)
  show wpAny _ _ (callWith pos (Value.ref f) [] (backTo pos (starEach (e :: es) X.env)) []) _ _ _
  refine PySem.W.callWith_K (h₀ := X.base) I2.ok.mod.kin R.kp (thn (ha.run pos pins _ σ H1 _ I2 q) fun us s2 hh2 => ?_) he hpl
  obtain ⟨vs, H2, I3, r3, q3⟩ := hh2
  exact ⟨I3.kIn, run_fn F hr hb .nil hx I3 r3 (by rw [List.append_nil]; exact q3)⟩
end
end L2

namespace L2
open PySem PySem.Spec PyProof.Rows
/-- all that is asked of an own class of error, its name nm -/
structure OtErr (K : PySem.W.Frag) (C : Addr) (nm : Str) : Prop where
  ox : OexC K C
  oc : PySem.W.OtCls K C
  on : PySem.W.OtName K C nm
  nw : PySem.W.findIn K (.ref C) "word" = some none
  ni : PySem.W.findIn K (.ref C) "index" = some none
section
variable {P : Program} {w : World} {K : PySem.W.Frag} {mg : Str → Option Value} {base : Heap}
/-- TableError.__init__ -/
def spTE (K : PySem.W.Frag) : Sp := fun vs H Q _ => ∃ (a C : Addr) (nm : Str), vs = [.ref a] ∧ H a = some (exo a C none) ∧ OtErr K C nm ∧
  ∀ d, H d = none → d ≠ a → Q .non (upd (upd H d (exd d [("word", .str nm)])) a (exo a C (some d)))
theorem ok_te {q : Str} {st : Stmt} {f : Addr} {fd : FuncData} {p1 p2 p3 p4 p5 p6 : Pos} (F : Fun K "__init__" q st f fd) (S : FnScope ["self"] ["self"] (defScope st))
    (v : Vis (defScope st) "self") (hb : defBody st = [.Assign [.Attribute (.Name "self" p1) "word" p2] (.Attribute (.Attribute (.Name "self" p3) "__class__" p4) "__name__" p5) p6]) :
    FnOk P w K mg base CX0 1 f fd ["self"] (spTE K) := by
  refine F.ok S (fun vs H Q E h => ?_) (fun cdv A outer s H vs Q E hr h => ?_)
  · obtain ⟨a, C, nm, rfl, _⟩ := h
    rfl
  · obtain ⟨a, C, nm, rfl, ha, T, k⟩ := h
    rw [hb]
    refine ⟨_, pss_one (ps_ost (pv 0 rfl v) (pe_otname (pv 0 rfl v))), ?_⟩
    refine ⟨_, rfl, a, C, nm, rfl, ha, T.oc, T.on, _, rfl, a, C, rfl, T.ox, T.nw, Or.inl ⟨ha, fun d nd ne => ?_⟩⟩
    exact k d nd ne
/-- IndexedError.__init__ -/
def spIE (K : PySem.W.Frag) : Sp := fun vs H Q _ => ∃ (a C : Addr) (nm : Str) (v : V), vs = [.ref a, v] ∧ H a = some (exo a C none) ∧ OtErr K C nm ∧
  ∀ d, H d = none → d ≠ a → Q .non (upd (upd (upd H d (exd d [("word", .str nm)])) a (exo a C (some d))) d (exd d [("index", v), ("word", .str nm)]))
end
end L2

/-! ### defs that are handed the error that an except suite holds -/
namespace L2
open PySem PySem.Spec PyProof.Rows
/-- a promise that knows the held error: where it stands, its class, its dict -/
abbrev SpE := Addr → Value → Option Addr → Sp
structure FnE (P : Program) (w : World) (K : PySem.W.Frag) (mg : Str → Option Value) (base : Heap) (k : Nat) (f : Addr) (fd : FuncData) (ps : List Str) (sp : SpE) : Prop where
  len : ∀ a c d vs H Q E, sp a c d vs H Q E → vs.length = ps.length
  run : ∀ (A : Around) (outer : List Env) (s : Shared) (H : Hp) (args : Args) (us : List Value) (vs : List V) (Q : VK) (p : Addr × Obj) (c : Value) (d : Option Addr), L2H.RoomH k A → L2H.PinOk outer H s p → Zc c d p.2 → (∃ fs, p.2.data = .fields fs) →
    Env0 P w K mg base A outer s H → BindsTo s fd args (ps.zip us) → Vals vs us → sp p.1 c d vs H Q E0 → codeAny (model P w) A (.call (.ref f) args) (CR CX0 outer P w H s Q E0) s
theorem fnE_of {P : Program} {w : World} {K : PySem.W.Frag} {mg : Str → Option Value} {base : Heap} {k : Nat} {x : Str} {st : Stmt} {f : Addr} {fd : FuncData} {N ps : List Str} {sp : SpE} (F : C8.Fun K x x st f fd) (S : FnScope N ps (C8.fnScope st))
    (len : ∀ a c d vs H Q E, sp a c d vs H Q E → vs.length = ps.length)
    (body : ∀ (cdv : Value) (A : Around) (outer : List Env) (s : Shared) (H : Hp) (vs : List V) (Q : VK) (p : Addr × Obj) (c : Value) (d : Option Addr), Zc c d p.2 → (∃ fs, p.2.data = .fields fs) → L2H.RoomH k (A.deeper (envOfC x (C8.fnScope st) s.heap.objs.size f cdv)) → sp p.1 c d vs H Q E0 →
      ∃ t, PSs (L2H.cxH CX0 P w K mg base N x (C8.fnScope st) f cdv A outer s H E0 p) (C8.fnBody st) t ∧ t { nx := fun _ H' => Q .non H', rt := Q } (L2.start N vs) H) :
    FnE P w K mg base (k + 1) f fd ps sp := by
  obtain ⟨oc, od, dV, kV, doc, pm, an, cdv, ct, osl, rfl, lk, hcd⟩ := F.ex
  constructor
  · exact len
  intro A outer s H args us vs Q p c d room pin zc fld env binds rel want
  have size := len _ _ _ _ _ _ _ want
  have old : ∀ b o, base.get? b = some o → s.heap.get? b = some o := fun b o z => (env.bs b o z).1
  have inK : K.In s.heap := env.mod.kin.keeps old
  have kinds : ∀ y ∈ ps.zip us, (C8.fnScope st).names.lookup y.1 = some .local ∨
      ((C8.fnScope st).names.lookup y.1 = some .cell ∧ ((cellsFrom (s.heap.objs.size + 1) (C8.fnScope st).names []).lookup y.1).isSome = true) := by
    intro y hy
    have my := (List.of_mem_zip (a := y.1) (b := y.2) hy).1
    exact (S.par y.1 my).imp id fun z => ⟨z, PySem.W.cellsFrom_some _ _ _ (Or.inl z)⟩
  apply codeAny_call_function room.depth (inK _ _ lk) rfl S.co S.gen rfl (PySem.W.codeRec_of inK hcd)
  apply binds
  apply wpAny_newFunctionEnv_cells S.kind kinds
  intro env1 he s1 called
  subst he
  refine ⟨(env.mod.nolimit.keeps old).keeps called.toInCall.keep, codeAny_func ?_⟩
  obtain ⟨t, ht, read⟩ := body cdv A outer s H vs Q p c d zc fld (room.deeper _) want
  have I0 : Inv (L2H.cxH CX0 P w K mg base N x (C8.fnScope st) f cdv A outer s H E0 p) [] (L2.start N vs) H s1 := L2H.inv_startH S pin env size rel called
  refine wpAny_mono (ht.run [] s1 (L2.start N vs) H _ I0 read) (fun fl s2 q => ?_) fun _ _ q => q
  cases fl with
  | ret u =>
    obtain ⟨v, σ2, H2, J, rv, z⟩ := q
    exact ⟨v, H2, J.os, J.bare, J.base, J.hok, rv, z⟩
  | next =>
    obtain ⟨σ2, H2, J, z⟩ := q
    exact ⟨.non, H2, J.os, J.bare, J.base, J.hok, rfl, z⟩
  | brk =>
    obtain ⟨_, _, _, z⟩ := q
    exact z.elim
  | cont =>
    obtain ⟨_, _, _, z⟩ := q
    exact z.elim
section
variable {X : Cx} {p : Addr × Obj} {c : Value} {d : Option Addr} {k : Nat} {f : Addr} {fd : FuncData} {ps : List Str} {sp : SpE} {x : Str} {q pos : Pos} {e : Expr} {es : List Expr} {t : TA} {te : TE}
/-- f(e, ..) where the error is held -/
theorem pe_callE (F : FnE X.prog X.w X.K X.mg X.base k f fd ps sp) (hr : L2H.RoomH k X.A) (hp : p ∈ X.pn) (zc : Zc c d p.2) (fld : ∃ fs, p.2.data = .fields fs) (hg : Gl X x) (hm : X.mg x = some (.ref f)) (hk : PySem.W.keepIn X.K (.ref f) = true) (hb : Binds X.K fd ps [])
    (ha : PA X (e :: es) t) (hdb : (x == ("__debug__" : Str)) = false := by decide) (he : starEach (e :: es) X.env = (false, eval e X.env) :: starEach es X.env := by rfl) (hpl : (backTo pos (starEach es X.env)).any (·.1) = false := by rfl) :
    PE X (.Call (.Name x q) (e :: es) [] pos) (fun σ H Q => t σ H fun vs H1 => sp p.1 c d vs H1 Q E0) := by
  constructor
  intro pins s σ H Q I want
  apply wpAny_Call_Name_kw
  refine ld_glob I hg hm ?_ hdb
  refine PySem.W.callWith_K (h₀ := X.base) I.ok.mod.kin hk (thn (ha.run pos pins s σ H _ I want) ?_) he hpl
  rintro us s1 ⟨vs, H1, J, rel, z⟩
  refine ⟨J.kIn, ?_⟩
  have size : us.length = ps.length := by
    rw [← rel.length]
    exact F.len _ _ _ _ _ _ _ z
  have bind := hb s1 us J.kIn (by rw [List.append_nil]; exact size)
  rw [List.append_nil] at bind
  obtain ⟨p1, p2, p3, p4, p5⟩ := J.pin p (List.mem_append_left _ hp)
  have pin : L2H.PinOk X.stack H1 s1 p := ⟨p1, p2, fun z => (List.mem_cons.mp (J.stkSub p.1 z)).elim p3 p4, p5⟩
  refine wpAny_call (codeAny_mono (F.run X.A X.stack s1 H1 ⟨us, []⟩ us vs Q p c d hr pin zc fld J.env0 bind rel z) ?_)
  intro r s2 got
  cases r with
  | error er => exact got.elim
  | ok fl =>
    cases fl with
    | ret u => exact J.after got
    | next => exact got.elim
    | brk => exact got.elim
    | cont => exact got.elim
/-- the held error is an instance of its class -/
theorem heldAt {pins : List (Addr × Obj)} {σ : L2.St} {H : Hp} {s : Shared} {C dd : Addr} {fs : List (Str × V)} (I : Inv X pins σ H s) (hp : p ∈ X.pn) (zc : Zc (.ref C) (some dd) p.2) (fld : ∃ fs, p.2.data = .fields fs) (hd : H dd = some (.xd fs)) :
    ∃ od, PySem.W.InstAt s.heap p.1 p.2 C (some od) ∧ ∀ n v, fs.lookup n = some v → ∃ u, RelV v u ∧ PySem.W.lookIn n od = some (some u) := by
  obtain ⟨at1, _⟩ := I.pin p (List.mem_append_left _ hp)
  obtain ⟨vs, hdat⟩ := fld
  obtain ⟨mA, hns, hr⟩ := (show ObjOk X.prog X.w H s.heap dd (.xd fs) from I.hok dd _ hd)
  obtain ⟨od, ho, hl⟩ := lookIn_ns hns
  refine ⟨od, ⟨at1, zc.1, by unfold PySem.W.notCls; rw [hdat] <;> rfl, by rw [zc.2]; exact ho⟩, fun n v l => ?_⟩
  obtain ⟨u, hu, ru⟩ := RelO.some_of (v := v) (o := mA n) (by rw [← l]; exact hr n)
  exact ⟨u, ru, by rw [hl, hu]⟩
/-- isinstance(e, T), e the held error -/
theorem call_isX (hp : p ∈ X.pn) (zc : Zc c d p.2) (fld : ∃ fs, p.2.data = .fields fs) : CallR X (.builtin "isinstance") (fun xs H Q => ∃ (C dd : Addr) (fs : List (Str × V)) (y : V) (u : Value) (b : Bool),
    xs = [.ref p.1, y] ∧ c = .ref C ∧ d = some dd ∧ PySem.W.OtCls X.K C ∧ H dd = some (.xd fs) ∧ ClsV y u ∧ PySem.W.kitOne X.K (.ref C) u = some b ∧ Q (.bl b) H) := by
  rintro pins s σ H xs us Q I rel ⟨C, dd, fs, y, u, b, rfl, rfl, rfl, T, hd, hy, hb, z⟩
  obtain ⟨u1, u2, rfl, r1, r2⟩ := vals2 rel
  cases (show u1 = Value.ref p.1 from r1)
  cases hy.eq r2
  obtain ⟨od, J, _⟩ := heldAt I hp zc fld hd
  have isC : (PySem.W.clsIn X.K C).isSome = true := by
    obtain ⟨cd, q, _⟩ := PySem.W.any_some T.hdct
    rw [q]
    rfl
  exact PySem.W.kia_one (PySem.W.kitx_exc isC T.hga T.hgt T.hsub T.ha T.hn T.htk T.hm) I.kIn J hb (fun z => nomatch z) fun tk => ⟨.bl b, H, I.tok tk, rfl, z⟩
/-- e.n, e the held error, n a field of its own -/
theorem pe_fX {n : Str} (hp : p ∈ X.pn) (zc : Zc c d p.2) (fld : ∃ fs, p.2.data = .fields fs) (he : PE X e te) (hb : attributeBase e n X.env (eval e X.env) = eval e X.env := by rfl) :
    PE X (.Attribute e n pos) (fun σ H Q => te σ H fun y H1 => ∃ (C dd : Addr) (fs : List (Str × V)) (v : V), y = .ref p.1 ∧ c = .ref C ∧ d = some dd ∧ PySem.W.OtCls X.K C ∧ PySem.W.findIn X.K (.ref C) n = some none ∧ H1 dd = some (.xd fs) ∧ fs.lookup n = some v ∧ Q v H1) := by
  constructor
  intro pins s σ H Q I want
  refine attr_of hb (thn (he.run pins s σ H _ I want) ?_)
  rintro u s1 ⟨y, H1, J1, ry, C, dd, fs, v, rfl, rfl, rfl, T, hno, hd, hl, z⟩
  obtain rfl : u = Value.ref p.1 := ry
  obtain ⟨od, J, look⟩ := heldAt J1 hp zc fld hd
  obtain ⟨w1, rw1, lw⟩ := look n v hl
  exact HandSPX.exc_get J1.kIn J T.hga T.hgt T.hsub (PySem.W.findObj_own T.hdct hno rfl lw) (handed_of rw1) ⟨v, H1, J1.tok _, rw1, z⟩
end
end L2

namespace OT
open PySem
theorem b_int : bootBuiltins "int" = some (.type "int") := by decide +kernel
theorem b_str : bootBuiltins "str" = some (.type "str") := by decide +kernel
theorem b_bool : bootBuiltins "bool" = some (.type "bool") := by decide +kernel
theorem b_list : bootBuiltins "list" = some (.type "list") := by decide +kernel
theorem b_tuple : bootBuiltins "tuple" = some (.type "tuple") := by decide +kernel
theorem b_len : bootBuiltins "len" = some (.builtin "len") := by decide +kernel
theorem b_isinstance : bootBuiltins "isinstance" = some (.builtin "isinstance") := by decide +kernel
theorem b_any : bootBuiltins "any" = some (.builtin "any") := by decide +kernel
theorem b_all : bootBuiltins "all" = some (.builtin "all") := by decide +kernel
theorem b_sum : bootBuiltins "sum" = some (.builtin "sum") := by decide +kernel
theorem b_min : bootBuiltins "min" = some (.builtin "min") := by decide +kernel
theorem b_max : bootBuiltins "max" = some (.builtin "max") := by decide +kernel
theorem b_sorted : bootBuiltins "sorted" = some (.builtin "sorted") := by decide +kernel
theorem b_abs : bootBuiltins "abs" = some (.builtin "abs") := by decide +kernel
theorem b_ValueError : bootBuiltins "ValueError" = some (.type "ValueError") := by decide +kernel
end OT

set_option Elab.async false
set_option linter.all false
set_option maxRecDepth 100000
set_option maxHeartbeats 2000000
/-! Rows: sorted keys of a dict whose keys are tuples of ints; valid rows. -/
namespace L2
open PySem PySem.Spec PyProof.Rows
section
/-- what a sort leaves: the same values, ascending by their keys -/
theorem sort_left {κ : KeyKind} {vs : List Value} {a : Array Keyed} (perm : a.Perm (pairsOf vs)) (srt : SortedToK κ a (pairsOf vs).size) :
    (a.toList.map (·.2)).Perm vs ∧ (a.toList.map (·.2)).Pairwise fun x y => ∀ k l, κ.keyOf x = some k → κ.keyOf y = some l → κ.kle k l := by
  have pl : a.toList.Perm (vs.zip vs) := by
    rw [← pairsOf_toList]
    exact Array.perm_iff_toList_perm.mp perm
  have diag : ∀ p ∈ a.toList, p.1 = p.2 := fun p hp => (mem_zip_self (pl.mem_iff.mp hp)).1
  constructor
  · have e : (vs.zip vs).map (·.2) = vs := by
      rw [List.map_snd_zip]
      exact Nat.le_refl _
    have q := pl.map (·.2)
    rw [e] at q
    exact q
  · rw [List.pairwise_map, List.pairwise_iff_getElem]
    intro i j hi hj hij k l hk hl
    have hn : a.size = (pairsOf vs).size := perm.size_eq
    rw [Array.length_toList] at hi hj
    have s := srt i j (Nat.le_of_lt hij) (by omega)
    have at_ : ∀ n (h : n < a.size), ∀ m, κ.keyOf a.toList[n].2 = some m → KK κ a n = m := fun n h m hm => by
      unfold KK
      rw [Array.getElem?_eq_getElem h]
      have d := diag a.toList[n] (List.getElem_mem _)
      rw [← d] at hm
      rw [Array.getElem_toList] at hm
      dsimp only
      rw [hm]
      rfl
    rw [at_ i hi k hk, at_ j hj l hl] at s
    exact s
theorem lexLt_inl : ∀ k l : List Int, PyProof.Rows.lexLt itemOrd (k.map Sum.inl) (l.map Sum.inl) = HT.lexLt k l
  | [], [] => rfl
  | [], _ :: _ => rfl
  | _ :: _, [] => rfl
  | x :: r, y :: t => by
    rw [List.map_cons, List.map_cons, PyProof.Rows.lex_cons, lexLt_inl r t, HT.lexLt_cons]
    show (decide (x < y) || (!decide (y < x) && HT.lexLt r t)) = _
    by_cases h : x = y
    · rw [if_pos h, decide_eq_false (by omega), decide_eq_false (by omega)]
      rfl
    · rw [if_neg h]
      by_cases h2 : x < y
      · rw [decide_eq_true h2]
        rfl
      · rw [decide_eq_false h2, decide_eq_true (show y < x by omega)]
        rfl
theorem tupItems_ints : ∀ (ns : List Int) (us : List Value) (i : Nat), Vals (ns.map V.int) us → tupItems (fun _ => false) i us = some (ns.map Sum.inl)
  | [], _, _, .nil => rfl
  | n :: ns, _ :: us, i, .cons r t => by
    obtain ⟨tk, rfl⟩ := (show ∃ tk, _ = Value.int n tk from r)
    show (if (false : Bool) = true then none else (tupItems (fun _ => false) (i + 1) us).map (Sum.inl n :: ·)) = _
    rw [if_neg Bool.false_ne_true, tupItems_ints ns us (i + 1) t]
    rfl
theorem ints_inj : ∀ {k l : List Int}, k.map V.int = l.map V.int → k = l
  | [], [], _ => rfl
  | [], _ :: _, h => by cases h
  | _ :: _, [], h => by cases h
  | x :: r, y :: t, h => by
    rw [List.map_cons, List.map_cons] at h
    obtain ⟨e, h⟩ := List.cons.inj h
    rw [V.int.inj e, ints_inj h]
theorem vals_refs' : ∀ out : List (Addr × List Int), Vals (out.map fun x => V.ref x.1) (out.map fun x => Value.ref x.1)
  | [] => .nil
  | _ :: r => .cons rfl (vals_refs' r)
variable {X : Cx}
/-- sorted(d), the keys of d tuples of ints -/
theorem cr_sortedDT (hcalm : X.calm = true) : CallR X (.builtin "sorted") (fun xs H Q => ∃ (d : Addr) (kvs : List (List Key × V)) (ks : List (List Int)), xs = [.ref d] ∧ Rd H d (.dT kvs) ∧ kvs.map (·.1) = ks.map (fun k => k.map Sum.inl) ∧ (2 ≤ ks.length → ∀ k ∈ ks, k ≠ []) ∧
    ∀ (out : List (Addr × List Int)) (p : Addr), (out.map (·.2)).Perm ks → (out.map (·.2)).Pairwise (fun a b => HT.lexLt b a = false) → ks.Nodup → (∀ x ∈ out, H x.1 = some (.tup (x.2.map V.int))) → H p = none → Q (.ref p) (upd H p (.lst (out.map fun x => V.ref x.1)))) := by
  rintro pins s σ H xs us Q I rel ⟨d, kvs, ks, rfl, hd, hks, hne, want⟩
  obtain ⟨u, rfl, rx⟩ := rel.one
  cases rx
  obtain ⟨z, hs, xs, pr, o, es, ep, ho, hx, hdt, he, hn⟩ := (show ObjOk X.prog X.w H s.heap d (.dT kvs) from hd.ok I.hok)
  have l1 : es.size = xs.length := size_of_entries he
  have l2 : kvs.length = xs.length := Paired.length pr
  -- the keys' addresses
  have keyed : ∀ (kvs : List (List Key × V)) (xs : List (List Key × Addr × Value)) (ks : List (List Int)), Paired (fun (p : List Key × V) (q : List Key × Addr × Value) => p.1 = q.1 ∧ H q.2.1 = some (.tup (p.1.map kV)) ∧ RelV p.2 q.2.2) kvs xs → kvs.map (·.1) = ks.map (fun k => k.map Sum.inl) →
      xs.map (·.1) = ks.map (fun k => k.map Sum.inl) ∧ ∀ x ∈ (xs.map (·.2.1)).zip ks, H x.1 = some (.tup (x.2.map V.int)) := by
    intro kvs
    induction kvs with
    | nil =>
      intro xs ks pr hks
      cases pr
      cases ks with
      | nil => exact ⟨rfl, fun x hx => by cases hx⟩
      | cons k r => cases hks
    | cons a r ih =>
      intro xs ks pr hks
      cases pr with
      | cons h t =>
        rename_i q xs'
        cases ks with
        | nil => cases hks
        | cons k ks' =>
          obtain ⟨e1', e2⟩ := List.cons.inj hks
          have e1 : a.1 = k.map Sum.inl := e1'
          obtain ⟨i1, i2⟩ := ih _ _ t e2
          obtain ⟨h1, h2, _⟩ := h
          refine ⟨?_, fun x hx => ?_⟩
          · rw [List.map_cons, List.map_cons, i1, ← h1, e1]
          · rw [List.map_cons, List.zip_cons_cons] at hx
            rcases List.mem_cons.mp hx with e | hx
            · rw [e]
              show H q.2.1 = _
              rw [h2, e1, List.map_map]
              rfl
            · exact i2 x hx
  obtain ⟨kx, held⟩ := keyed kvs xs ks pr hks
  have lk : xs.length = ks.length := by
    have := congrArg List.length kx
    rwa [List.length_map, List.length_map] at this
  have nod : ks.Nodup := by
    rw [kx] at hn
    exact nodup_of_map hn
  apply Calls.call_function_entry kind_sorted plain_sorted entry_sorted (args_sorted1 (.ref d))
  unfold Builtin.«sorted»
  apply wpAny_bind (m := checkCount "sorted" 1 1 _)
  apply wpAny_pure
  refine wpAny_bind (PySem.W.kdu_collect (A := X.A.in1) (kdl_raw hs hx hdt) (I.ok.hd hcalm) ho (by omega) fun h' tk got hk hacc => ?_)
  have ea : got.toList = (xs.map (·.2.1)).map Value.ref := by
    have hl : got.toList.length = xs.length := by rw [Array.length_toList, hacc.1]; exact l1
    apply List.ext_getElem
    · rw [hl, List.length_map, List.length_map]
    · intro j hj1 hj2
      have g1 : got[j]? = some got.toList[j] := by
        rw [← Array.getElem?_toList]
        exact List.getElem?_eq_getElem hj1
      obtain ⟨en, hen, hv⟩ := hacc.2 j _ g1
      have qe := entry_at he j
      have hjx : j < xs.length := by omega
      rw [hen, List.getElem?_eq_getElem hjx] at qe
      have e2 := Option.some.inj qe
      rw [hv, e2, List.getElem_map, List.getElem_map]
      rfl
  have J1 : Inv X pins σ H { s with heap := h', toks := tk } := I.kept hk
  have gotk : got.toList.length = ks.length := by rw [ea, List.length_map, List.length_map, lk]
  have fits : got.toList.length ≤ sizeLine := by omega
  apply wpAny_bind
  refine wpAny_newList ?_ fits
  have atL : (h'.push (seqObj "list" got.toList.toArray 0)).get? h'.objs.size = some (seqObj "list" got.toList.toArray 0) := Heap.get?_push_size _ rfl
  show wpAny _ _ _ _ _ { s with heap := h'.push (seqObj "list" got.toList.toArray 0), toks := tk }
  -- each key stands in the heap
  have stands : ∀ (a : Addr) (k : List Int), H a = some (.tup (k.map V.int)) → ∃ its : List Value, Vals (k.map V.int) its ∧ IsTup h' a its.toArray := fun a k e => by
    obtain ⟨_, its, rv, it⟩ := (show ObjOk X.prog X.w H h' a (.tup (k.map V.int)) from J1.hok a _ e)
    exact ⟨its, rv, it⟩
  have keyOf : ∀ (a : Addr) (k : List Int), H a = some (.tup (k.map V.int)) → PyProof.Rows.G.tupKeyC (h'.push (seqObj "list" got.toList.toArray 0)) (fun _ => false) (.ref a) = some (k.map Sum.inl) := fun a k e => by
    obtain ⟨its, rv, ob, h1, h2, n, h3⟩ := stands a k e
    have g : (h'.push (seqObj "list" got.toList.toArray 0)).get? a = some ob := Heap.get?_push_of_some _ h1
    have it : PyProof.Rows.G.isTupObj (h'.push (seqObj "list" got.toList.toArray 0)) (.ref a) = true := by
      simp only [PyProof.Rows.G.isTupObj, g, h2]
      rfl
    unfold PyProof.Rows.G.tupKeyC
    rw [if_pos it]
    unfold tupKey
    dsimp only
    rw [g]
    dsimp only
    rw [h3]
    dsimp only
    exact tupItems_ints k its 0 rv
  have zipped : ∀ v ∈ got.toList, ∃ a k, v = Value.ref a ∧ k ∈ ks ∧ H a = some (.tup (k.map V.int)) := fun v hv => by
    obtain ⟨j, hj, e⟩ := List.getElem_of_mem hv
    have hjk : j < ks.length := by omega
    have hjx : j < (xs.map (·.2.1)).length := by rw [List.length_map]; omega
    have ev : v = Value.ref (xs.map (·.2.1))[j] := by
      rw [← e]
      simp only [ea, List.getElem_map]
    refine ⟨_, ks[j], ev, List.getElem_mem _, held ((xs.map (·.2.1))[j], ks[j]) ?_⟩
    rw [List.mem_iff_getElem]
    refine ⟨j, by rw [List.length_zip]; omega, ?_⟩
    rw [List.getElem_zip]
  have keys : KeysOf (PyProof.Rows.G.tupKindC (h'.push (seqObj "list" got.toList.toArray 0)) fun _ => false) (pairsOf got.toList) := PyProof.Rows.G.tupKeys fun v hv => by
    obtain ⟨a, k, rfl, _, hk⟩ := zipped v hv
    exact ⟨_, keyOf a k hk⟩
  have k6 := PyProof.Rows.G.keeps_sort6 (vs := got.toList) atL
  have tups : 2 ≤ got.toList.length → ∃ fs, 0 < fs.length ∧ TupsOf (h'.push (seqObj "list" got.toList.toArray 0)) (fun _ => false) got.toList fs := fun h2 => by
    have each : ∀ l : List Value, (∀ v ∈ l, ∃ a k, v = Value.ref a ∧ k ∈ ks ∧ H a = some (.tup (k.map V.int))) → ∃ fs, fs.length = l.length ∧ TupsOf (h'.push (seqObj "list" got.toList.toArray 0)) (fun _ => false) l fs := by
      intro l
      induction l with
      | nil => exact fun _ => ⟨[], rfl, .nil⟩
      | cons v r ih =>
        intro hv
        obtain ⟨fs, hl, ht⟩ := ih fun y hy => hv y (List.mem_cons_of_mem _ hy)
        obtain ⟨a, k, rfl, hm, hk⟩ := hv v List.mem_cons_self
        obtain ⟨its, rv, ob, h1, h2', n, h3⟩ := stands a k hk
        cases k with
        | nil => exact absurd rfl (hne (by omega) [] hm)
        | cons i k =>
          cases rv with
          | @cons _ u0 _ ur r0 rt =>
            obtain ⟨tk0, rfl⟩ := (show ∃ tk, u0 = Value.int i tk from r0)
            exact ⟨.int i tk0 :: fs, by rw [List.length_cons, List.length_cons, hl], .cons ⟨a, ob, _, n, rfl, Heap.get?_push_of_some _ h1, h2', h3, rfl, fun _ => ⟨i, tk0, rfl⟩, fun z => by cases z⟩ ht⟩
    obtain ⟨fs, hl, ht⟩ := each got.toList zipped
    exact ⟨fs, by omega, ht⟩
  refine wpAny_bind (wpAny_holding (wpAny_call_entry PyProof.Rows.slot_list_sort ⟨_, atL, rfl⟩ PyProof.Rows.entry_list_sort
    (PyProof.Rows.G.list_sort_treeG (κ := PyProof.Rows.G.tupKindC (h'.push (seqObj "list" got.toList.toArray 0)) fun _ => false) (kd := tuples' true) (s := { s with heap := h'.push (seqObj "list" got.toList.toArray 0), toks := tk }) atL keys
      (PyProof.Rows.G.tupC_ltAt true k6) (fun h2 R hq => ?kind) fits fun st' a1 a2 a3 => ⟨_, rfl, ?ret⟩) (PyProof.Rows.args_list_sort _)))
  case kind =>
    obtain ⟨fs, hl, ht⟩ := tups h2
    exact tup_kind hl (PyProof.Rows.G.TupsOf.keep k6 ht) hq
  case ret =>
    obtain ⟨o1, o2⟩ := sort_left a1 a2
    have out : ∃ out : List (Addr × List Int), (arrOf st').toList.map (·.2) = out.map (fun x => Value.ref x.1) ∧ ∀ x ∈ out, H x.1 = some (.tup (x.2.map V.int)) := by
      have each : ∀ l : List Value, (∀ v ∈ l, v ∈ got.toList) → ∃ out : List (Addr × List Int), l = out.map (fun x => Value.ref x.1) ∧ ∀ x ∈ out, H x.1 = some (.tup (x.2.map V.int)) := by
        intro l
        induction l with
        | nil => exact fun _ => ⟨[], rfl, fun x hx => by cases hx⟩
        | cons v r ih =>
          intro hv
          obtain ⟨out, e, ho'⟩ := ih fun y hy => hv y (List.mem_cons_of_mem _ hy)
          obtain ⟨a, k, rfl, _, hk⟩ := zipped v (hv v List.mem_cons_self)
          refine ⟨(a, k) :: out, by rw [List.map_cons, e], fun x hx => ?_⟩
          rcases List.mem_cons.mp hx with e' | hx
          · rw [e']
            exact hk
          · exact ho' x hx
      exact each _ fun v hv => o1.mem_iff.mp hv
    obtain ⟨out, eo, ho'⟩ := out
    obtain ⟨ep', he'⟩ := PyProof.Rows.sortedHeap_at (vs := got.toList) (out := (arrOf st').map (·.2)) atL
    have oz : out.length ≤ sizeLine := by
      have e1 := congrArg List.length eo
      have e2 := o1.length_eq
      rw [List.length_map] at e1 e2
      rw [List.length_map] at e1
      omega
    have inj : ∀ (a : Addr) (k l : List Int), H a = some (.tup (k.map V.int)) → H a = some (.tup (l.map V.int)) → k = l := fun a k l h1 h2 => by
      rw [h1] at h2
      exact ints_inj (HO.tup.inj (Option.some.inj h2))
    refine wpAny_pure ⟨_, rfl, .ref h'.objs.size, upd H h'.objs.size (.lst (out.map fun x => V.ref x.1)), J1.laid (t' := tk) (fun b u q => ?old) (Nat.le_refl _) ⟨by rw [List.length_map]; exact oz, ((arrOf st').map (·.2)).toList, ep', ?vals, he'⟩, rfl, want out _ ?perm ?pw nod ho' (J1.hok.fresh (Nat.le_refl _))⟩
    case old =>
      rw [PyProof.Rows.sortedHeap_old (Nat.ne_of_lt (Heap.lt_size q)) (Nat.lt_of_lt_of_le (Heap.lt_size q) (by rw [size_push']; exact Nat.le_succ _))]
      exact Heap.get?_push_of_some _ q
    case vals =>
      rw [Array.toList_map, eo]
      exact vals_refs' out
    case perm =>
      have p1 : (out.map (fun x => Value.ref x.1)).Perm got.toList := by rw [← eo]; exact o1
      have rd : ∀ v : Value, ∃ k : List Int, ∀ (a : Addr) (l : List Int), v = .ref a → H a = some (.tup (l.map V.int)) → k = l := fun v => by
        by_cases h : ∃ (a : Addr) (l : List Int), v = .ref a ∧ H a = some (.tup (l.map V.int))
        · obtain ⟨a, l, e, h⟩ := h
          refine ⟨l, fun a' l' e' h' => ?_⟩
          cases e.symm.trans e'
          exact inj _ _ _ h h'
        · exact ⟨[], fun a l e h' => absurd ⟨a, l, e, h'⟩ h⟩
      have p2 := p1.map fun v => (rd v).choose
      rw [List.map_map] at p2
      have e1 : out.map (((fun v => (rd v).choose)) ∘ fun x => Value.ref x.1) = out.map (·.2) := List.map_congr_left fun x hx => (rd (.ref x.1)).choose_spec _ _ rfl (ho' x hx)
      have e2 : got.toList.map (fun v => (rd v).choose) = ks := by
        apply List.ext_getElem
        · rw [List.length_map]; exact gotk
        · intro j h1 h2
          have h3 : j < (xs.map (·.2.1)).length := by rw [List.length_map]; omega
          rw [List.getElem_map]
          have ev : got.toList[j]'(by omega) = Value.ref (xs.map (·.2.1))[j] := by simp only [ea, List.getElem_map]
          refine (rd _).choose_spec _ _ ev (held ((xs.map (·.2.1))[j], ks[j]) ?_)
          rw [List.mem_iff_getElem]
          refine ⟨j, by rw [List.length_zip]; omega, ?_⟩
          rw [List.getElem_zip]
      rw [e1, e2] at p2
      exact p2
    case pw =>
      rw [eo, List.pairwise_map] at o2
      rw [List.pairwise_map]
      refine List.Pairwise.imp_of_mem (fun {x y} hx hy h => ?_) o2
      have hle := h _ _ (keyOf x.1 x.2 (ho' x hx)) (keyOf y.1 y.2 (ho' y hy))
      rw [← lexLt_inl]
      exact hle
end
end L2

set_option Elab.async false
set_option linter.all false
set_option maxRecDepth 100000
set_option maxHeartbeats 2000000
/-! rows: what a list of entries sums to, and the one row of the sums -/
namespace OT
open PySem PySem.Spec PyProof.Rows L2
abbrev Pl := List Int
abbrev Ent := List Int × Int
def numAt : List Ent → Pl → Int
  | [], _ => 0
  | e :: r, q => (if e.1 = q then e.2 else 0) + numAt r q
theorem numAt_app : ∀ (a b : List Ent) (q : Pl), numAt (a ++ b) q = numAt a q + numAt b q
  | [], b, q => by
    show numAt b q = 0 + numAt b q
    omega
  | e :: r, b, q => by
    show (if e.1 = q then e.2 else 0) + numAt (r ++ b) q = (if e.1 = q then e.2 else 0) + numAt r q + numAt b q
    rw [numAt_app r b q]
    omega
theorem numAt_out {es : List Ent} {q : Pl} (h : ∀ e ∈ es, e.1 ≠ q) : numAt es q = 0 := by
  induction es with
  | nil => rfl
  | cons e r ih =>
    show (if e.1 = q then e.2 else 0) + numAt r q = 0
    rw [if_neg (h e List.mem_cons_self), ih fun x hx => h x (List.mem_cons_of_mem _ hx)]
    rfl
theorem lt_irr (k : Pl) : HT.lexLt k k = false := by
  rw [← lexLt_inl]
  exact PyProof.Rows.lex_irrefl _
theorem lt_trans {a b c : Pl} (h1 : HT.lexLt a b = true) (h2 : HT.lexLt b c = true) : HT.lexLt a c = true := by
  rw [← lexLt_inl] at *
  exact PyProof.Rows.lex_trans _ _ _ h1 h2
theorem inl_inj {β : Type} : ∀ {a b : Pl}, a.map (Sum.inl : Int → Int ⊕ β) = b.map Sum.inl → a = b
  | [], [], _ => rfl
  | [], _ :: _, h => by cases h
  | _ :: _, [], h => by cases h
  | x :: r, y :: t, h => by
    rw [List.map_cons, List.map_cons] at h
    obtain ⟨e, h⟩ := List.cons.inj h
    rw [Sum.inl.inj e, inl_inj h]
theorem lt_tot {a b : Pl} (h1 : HT.lexLt a b = false) (h2 : HT.lexLt b a = false) : a = b := by
  rw [← lexLt_inl] at *
  exact inl_inj (PyProof.Rows.lex_total _ _ h1 h2)
theorem lt_ne {a b : Pl} (h : HT.lexLt a b = true) : a ≠ b := by
  rintro rfl
  rw [lt_irr] at h
  cases h
structure Valid (r : List Ent) : Prop where
  asc : r.Pairwise fun a b => HT.lexLt a.1 b.1 = true
  nz : ∀ e ∈ r, e.2 ≠ 0
theorem Valid.tail {e : Ent} {r : List Ent} (h : Valid (e :: r)) : Valid r := ⟨(List.pairwise_cons.mp h.asc).2, fun x hx => h.nz x (List.mem_cons_of_mem _ hx)⟩
theorem Valid.head_out {e : Ent} {r : List Ent} (h : Valid (e :: r)) {q : Pl} (hq : q = e.1 ∨ HT.lexLt q e.1 = true) : numAt r q = 0 := by
  refine numAt_out fun x hx z => ?_
  have h1 := (List.pairwise_cons.mp h.asc).1 x hx
  rcases hq with rfl | hq
  · exact lt_ne h1 z.symm
  · exact lt_ne (lt_trans hq h1) z.symm
theorem Valid.head_at {e : Ent} {r : List Ent} (h : Valid (e :: r)) : numAt (e :: r) e.1 = e.2 := by
  show (if e.1 = e.1 then e.2 else 0) + numAt r e.1 = e.2
  rw [if_pos rfl, h.head_out (.inl rfl)]
  omega
theorem Valid.low {e : Ent} {r : List Ent} (h : Valid (e :: r)) {q : Pl} (hq : HT.lexLt q e.1 = true) : numAt (e :: r) q = 0 := by
  show (if e.1 = q then e.2 else 0) + numAt r q = 0
  rw [if_neg (fun z => lt_ne hq z.symm), h.head_out (.inr hq)]
  rfl
theorem Valid.ext : ∀ {r t : List Ent}, Valid r → Valid t → (∀ q, numAt r q = numAt t q) → r = t
  | [], [], _, _, _ => rfl
  | [], e :: t, _, ht, h => by
    have h1 := h e.1
    rw [ht.head_at] at h1
    exact absurd h1.symm (ht.nz e List.mem_cons_self)
  | e :: r, [], hr, _, h => by
    have h1 := h e.1
    rw [hr.head_at] at h1
    exact absurd h1 (hr.nz e List.mem_cons_self)
  | e :: r, f :: t, hr, ht, h => by
    have k : e.1 = f.1 := by
      refine lt_tot ?_ ?_
      · cases z : HT.lexLt e.1 f.1 with
        | false => rfl
        | true =>
          have h1 := h e.1
          rw [hr.head_at, ht.low z] at h1
          exact absurd h1 (hr.nz e List.mem_cons_self)
      · cases z : HT.lexLt f.1 e.1 with
        | false => rfl
        | true =>
          have h1 := h f.1
          rw [ht.head_at, hr.low z] at h1
          exact absurd h1.symm (ht.nz f List.mem_cons_self)
    have n : e.2 = f.2 := by
      have h1 := h e.1
      rw [hr.head_at, k, ht.head_at] at h1
      exact h1
    have ef : e = f := Prod.ext k n
    subst ef
    refine congrArg _ (Valid.ext hr.tail ht.tail fun q => ?_)
    have h1 := h q
    have h2 : (if e.1 = q then e.2 else 0) + numAt r q = (if e.1 = q then e.2 else 0) + numAt t q := h1
    omega
/-- the row of the sums -/
structure RowIs (r es : List Ent) : Prop where
  v : Valid r
  s : ∀ q, numAt r q = numAt es q
theorem RowIs.one {r t es : List Ent} (h1 : RowIs r es) (h2 : RowIs t es) : r = t := h1.v.ext h2.v fun q => (h1.s q).trans (h2.s q).symm
theorem Valid.at : ∀ {r : List Ent}, Valid r → ∀ e ∈ r, numAt r e.1 = e.2
  | f :: t, h, e, he => by
    rcases List.mem_cons.mp he with rfl | he
    · exact h.head_at
    · show (if f.1 = e.1 then f.2 else 0) + numAt t e.1 = e.2
      rw [if_neg (lt_ne ((List.pairwise_cons.mp h.asc).1 e he)), Valid.at h.tail e he]
      omega
theorem RowIs.mem {r es : List Ent} (h : RowIs r es) {e : Ent} (he : e ∈ r) : ∃ x ∈ es, x.1 = e.1 := by
  have h1 := h.v.at e he
  rw [h.s] at h1
  by_cases z : ∃ x ∈ es, x.1 = e.1
  · exact z
  · rw [numAt_out fun x hx y => z ⟨x, hx, y⟩] at h1
    exact absurd h1.symm (h.v.nz e he)
theorem Valid.len : ∀ {r : List Ent} {l : List Pl}, Valid r → (∀ e ∈ r, e.1 ∈ l) → r.length ≤ l.length
  | [], _, _, _ => Nat.zero_le _
  | e :: t, l, h, k => by
    have h1 := k e List.mem_cons_self
    have ih := Valid.len (l := l.erase e.1) h.tail fun x hx => (List.mem_erase_of_ne (lt_ne ((List.pairwise_cons.mp h.asc).1 x hx)).symm).mpr (k x (List.mem_cons_of_mem _ hx))
    rw [List.length_erase_of_mem h1] at ih
    have h2 := List.length_pos_of_mem h1
    rw [List.length_cons]
    omega
theorem RowIs.len {r es : List Ent} (h : RowIs r es) : r.length ≤ es.length := by
  have := h.v.len (l := es.map (·.1)) fun e he => by
    obtain ⟨x, hx, ex⟩ := h.mem he
    rw [← ex]
    exact List.mem_map_of_mem hx
  rwa [List.length_map] at this
/-- the entries of the keys in turn -/
def mkR (f : Pl → Int) : List Pl → List Ent
  | [] => []
  | k :: r => if f k = 0 then mkR f r else (k, f k) :: mkR f r
theorem mkR_snoc (f : Pl → Int) (k : Pl) : ∀ ks : List Pl, mkR f (ks ++ [k]) = mkR f ks ++ (if f k = 0 then [] else [(k, f k)])
  | [] => by
    show (if f k = 0 then [] else [(k, f k)]) = [] ++ _
    rw [List.nil_append]
  | x :: r => by
    show (if f x = 0 then mkR f (r ++ [k]) else (x, f x) :: mkR f (r ++ [k])) = (if f x = 0 then mkR f r else (x, f x) :: mkR f r) ++ _
    rw [mkR_snoc f k r]
    by_cases h : f x = 0
    · rw [if_pos h, if_pos h]
    · rw [if_neg h, if_neg h]
      rfl
theorem mkR_mem {f : Pl → Int} {e : Ent} : ∀ {ks : List Pl}, e ∈ mkR f ks → e.1 ∈ ks ∧ e.2 = f e.1 ∧ e.2 ≠ 0
  | k :: r, h => by
    have h' : e ∈ (if f k = 0 then mkR f r else (k, f k) :: mkR f r) := h
    by_cases z : f k = 0
    · rw [if_pos z] at h'
      obtain ⟨h1, h2⟩ := mkR_mem h'
      exact ⟨List.mem_cons_of_mem _ h1, h2⟩
    · rw [if_neg z] at h'
      rcases List.mem_cons.mp h' with rfl | h'
      · exact ⟨List.mem_cons_self, rfl, z⟩
      · obtain ⟨h1, h2⟩ := mkR_mem h'
        exact ⟨List.mem_cons_of_mem _ h1, h2⟩
theorem mkR_valid {f : Pl → Int} : ∀ {ks : List Pl}, ks.Pairwise (fun a b => HT.lexLt a b = true) → Valid (mkR f ks)
  | [], _ => ⟨.nil, fun e h => by cases h⟩
  | k :: r, h => by
    obtain ⟨h1, h2⟩ := List.pairwise_cons.mp h
    have ih := mkR_valid (f := f) h2
    show Valid (if f k = 0 then mkR f r else (k, f k) :: mkR f r)
    by_cases z : f k = 0
    · rw [if_pos z]
      exact ih
    · rw [if_neg z]
      refine ⟨List.pairwise_cons.mpr ⟨fun e he => h1 _ (mkR_mem he).1, ih.asc⟩, fun e he => ?_⟩
      rcases List.mem_cons.mp he with rfl | he
      · exact z
      · exact ih.nz e he
theorem mkR_sum {f : Pl → Int} : ∀ {ks : List Pl}, ks.Nodup → ∀ q, numAt (mkR f ks) q = if q ∈ ks then f q else 0
  | [], _, q => rfl
  | k :: r, h, q => by
    obtain ⟨h1, h2⟩ := List.nodup_cons.mp h
    have ih := mkR_sum (f := f) h2 q
    show numAt (if f k = 0 then mkR f r else (k, f k) :: mkR f r) q = _
    have key : numAt (if f k = 0 then mkR f r else (k, f k) :: mkR f r) q = (if k = q then f k else 0) + numAt (mkR f r) q := by
      by_cases z : f k = 0
      · rw [if_pos z, z, ite_self]
        omega
      · rw [if_neg z]
        rfl
    rw [key, ih]
    by_cases e : k = q
    · subst e
      rw [if_pos rfl, if_neg h1, if_pos List.mem_cons_self]
      omega
    · rw [if_neg e]
      by_cases m : q ∈ r
      · rw [if_pos m, if_pos (List.mem_cons_of_mem _ m)]
        omega
      · rw [if_neg m, if_neg]
        · rfl
        · intro hq
          rcases List.mem_cons.mp hq with rfl | hq
          · exact e rfl
          · exact m hq
/-- a dict of sums: its keys are ks, at k it holds f k -/
structure Sums (kvs : List (List Key × V)) (ks : List Pl) (f : Pl → Int) : Prop where
  keys : kvs.map (·.1) = ks.map fun k => k.map Sum.inl
  val : ∀ k : Pl, valV kvs (k.map Sum.inl) = if k ∈ ks then some (V.int (f k)) else none
  out : ∀ k, k ∉ ks → f k = 0
theorem Sums.nil : Sums [] [] (fun _ => 0) := ⟨rfl, fun k => rfl, fun _ _ => rfl⟩
theorem Sums.len {kvs : List (List Key × V)} {ks : List Pl} {f : Pl → Int} (h : Sums kvs ks f) : kvs.length = ks.length := by
  have := congrArg List.length h.keys
  rwa [List.length_map, List.length_map] at this
theorem putK_keys {κ : Type} [DecidableEq κ] {kvs : List (κ × V)} {k : κ} {v : V} (h : (valV kvs k).isSome = true) : (putK kvs k v).map (·.1) = kvs.map (·.1) := by
  unfold putK
  rw [valV_any, if_pos h, List.map_map]
  refine List.map_congr_left fun x _ => ?_
  show (if x.1 = k then (x.1, v) else x).1 = x.1
  by_cases e : x.1 = k
  · rw [if_pos e]
  · rw [if_neg e]
theorem Sums.put {kvs : List (List Key × V)} {ks : List Pl} {f : Pl → Int} (h : Sums kvs ks f) (k : Pl) (n : Int) :
    Sums (putK kvs (k.map Sum.inl) (.int (f k + n))) (if k ∈ ks then ks else ks ++ [k]) (fun q => f q + if k = q then n else 0) := by
  have hv := h.val k
  refine ⟨?_, fun q => ?_, fun q hq => ?_⟩
  · by_cases m : k ∈ ks
    · rw [if_pos m] at hv ⊢
      rw [putK_keys (by rw [hv]; rfl), h.keys]
    · rw [if_neg m] at hv ⊢
      rw [putK_new _ hv, List.map_append, List.map_append, h.keys]
      rfl
  · rw [valV_put, h.val]
    by_cases e : q = k
    · subst e
      rw [if_pos rfl, if_pos rfl, if_pos]
      by_cases m : q ∈ ks
      · rw [if_pos m]
        exact m
      · rw [if_neg m]
        exact List.mem_append_right _ List.mem_cons_self
    · have ne1 : ¬ (q.map (Sum.inl : Int → Key) = k.map Sum.inl) := fun z => e (inl_inj z)
      have ne2 : ¬ (k = q) := fun z => e z.symm
      rw [if_neg ne1, if_neg ne2]
      have mm : (q ∈ if k ∈ ks then ks else ks ++ [k]) ↔ q ∈ ks := by
        by_cases m : k ∈ ks
        · rw [if_pos m]
        · rw [if_neg m, List.mem_append, List.mem_singleton]
          exact ⟨fun z => z.elim id fun z => absurd z e, .inl⟩
      by_cases m : q ∈ ks
      · rw [if_pos m, if_pos (mm.mpr m), Int.add_zero]
      · rw [if_neg m, if_neg (fun z => m (mm.mp z))]
  · have hq2 : q ∉ ks ∧ k ≠ q := by
      by_cases m : k ∈ ks
      · rw [if_pos m] at hq
        exact ⟨hq, fun z => hq (z ▸ m)⟩
      · rw [if_neg m] at hq
        exact ⟨fun z => hq (List.mem_append_left _ z), fun z => hq (List.mem_append_right _ (z ▸ List.mem_cons_self))⟩
    show f q + (if k = q then n else 0) = 0
    rw [if_neg hq2.2, h.out q hq2.1]
    rfl
theorem Sums.next {kvs : List (List Key × V)} {ks : List Pl} {es : List Ent} {i : Nat} {e : Ent} (hi : es[i]? = some e) (h : Sums kvs ks (numAt (es.take i))) :
    Sums (putK kvs (e.1.map Sum.inl) (.int (numAt (es.take i) e.1 + e.2))) (if e.1 ∈ ks then ks else ks ++ [e.1]) (numAt (es.take (i + 1))) := by
  have he : es.take (i + 1) = es.take i ++ [e] := by
    obtain ⟨h1, h2⟩ := List.getElem?_eq_some_iff.mp hi
    rw [List.take_add_one, hi]
    rfl
  have hf : numAt (es.take (i + 1)) = fun q => numAt (es.take i) q + if e.1 = q then e.2 else 0 := by
    funext q
    rw [he, numAt_app]
    show _ + ((if e.1 = q then e.2 else 0) + 0) = _
    omega
  rw [hf]
  exact h.put e.1 e.2
theorem Sums.get {kvs : List (List Key × V)} {ks : List Pl} {f : Pl → Int} (h : Sums kvs ks f) {k : Pl} (m : k ∈ ks) : valV kvs (k.map Sum.inl) = some (.int (f k)) := by
  rw [h.val, if_pos m]
theorem Sums.getD {kvs : List (List Key × V)} {ks : List Pl} {f : Pl → Int} (h : Sums kvs ks f) (k : Pl) : (valV kvs (k.map Sum.inl)).getD (.int 0) = .int (f k) := by
  rw [h.val]
  by_cases m : k ∈ ks
  · rw [if_pos m]
    rfl
  · rw [if_neg m, h.out k m]
    rfl
/-- sorted keys' entries are the row -/
theorem row_sorted {es : List Ent} {ks out : List Pl} (perm : out.Perm ks) (pw : out.Pairwise fun a b => HT.lexLt b a = false) (nod : ks.Nodup) (all : ∀ q, q ∉ ks → numAt es q = 0) : RowIs (mkR (numAt es) out) es := by
  have no : out.Nodup := perm.nodup_iff.mpr nod
  have asc : out.Pairwise fun a b => HT.lexLt a b = true := by
    have both := List.pairwise_and_iff.mpr ⟨pw, no⟩
    refine both.imp fun {a b} h => ?_
    cases z : HT.lexLt a b with
    | true => rfl
    | false => exact absurd (lt_tot z h.1) h.2
  refine ⟨mkR_valid asc, fun q => ?_⟩
  rw [mkR_sum no]
  by_cases m : q ∈ out
  · rw [if_pos m]
  · rw [if_neg m, all q fun z => m (perm.mem_iff.mpr z)]
/-! ### rows in the heap -/
def EntAt (H : Hp) (v : V) (e : Ent) : Prop := ∃ t p, v = .ref t ∧ H t = some (.tup [.ref p, .int e.2]) ∧ H p = some (.tup (e.1.map V.int))
inductive Ents (H : Hp) : List V → List Ent → Prop
  | nil : Ents H [] []
  | cons {v : V} {e : Ent} {vs : List V} {es : List Ent} : EntAt H v e → Ents H vs es → Ents H (v :: vs) (e :: es)
theorem Ents.len {H : Hp} {vs : List V} {es : List Ent} (h : Ents H vs es) : vs.length = es.length := by
  induction h with
  | nil => rfl
  | cons _ _ ih => rw [List.length_cons, List.length_cons, ih]
theorem EntAt.mono {H H' : Hp} {v : V} {e : Ent} (s : ∀ b o, H b = some o → H' b = some o) (h : EntAt H v e) : EntAt H' v e := by
  obtain ⟨t, p, rfl, h1, h2⟩ := h
  exact ⟨t, p, rfl, s _ _ h1, s _ _ h2⟩
theorem Ents.mono {H H' : Hp} {vs : List V} {es : List Ent} (s : ∀ b o, H b = some o → H' b = some o) (h : Ents H vs es) : Ents H' vs es := by
  induction h with
  | nil => exact .nil
  | cons h1 _ ih => exact .cons (h1.mono s) ih
theorem Ents.app {H : Hp} {vs ws : List V} {es fs : List Ent} (h : Ents H vs es) (g : Ents H ws fs) : Ents H (vs ++ ws) (es ++ fs) := by
  induction h with
  | nil => exact g
  | cons h1 _ ih => exact .cons h1 ih
theorem Ents.get {H : Hp} {vs : List V} {es : List Ent} (h : Ents H vs es) : ∀ {i : Nat} {v : V}, vs[i]? = some v → ∃ e, es[i]? = some e ∧ EntAt H v e := by
  induction h with
  | nil => intro i v h; simp at h
  | cons h1 _ ih =>
    intro i v hv
    cases i with
    | zero =>
      cases hv
      exact ⟨_, rfl, h1⟩
    | succ i => exact ih (i := i) hv
theorem Ents.at {H : Hp} {vs : List V} {es : List Ent} (h : Ents H vs es) {i : Nat} (hi : i < es.length) : ∃ v, vs[i]? = some v ∧ EntAt H v es[i] := by
  have h2 : i < vs.length := by rw [h.len]; exact hi
  obtain ⟨e, h3, h4⟩ := h.get (List.getElem?_eq_getElem h2)
  rw [List.getElem?_eq_getElem hi] at h3
  cases h3
  exact ⟨_, List.getElem?_eq_getElem h2, h4⟩
theorem Ents.set {H : Hp} {vs : List V} {es : List Ent} {v : V} {e : Ent} (h : Ents H vs es) (h1 : EntAt H v e) : ∀ i, Ents H (vs.set i v) (es.set i e) := by
  induction h with
  | nil => intro i; exact .nil
  | cons a b ih =>
    intro i
    cases i with
    | zero => exact .cons h1 b
    | succ i => exact .cons a (ih i)
/-- as data -/
def dPl (k : Pl) : PyData := .tuple (k.map .int)
def dEnt (e : Ent) : PyData := .tuple [dPl e.1, .int e.2]
def dRow (es : List Ent) : PyData := .list (es.map dEnt)
theorem dp_ints {K : PySem.W.Frag} {H : Hp} : ∀ k : Pl, DpAll K H (k.map V.int) (k.map PyData.int)
  | [] => .nil
  | n :: r => .cons (.int n) (dp_ints r)
theorem EntAt.dp {K : PySem.W.Frag} {H : Hp} {v : V} {e : Ent} (h : EntAt H v e) : Dp K H v (dEnt e) := by
  obtain ⟨t, p, rfl, h1, h2⟩ := h
  exact .tup (.inl (.inl h1)) (.cons (.tup (.inl (.inl h2)) (dp_ints _)) (.cons (.int _) .nil))
theorem Ents.dpAll {K : PySem.W.Frag} {H : Hp} {vs : List V} {es : List Ent} (h : Ents H vs es) : DpAll K H vs (es.map dEnt) := by
  induction h with
  | nil => exact .nil
  | cons h1 _ ih => exact .cons h1.dp ih
theorem Ents.dp {K : PySem.W.Frag} {H : Hp} {a : Addr} {vs : List V} {es : List Ent} (ha : SqL K H a vs) (h : Ents H vs es) : Dp K H (.ref a) (dRow es) := .lst ha h.dpAll
theorem lay_ints : ∀ k : Pl, PyData.canLayAll0 (k.map PyData.int) = true
  | [] => rfl
  | n :: r => by
    show (PyData.canLay0 (.int n) && PyData.canLayAll0 (r.map PyData.int)) = true
    rw [lay_ints r]
    rfl
theorem lay_row : ∀ es : List Ent, PyData.canLayAll0 (es.map dEnt) = true
  | [] => rfl
  | e :: r => by
    show (PyData.canLay0 (dEnt e) && PyData.canLayAll0 (r.map dEnt)) = true
    rw [lay_row r]
    show ((PyData.canLayAll0 (e.1.map PyData.int) && (PyData.canLay0 (.int e.2) && true)) && true) = true
    rw [lay_ints]
    rfl
end OT

set_option Elab.async false
set_option linter.all false
set_option maxRecDepth 100000
set_option maxHeartbeats 4000000
/-! raise C(), an own class whose __init__ takes no argument but the error itself -/
namespace L2
open PySem PySem.Spec PyProof.Rows PySem.W PySem.Calls PySem.HandSPX
section
variable {X : Cx} {p pos : Pos} {pins : List (Addr × Obj)} {σ : St} {H : Hp} {st : Shared}
/-- the heap with the bare error and its empty arguments behind the old objects -/
def bareHeap (C : Addr) (h : Heap) : Heap := (h.push (kdv_tup [])).push (excO C h.objs.size)
theorem bare_grows {C : Addr} {h : Heap} (b : Addr) (o : Obj) (e : h.get? b = some o) : (bareHeap C h).get? b = some o := Heap.get?_push_of_some _ (Heap.get?_push_of_some _ e)
theorem bare_there {C : Addr} {h : Heap} : (bareHeap C h).get? (h.objs.size + 1) = some (excO C h.objs.size) := by
  show ((h.push (kdv_tup [])).push (excO C h.objs.size)).get? (h.objs.size + 1) = _
  heap_get
theorem bare_inv {C : Addr} (I : Inv X pins σ H st) : H (st.heap.objs.size + 1) = none ∧ Inv X pins σ (upd H (st.heap.objs.size + 1) (exo (st.heap.objs.size + 1) C none)) ⟨bareHeap C st.heap, st.gens, st.drawn, st.toks, st.os⟩ :=
  ⟨I.hok.fresh (Nat.le_succ _), I.laid (t' := st.toks) (a := st.heap.objs.size + 1) (h' := bareHeap C st.heap) (o := exo (st.heap.objs.size + 1) C none) bare_grows (Nat.le_succ _) (exo_ok bare_there)⟩
theorem pmk_oex0 {CX : CXT} {x : Str} {C fI : Addr} {k : Nat} {fd : FuncData} {ps : List Str} {sp : Sp} (T : OexC X.K C) (iC : findIn X.K (.ref C) "__init__" = some (some (.ref fI))) (tI : typeIn X.K (.ref fI) = some (.type "function"))
    (G : FnOk X.prog X.w X.K X.mg X.base CX k fI fd ps sp) (hr : Room (k + 1) X.A) (bi : Binds X.K fd ps []) (no : Passes CX X fun _ _ _ => False) (hg : Gl X x) (hm : X.mg x = some (.ref C)) (nd : (x == ("__debug__" : Str)) = false := by decide) :
    PMk X (.Call (.Name x p) [] [] pos) (tMkO C sp [] tNil) := by
  intro pins σ0 σ H Q I want
  rcases σ0 with ⟨h, gs, dw, ts, os⟩
  obtain ⟨_, _, _, _, bm, _, _, _, _, _, _, _, _, _, _, stands, vb⟩ := T.cls
  obtain ⟨_, ask⟩ := want
  obtain ⟨free, J⟩ := bare_inv (C := C) I
  have promise := ask (h.objs.size + 1) free
  have one : ([Value.ref (h.objs.size + 1)] : List Value).length = ps.length := (G.len _ _ _ _ promise).symm ▸ rfl
  have body := G.run (X.A.under (.builtin "type.__call__" ⟨[.ref C], []⟩)) X.stack _ _ ⟨[.ref (h.objs.size + 1)], []⟩ [.ref (h.objs.size + 1)] _ _ (fun _ _ _ => False) (hr.make C [] []) (J.env0.make C [] []) (bi _ [.ref (h.objs.size + 1)] J.kIn one) (show Vals [V.ref (h.objs.size + 1)] [Value.ref (h.objs.size + 1)] from .cons rfl .nil) promise
  refine wpAny_Call_Name_kw (ld_glob I hg hm (callWith_K0 I.kIn T.kC ?_) nd)
  refine wpAny_call (call_own (rest := []) F.excBase_ValueError (fun Y => refsVE_contains Y bm vb) (I.kIn _ _ stands) (looks_findIn I.kIn iC) (fun me => bind_fn I.kIn me tI) (Nat.zero_le _) (codeAny_mono body ?_))
  rintro (er | fl) s2 end_
  · exact no pins σ _ _ er s2 J end_
  · cases fl with
    | ret u =>
      rcases s2 with ⟨h2, gs2, dw2, ts2, os2⟩
      obtain ⟨_, H2, same, bare, un, ok2, rel, rfl, d, fs, at_a, at_d, new, q⟩ := end_
      exact ⟨rel, mk_end (raises_own T.exC T.tyC) I (Nat.le_succ _) bare_grows un ok2 same bare at_a at_d new q⟩
    | next => cases end_
    | brk => cases end_
    | cont => cases end_
end
end L2

set_option Elab.async false
set_option linter.all false
set_option maxRecDepth 100000
set_option maxHeartbeats 2000000
/-! zip(*xs) of any number of tuples of one length; the target a name -/
namespace OZ
open PySem
open PySem.Sem (wp)
theorem tc (args : List Value) : checkTypeCall "zip" ⟨args, []⟩ = pure () := by kernel_rfl
theorem nc (a : Value) (args : List Value) : checkBuiltinCall "zip.__new__" ⟨.type "zip" :: a :: args, []⟩ = pure () := by kernel_rfl
theorem oi (args : List Value) : argsOk "object.__init__" ⟨args, []⟩ := by
  unfold argsOk; rw [signature?_of (id := "object.__init__") (n := ['_', '_', 't', 'i', 'n', 'i', '_', '_']) (o := ['t', 'c', 'e', 'j', 'b', 'o']) (by kernel_rfl) F.owner_object]; kernel_rfl
abbrev IsZipF (h : Heap) (z TI TO : Addr) (f0 f1 : Value) : Prop :=
  h.get? z = some { cls := .type "zip", dict := none, data := .fields #[f0, f1, .bool false, .ref TI, .ref TO], slots := #[] }
abbrev IsTup (h : Heap) (T : Addr) (vs : List Value) : Prop := h.get? T = some { cls := .type "tuple", data := .seq vs.toArray }
structure ZAp (z TI TO : Addr) (its as : List Addr) : Prop where
  TIz : TI ≠ z
  TOz : TO ≠ z
  TITO : TI ≠ TO
  zi : z ∉ its
  TIi : TI ∉ its
  TOi : TO ∉ its
  nd : its.Nodup
  za : z ∉ as
  TOa : TO ∉ as
  ia : ∀ t ∈ its, t ∉ as
  len : its.length = as.length
section
variable {prog : Program} {w : World} {A : Around} {E : Value → Shared → Prop} {s : Shared}
theorem wp_forIn {M : Model} {α β : Type} {l : List α} {f : α → β → Sem (ForInStep β)} {Q : β → Shared → Prop} (I : Nat → β → Shared → Prop)
    (step : ∀ i x b s, l[i]? = some x → I i b s → wpAny M A (f x b) (fun r s' => ∃ b', r = .yield b' ∧ I (i + 1) b' s') E s)
    (hend : ∀ b s, I l.length b s → Q b s) {b : β} (h0 : I 0 b s) : wpAny M A (forIn l b f) Q E s := by
  have key : ∀ n i b s, n + i = l.length → I i b s → wpAny M A (forIn (l.drop i) b f) Q E s := by
    intro n
    induction n with
    | zero =>
      intro i b s hn hI
      rw [List.drop_eq_nil_of_le (by omega)]
      have : i = l.length := by omega
      subst this
      rw [List.forIn_nil]
      exact wpAny_pure (hend b s hI)
    | succ n ih =>
      intro i b s hn hI
      have hi : i < l.length := by omega
      rw [List.drop_eq_getElem_cons hi, List.forIn_cons]
      refine wpAny_bind (wpAny_mono (step i _ b s (List.getElem?_eq_getElem hi) hI) (fun r s' h => ?_) fun _ _ x => x)
      obtain ⟨b', rfl, h⟩ := h
      exact ih (i + 1) b' s' (by omega) h
  have := key l.length 0 b s (by omega) h0
  rwa [List.drop_zero] at this
/-- what all objects but the zip's own keep -/
abbrev Kp (z TO : Addr) (its : List Addr) (h h' : Heap) : Prop := ∀ c o, c ≠ z → c ≠ TO → c ∉ its → h.get? c = some o → h'.get? c = some o
structure Lp (h0 : Heap) (z TI TO : Addr) (its as : List Addr) (ys : List Value) (i : Nat) (f1 : Value) (j : Nat) (h : Heap) (us : List Value) : Prop where
  zz : IsZipF h z TI TO .ellipsis f1
  tt : IsTup h TO us
  len : us.length = its.length
  y : ∀ m < j, us[m]? = ys[m]?
  it : ∀ (m : Nat) (t a : Addr), its[m]? = some t → as[m]? = some a → h.IsTupleIter t a (if m < j then i + 1 else i)
  sz : h.objs.size = h0.objs.size
  k : Kp z TO its h0 h
theorem next_free {z TI TO : Addr} {its as : List Addr} {i : Nat} {f1 : Value} {vs ys : List Value} {Q : Value → Shared → Prop} (D : ZAp z TI TO its as) (hk : its ≠ []) (hz8 : its.length ≤ 100000)
    (free : ∀ R : Bool → Shared → Prop, R true s → wpAny (model prog w) A (Builtin.SmallTypes.ownedTupleIsFree (.ref z)) R E s)
    {f0 : Value} (hz : IsZipF s.heap z TI TO f0 f1) (hTI : IsTup s.heap TI (its.map Value.ref)) (hTO : IsTup s.heap TO vs) (hv : vs.length = its.length)
    (hit : ∀ (j : Nat) (t a : Addr), its[j]? = some t → as[j]? = some a → s.heap.IsTupleIter t a i) (hy : ys.length = its.length)
    (hit2 : ∀ (j : Nat) (a : Addr), as[j]? = some a → ∃ items, s.heap.IsTuple a items ∧ items[i]? = ys[j]?)
    (hQ : ∀ h', IsZipF h' z TI TO (rawInt s.heap.objs.size) (.bool false) → IsTup h' TI (its.map Value.ref) → IsTup h' TO ys → (∀ (j : Nat) (t a : Addr), its[j]? = some t → as[j]? = some a → h'.IsTupleIter t a (i + 1)) → IsTup h' s.heap.objs.size ys → h'.objs.size = s.heap.objs.size + 1 →
      Kp z TO its s.heap h' → Q (.ref s.heap.objs.size) { s with heap := h' }) :
    wpAny (model prog w) A (Builtin.«zip.__next__» ⟨[.ref z], []⟩) (fun fin s' => ∃ v, fin = .done (.ret v) ∧ Q v s') E s := by
  show wpAny _ _ (field (.ref z) 2 >>= _) _ _ _
  refine wpAny_bind (wpAny_field hz rfl (x := .bool false) rfl ?_)
  show wpAny _ _ (field (.ref z) 3 >>= _) _ _ _
  refine wpAny_bind (wpAny_field hz rfl (x := .ref TI) rfl ?_)
  refine wpAny_bind (wpAny_seqItems hTI rfl ?_)
  have hne : (its.map Value.ref).toArray.isEmpty = false := by
    cases its with
    | nil => exact absurd rfl hk
    | cons x r => rfl
  simp only [hne, Bool.false_eq_true, if_false]
  refine wpAny_bind (free _ ?_)
  simp only [if_true]
  refine wpAny_bind (wpAny_rule ?_)
  refine wpAny_bind (wpAny_field hz rfl (x := .ref TO) rfl ?_)
  refine wpAny_bind (wpAny_setField_rec hz (by simp) fun h₁ hz₁ hs₁ => ?_)
  replace hz₁ : IsZipF h₁ z TI TO .ellipsis f1 := hz₁
  have hsz1 : h₁.objs.size = s.heap.objs.size := hs₁.1
  refine wpAny_bind (wp_forIn (fun j b s' => b = (none, PUnit.unit) ∧ ∃ h' us, s' = { s with heap := h' } ∧ Lp s.heap z TI TO its as ys i f1 j h' us) ?_ ?_ ?_)
  · rintro j ⟨v, jj⟩ b s' hx ⟨rfl, h', us, rfl, L⟩
    rw [List.getElem?_zipIdx, List.getElem?_map] at hx
    obtain ⟨t, ht, hx⟩ : ∃ t, its[j]? = some t ∧ (Value.ref t, 0 + j) = (v, jj) := by
      cases e : its[j]? with
      | none => rw [e] at hx; cases hx
      | some t => rw [e] at hx; exact ⟨t, rfl, Option.some.inj hx⟩
    cases hx
    have hj : j < its.length := (List.getElem?_eq_some_iff.mp ht).1
    have hja : j < as.length := by rw [← D.len]; exact hj
    have ha : as[j]? = some as[j] := List.getElem?_eq_getElem hja
    have htm : t ∈ its := List.mem_of_getElem? ht
    have ham : as[j] ∈ as := List.getElem_mem hja
    obtain ⟨items, hI, hyj⟩ := hit2 j _ ha
    have hjy : j < ys.length := by rw [hy]; exact hj
    rw [List.getElem?_eq_getElem hjy] at hyj
    have hIt := L.it j t _ ht ha
    rw [if_neg (Nat.lt_irrefl j)] at hIt
    have hI' : h'.IsTuple as[j] items := by
      obtain ⟨o, ho, r⟩ := hI
      exact ⟨o, L.k _ _ (fun z => D.za (z ▸ ham)) (fun z => D.TOa (z ▸ ham)) (fun z => D.ia _ z ham) ho, r⟩
    refine wpAny_bind (wpAny_onRaise ?_)
    show wpAny _ _ (Builtin.SmallTypes.nextOf (.ref t) >>= _) _ _ _
    refine wpAny_bind (RZ.nextOf_tuple_item (s := { s with heap := h' }) hIt hI' hyj fun h₂ h1₂ hs₂ => wpAny_pure ?_)
    have tTO : t ≠ TO := fun z => D.TOi (z ▸ htm)
    have tz : t ≠ z := fun z => D.zi (z ▸ htm)
    have hTO₂ : IsTup h₂ TO us := hs₂.extBut _ _ tTO.symm L.tt
    refine wpAny_bind (wpAny_seqItems hTO₂ rfl ?_)
    refine wpAny_bind (wpAny_updateSeq hTO₂ rfl ?_ (by show us.toArray.size ≤ sizeLine; rw [List.size_toArray, L.len]; exact Nat.le_trans hz8 (by decide)) (by show (us.toArray.setIfInBounds _ _).size ≤ sizeLine + 1; rw [Array.size_setIfInBounds, List.size_toArray, L.len]; exact Nat.le_trans hz8 (by decide)))
    have hs₃ : Heap.SameBut TO h₂ (h₂.update TO (Obj.mapSeq (·.setIfInBounds (0 + j) ys[j]))) := Heap.SameBut.update ..
    have hTO₃ : IsTup (h₂.update TO (Obj.mapSeq (·.setIfInBounds (0 + j) ys[j]))) TO (us.set j ys[j]) := by
      show (h₂.update TO (Obj.mapSeq (·.setIfInBounds (0 + j) ys[j]))).get? TO = _
      rw [Heap.get?_update_self _ hTO₂ rfl]
      simp [Obj.mapSeq]
    generalize h₂.update TO (Obj.mapSeq (·.setIfInBounds (0 + j) ys[j])) = h₃ at hs₃ hTO₃ ⊢
    refine wpAny_bind (wpAny_letGo (wpAny_pure ⟨_, rfl, rfl, h₃, us.set j ys[j], rfl, ?_⟩))
    refine ⟨hs₃.extBut _ _ D.TOz.symm (hs₂.extBut _ _ tz.symm L.zz), hTO₃, by rw [List.length_set]; exact L.len, fun m hm => ?_, fun m t' a' h1 h2 => ?_, by rw [hs₃.1, hs₂.1]; exact L.sz, fun c o c1 c2 c3 e => hs₃.extBut _ _ c2 (hs₂.extBut _ _ (fun z => c3 (z ▸ htm)) (L.k c o c1 c2 c3 e))⟩
    · by_cases e : m = j
      · subst e
        rw [List.getElem?_set_self (by rw [L.len]; exact hj), List.getElem?_eq_getElem hjy]
      · rw [List.getElem?_set_ne (fun z => e z.symm)]
        exact L.y m (by omega)
    · by_cases e : m = j
      · subst e
        rw [ht] at h1
        cases h1
        rw [ha] at h2
        cases h2
        rw [if_pos (Nat.lt_succ_self _)]
        exact h1₂.extBut hs₃.extBut tTO
      · have hne2 : t' ≠ t := fun z => by
          subst z
          have q1 := (List.getElem?_eq_some_iff.mp h1)
          have q2 := (List.getElem?_eq_some_iff.mp ht)
          obtain ⟨b1, e1⟩ := q1
          obtain ⟨b2, e2⟩ := q2
          exact e ((List.getElem_inj D.nd).mp (e1.trans e2.symm))
        have q := L.it m t' a' h1 h2
        have tm' : t' ∈ its := List.mem_of_getElem? h1
        have q2 := (q.extBut hs₂.extBut hne2).extBut hs₃.extBut (fun z => D.TOi (z ▸ tm'))
        by_cases c : m < j
        · rw [if_pos c] at q2
          rw [if_pos (by omega)]
          exact q2
        · rw [if_neg c] at q2
          rw [if_neg (by omega)]
          exact q2
  · rintro b s' ⟨rfl, h₅, us, rfl, L⟩
    have hus : us = ys := by
      have hn : ((List.map Value.ref its).zipIdx).length = its.length := by rw [List.length_zipIdx, List.length_map]
      rw [hn] at L
      refine List.ext_getElem? fun m => ?_
      by_cases hm : m < its.length
      · exact L.y m hm
      · rw [List.getElem?_eq_none (by rw [L.len]; omega), List.getElem?_eq_none (by rw [hy]; omega)]
    subst hus
    refine wpAny_bind (wpAny_seqItems L.tt rfl ?_)
    have hla : us.toArray.toList = us := by simp
    refine wpAny_bind (wpAny_newTuple ?_ (by rw [hla, hy]; exact Nat.le_trans hz8 (by decide)))
    have hz₅ := L.zz
    have hzlt : z < h₅.objs.size := Heap.lt_size hz₅
    have hsz : h₅.objs.size = s.heap.objs.size := L.sz
    show wpAny _ _ (Builtin.SmallTypes.ownedTupleHandOut (.ref z) (.ref h₅.objs.size) >>= _) _ _ _
    refine wpAny_bind ?_
    unfold Builtin.SmallTypes.ownedTupleHandOut
    have hz₆ : IsZipF (h₅.push { cls := .type "tuple", data := .seq us.toArray.toList.toArray }) z TI TO .ellipsis f1 := Heap.get?_push_of_some _ hz₅
    refine wpAny_bind (wpAny_setField_rec hz₆ (by simp) fun h₇ hz₇ hs₇ => ?_)
    replace hz₇ : IsZipF h₇ z TI TO (rawInt h₅.objs.size) f1 := hz₇
    refine wpAny_setField_rec hz₇ (by simp) fun h₈ hz₈ hs₈ => ?_
    replace hz₈ : IsZipF h₈ z TI TO (rawInt h₅.objs.size) (.bool false) := hz₈
    have up : ∀ c o, c ≠ z → h₅.get? c = some o → h₈.get? c = some o := fun c o c1 e => hs₈.extBut _ _ c1 (hs₇.extBut _ _ c1 (Heap.get?_push_of_some _ e))
    have hT₈ : IsTup h₈ h₅.objs.size us := by
      have q : IsTup (h₅.push { cls := .type "tuple", data := .seq us.toArray.toList.toArray }) h₅.objs.size us := by
        have q2 : (h₅.push { cls := .type "tuple", data := .seq us.toArray.toList.toArray }).get? h₅.objs.size = some { cls := .type "tuple", data := .seq us.toArray.toList.toArray } := Heap.get?_push_size _ rfl
        rw [hla] at q2 ⊢
        exact q2
      exact hs₈.extBut _ _ (Nat.ne_of_gt hzlt) (hs₇.extBut _ _ (Nat.ne_of_gt hzlt) q)
    have hz8' : h₈.objs.size = h₅.objs.size + 1 := by rw [hs₈.1, hs₇.1, Heap.size_push]
    rw [hsz] at hz₈ hT₈ hz8'
    refine wpAny_pure ⟨_, rfl, ?_⟩
    show Q (.ref h₅.objs.size) _
    rw [hsz]
    have hn : ((List.map Value.ref its).zipIdx).length = its.length := by rw [List.length_zipIdx, List.length_map]
    rw [hn] at L
    refine hQ h₈ hz₈ (up _ _ D.TIz (L.k _ _ D.TIz D.TITO D.TIi hTI)) (up _ _ D.TOz L.tt) (fun j t a h1 h2 => ?_) hT₈ hz8' fun c o c1 c2 c3 e => up c o c1 (L.k c o c1 c2 c3 e)
    have q := L.it j t a h1 h2
    rw [if_pos (List.getElem?_eq_some_iff.mp h1).1] at q
    exact q.at fun o e => up _ o (fun z => D.zi (z ▸ List.mem_of_getElem? h1)) e
  · refine ⟨rfl, h₁, vs, rfl, hz₁, hs₁.extBut _ _ D.TOz hTO, hv, fun m hm => absurd hm (Nat.not_lt_zero _), fun m t a h1 h2 => ?_, hsz1, fun c o c1 _ _ e => hs₁.extBut _ _ c1 e⟩
    rw [if_neg (Nat.not_lt_zero _)]
    exact (hit m t a h1 h2).extBut hs₁.extBut (fun z => D.zi (z ▸ List.mem_of_getElem? h1))
structure Lh (h0 : Heap) (z TI TO : Addr) (its as : List Addr) (i : Nat) (f0 f1 : Value) (j : Nat) (h : Heap) : Prop where
  zz : IsZipF h z TI TO f0 f1
  it : ∀ (m : Nat) (t a : Addr), its[m]? = some t → as[m]? = some a → h.IsTupleIter t a (if m < j then i + 1 else i)
  sz : h.objs.size = h0.objs.size
  k : ∀ c o, c ≠ z → c ∉ its → h0.get? c = some o → h.get? c = some o
theorem next_held {z TI TO : Addr} {its as : List Addr} {i : Nat} {f0 f1 : Value} {ys : List Value} {Q : Value → Shared → Prop} (D : ZAp z TI TO its as) (hk : its ≠ []) (hz8 : its.length ≤ 100000)
    (hz : IsZipF s.heap z TI TO f0 f1)
    (held : ∀ R : Bool → Shared → Prop, (∀ h', IsZipF h' z TI TO f0 (.bool true) → Heap.SameBut z s.heap h' → R false { s with heap := h' }) → wpAny (model prog w) A (Builtin.SmallTypes.ownedTupleIsFree (.ref z)) R E s)
    (hTI : IsTup s.heap TI (its.map Value.ref))
    (hit : ∀ (j : Nat) (t a : Addr), its[j]? = some t → as[j]? = some a → s.heap.IsTupleIter t a i) (hy : ys.length = its.length)
    (hit2 : ∀ (j : Nat) (a : Addr), as[j]? = some a → ∃ items, s.heap.IsTuple a items ∧ items[i]? = ys[j]?)
    (hQ : ∀ h', IsZipF h' z TI TO f0 (.bool true) → (∀ (j : Nat) (t a : Addr), its[j]? = some t → as[j]? = some a → h'.IsTupleIter t a (i + 1)) → IsTup h' s.heap.objs.size ys → h'.objs.size = s.heap.objs.size + 1 →
      (∀ c o, c ≠ z → c ∉ its → s.heap.get? c = some o → h'.get? c = some o) → Q (.ref s.heap.objs.size) { s with heap := h' }) :
    wpAny (model prog w) A (Builtin.«zip.__next__» ⟨[.ref z], []⟩) (fun fin s' => ∃ v, fin = .done (.ret v) ∧ Q v s') E s := by
  show wpAny _ _ (field (.ref z) 2 >>= _) _ _ _
  refine wpAny_bind (wpAny_field hz rfl (x := .bool false) rfl ?_)
  show wpAny _ _ (field (.ref z) 3 >>= _) _ _ _
  refine wpAny_bind (wpAny_field hz rfl (x := .ref TI) rfl ?_)
  refine wpAny_bind (wpAny_seqItems hTI rfl ?_)
  have hne : (its.map Value.ref).toArray.isEmpty = false := by
    cases its with
    | nil => exact absurd rfl hk
    | cons x r => rfl
  simp only [hne, Bool.false_eq_true, if_false]
  refine wpAny_bind (held _ fun h₁ hz₁ hs₁ => ?_)
  simp only [Bool.false_eq_true, if_false]
  refine wpAny_bind ?_
  rw [← Array.forIn_toList]
  refine wp_forIn (fun j b s' => b = (none, (ys.take j).toArray) ∧ ∃ h', s' = { s with heap := h' } ∧ Lh s.heap z TI TO its as i f0 (.bool true) j h') ?_ ?_ ?_
  · rintro j v b s' hx ⟨rfl, h', rfl, L⟩
    have hx : (its.map Value.ref)[j]? = some v := hx
    rw [List.getElem?_map] at hx
    obtain ⟨t, ht, rfl⟩ : ∃ t, its[j]? = some t ∧ Value.ref t = v := by
      cases e : its[j]? with
      | none => rw [e] at hx; cases hx
      | some t => rw [e] at hx; exact ⟨t, rfl, Option.some.inj hx⟩
    have hj : j < its.length := (List.getElem?_eq_some_iff.mp ht).1
    have hja : j < as.length := by rw [← D.len]; exact hj
    have ha : as[j]? = some as[j] := List.getElem?_eq_getElem hja
    have htm : t ∈ its := List.mem_of_getElem? ht
    have ham : as[j] ∈ as := List.getElem_mem hja
    obtain ⟨items, hI, hyj⟩ := hit2 j _ ha
    have hjy : j < ys.length := by rw [hy]; exact hj
    rw [List.getElem?_eq_getElem hjy] at hyj
    have hIt := L.it j t _ ht ha
    rw [if_neg (Nat.lt_irrefl j)] at hIt
    have hI' : h'.IsTuple as[j] items := by
      obtain ⟨o, ho, r⟩ := hI
      exact ⟨o, L.k _ _ (fun z => D.za (z ▸ ham)) (fun z => D.ia _ z ham) ho, r⟩
    refine wpAny_bind (wpAny_holding ?_)
    show wpAny _ _ (Builtin.SmallTypes.nextOf (.ref t) >>= _) _ _ _
    refine wpAny_bind (RZ.nextOf_tuple_item (s := { s with heap := h' }) hIt hI' hyj fun h₂ h1₂ hs₂ => wpAny_pure ?_)
    have tz : t ≠ z := fun z => D.zi (z ▸ htm)
    refine wpAny_pure ⟨_, rfl, ?_, h₂, rfl, ?_⟩
    · show (none, (ys.take j).toArray.push ys[j]) = _
      rw [List.take_add_one, List.getElem?_eq_getElem hjy]
      simp
    refine ⟨hs₂.extBut _ _ tz.symm L.zz, fun m t' a' h1 h2 => ?_, by rw [hs₂.1]; exact L.sz, fun c o c1 c3 e => hs₂.extBut _ _ (fun z => c3 (z ▸ htm)) (L.k c o c1 c3 e)⟩
    by_cases e : m = j
    · subst e
      rw [ht] at h1
      cases h1
      rw [ha] at h2
      cases h2
      rw [if_pos (Nat.lt_succ_self _)]
      exact h1₂
    · have hne2 : t' ≠ t := fun z => by
        subst z
        have q1 := (List.getElem?_eq_some_iff.mp h1)
        have q2 := (List.getElem?_eq_some_iff.mp ht)
        obtain ⟨b1, e1⟩ := q1
        obtain ⟨b2, e2⟩ := q2
        exact e ((List.getElem_inj D.nd).mp (e1.trans e2.symm))
      have q2 := (L.it m t' a' h1 h2).extBut hs₂.extBut hne2
      by_cases c : m < j
      · rw [if_pos c] at q2
        rw [if_pos (by omega)]
        exact q2
      · rw [if_neg c] at q2
        rw [if_neg (by omega)]
        exact q2
  · rintro b s' ⟨rfl, h₅, rfl, L⟩
    have hn : (List.map Value.ref its).toArray.toList.length = ys.length := by
      show (List.map Value.ref its).length = _
      rw [List.length_map, hy]
    rw [hn, List.take_length]
    have hla : ys.toArray.toList = ys := by simp
    show wpAny _ _ (newTuple ys.toArray.toList >>= _) _ _ _
    refine wpAny_bind (wpAny_newTuple ?_ (by rw [hla, hy]; exact Nat.le_trans hz8 (by decide)))
    have hsz : h₅.objs.size = s.heap.objs.size := L.sz
    have hT : IsTup (h₅.push { cls := .type "tuple", data := .seq ys.toArray.toList.toArray }) h₅.objs.size ys := by
      have q2 : (h₅.push { cls := .type "tuple", data := .seq ys.toArray.toList.toArray }).get? h₅.objs.size = some { cls := .type "tuple", data := .seq ys.toArray.toList.toArray } := Heap.get?_push_size _ rfl
      rw [hla] at q2 ⊢
      exact q2
    have hz8' : (h₅.push { cls := .type "tuple", data := .seq ys.toArray.toList.toArray }).objs.size = h₅.objs.size + 1 := Heap.size_push ..
    refine wpAny_pure ⟨_, rfl, ?_⟩
    show Q (.ref h₅.objs.size) _
    rw [hn] at L
    rw [hsz] at hT hz8' ⊢
    refine hQ _ (Heap.get?_push_of_some _ L.zz) (fun j t a h1 h2 => ?_) hT hz8' fun c o c1 c3 e => Heap.get?_push_of_some _ (L.k c o c1 c3 e)
    have q := L.it j t a h1 h2
    rw [if_pos (by rw [hy]; exact (List.getElem?_eq_some_iff.mp h1).1)] at q
    exact q.at fun o e => Heap.get?_push_of_some _ e
  · refine ⟨rfl, h₁, rfl, hz₁, fun m t a h1 h2 => ?_, hs₁.1, fun c o c1 _ e => hs₁.extBut _ _ c1 e⟩
    rw [if_neg (Nat.not_lt_zero _)]
    exact (hit m t a h1 h2).extBut hs₁.extBut (fun z => D.zi (z ▸ List.mem_of_getElem? h1))
theorem end_free {z TI TO t a0 : Addr} {its as : List Addr} {i : Nat} {f0 f1 : Value} {items : Array Value} {Q : Fin → Shared → Prop} (hh : A.handled = none) (D : ZAp z TI TO (t :: its) (a0 :: as))
    (free : ∀ R : Bool → Shared → Prop, R true s → wpAny (model prog w) A (Builtin.SmallTypes.ownedTupleIsFree (.ref z)) R E s)
    (hz : IsZipF s.heap z TI TO f0 f1) (hTI : IsTup s.heap TI ((t :: its).map Value.ref))
    (hit : s.heap.IsTupleIter t a0 i) (hI : s.heap.IsTuple a0 items) (hx : items[i]? = none)
    (hE : ∀ h' e, (∀ c o, c ≠ z → c ≠ t → s.heap.get? c = some o → h'.get? c = some o) → (∃ o, h'.get? e = some o ∧ o.cls = .type "StopIteration") → E (.ref e) { s with heap := h' })
    (hTO : ∃ us, IsTup s.heap TO us) :
    wpAny (model prog w) A (Builtin.«zip.__next__» ⟨[.ref z], []⟩) Q E s := by
  obtain ⟨us, hTO⟩ := hTO
  show wpAny _ _ (field (.ref z) 2 >>= _) _ _ _
  refine wpAny_bind (wpAny_field hz rfl (x := .bool false) rfl ?_)
  show wpAny _ _ (field (.ref z) 3 >>= _) _ _ _
  refine wpAny_bind (wpAny_field hz rfl (x := .ref TI) rfl ?_)
  refine wpAny_bind (wpAny_seqItems hTI rfl ?_)
  have hne : ((t :: its).map Value.ref).toArray.isEmpty = false := rfl
  simp only [hne, Bool.false_eq_true, if_false]
  refine wpAny_bind (free _ ?_)
  simp only [if_true]
  refine wpAny_bind (wpAny_rule ?_)
  refine wpAny_bind (wpAny_field hz rfl (x := .ref TO) rfl ?_)
  refine wpAny_bind (wpAny_setField_rec hz (by simp) fun h₁ hz₁ hs₁ => ?_)
  replace hz₁ : IsZipF h₁ z TI TO .ellipsis f1 := hz₁
  refine wpAny_bind ?_
  simp only [List.map_cons, List.zipIdx_cons, List.forIn_cons]
  refine wpAny_bind (wpAny_bind (wpAny_onRaise ?_))
  show wpAny _ _ (Builtin.SmallTypes.nextOf (.ref t) >>= _) _ _ _
  have tz : t ≠ z := fun q => D.zi (q ▸ List.mem_cons_self)
  have az : a0 ≠ z := fun q => D.za (q ▸ List.mem_cons_self)
  have hI1 : h₁.IsTuple a0 items := hI.extBut hs₁.extBut az
  refine wpAny_bind (RZ.nextOf_tuple_end (s := { s with heap := h₁ }) hh (hit.extBut hs₁.extBut tz) hI1 hx fun h₂ e hs₂ he => ?_)
  obtain ⟨oe, hoe, hce⟩ := he
  have hz₂ : IsZipF h₂ z TI TO .ellipsis f1 := hs₂ _ _ tz.symm hz₁
  have hez : e ≠ z := fun x => by subst x; rw [hz₂] at hoe; cases hoe; simp at hce
  refine wpAny_setField_rec hz₂ (by simp) fun h₃ _ hs₃ => hE h₃ e (fun c o c1 c3 x => hs₃.extBut _ _ c1 (hs₂ _ _ c3 (hs₁.extBut _ _ c1 x))) ⟨oe, hs₃.extBut _ _ hez hoe, hce⟩
theorem end_held {z TI TO t a0 : Addr} {its as : List Addr} {i : Nat} {f0 f1 : Value} {items : Array Value} {Q : Fin → Shared → Prop} (hh : A.handled = none) (D : ZAp z TI TO (t :: its) (a0 :: as))
    (hz : IsZipF s.heap z TI TO f0 f1)
    (held : ∀ R : Bool → Shared → Prop, (∀ h', IsZipF h' z TI TO f0 (.bool true) → Heap.SameBut z s.heap h' → R false { s with heap := h' }) → wpAny (model prog w) A (Builtin.SmallTypes.ownedTupleIsFree (.ref z)) R E s)
    (hTI : IsTup s.heap TI ((t :: its).map Value.ref))
    (hit : s.heap.IsTupleIter t a0 i) (hI : s.heap.IsTuple a0 items) (hx : items[i]? = none)
    (hE : ∀ h' e, (∀ c o, c ≠ z → c ≠ t → s.heap.get? c = some o → h'.get? c = some o) → (∃ o, h'.get? e = some o ∧ o.cls = .type "StopIteration") → E (.ref e) { s with heap := h' }) :
    wpAny (model prog w) A (Builtin.«zip.__next__» ⟨[.ref z], []⟩) Q E s := by
  show wpAny _ _ (field (.ref z) 2 >>= _) _ _ _
  refine wpAny_bind (wpAny_field hz rfl (x := .bool false) rfl ?_)
  show wpAny _ _ (field (.ref z) 3 >>= _) _ _ _
  refine wpAny_bind (wpAny_field hz rfl (x := .ref TI) rfl ?_)
  refine wpAny_bind (wpAny_seqItems hTI rfl ?_)
  have hne : ((t :: its).map Value.ref).toArray.isEmpty = false := rfl
  simp only [hne, Bool.false_eq_true, if_false]
  refine wpAny_bind (held _ fun h₁ hz₁ hs₁ => ?_)
  simp only [Bool.false_eq_true, if_false]
  refine wpAny_bind ?_
  rw [← Array.forIn_toList]
  simp only [List.map_cons, List.forIn_cons]
  refine wpAny_bind (wpAny_bind (wpAny_holding ?_))
  show wpAny _ _ (Builtin.SmallTypes.nextOf (.ref t) >>= _) _ _ _
  have tz : t ≠ z := fun q => D.zi (q ▸ List.mem_cons_self)
  have az : a0 ≠ z := fun q => D.za (q ▸ List.mem_cons_self)
  have hI1 : h₁.IsTuple a0 items := hI.extBut hs₁.extBut az
  refine wpAny_bind (RZ.nextOf_tuple_end (s := { s with heap := h₁ }) hh (hit.extBut hs₁.extBut tz) hI1 hx fun h₂ e hs₂ he => ?_)
  exact hE h₂ e (fun c o c1 c3 x => hs₂ _ _ c3 (hs₁.extBut _ _ c1 x)) he
/-- the zip at turn i -/
structure ZSt (h : Heap) (z TI TO : Addr) (its as : List Addr) (i : Nat) : Prop where
  zz : ∃ f0 f1, IsZipF h z TI TO f0 f1 ∧ (f0 = .none ∨ ∃ T : Addr, f0 = rawInt T) ∧ ∃ b, f1 = .bool b
  ti : IsTup h TI (its.map Value.ref)
  tt : ∃ us, us.length = its.length ∧ IsTup h TO us
  it : ∀ (j : Nat) (t a : Addr), its[j]? = some t → as[j]? = some a → h.IsTupleIter t a i
theorem alive_is {a : Addr} {Q : Option Obj → Shared → Prop} (h : Q (s.heap.get? a) s) : wpAny (model prog w) A (loadIfAlive a) Q E s := fun _ _ _ => h
/-- free or held -/
theorem asked {z TI TO : Addr} {f0 f1 : Value} (hz : IsZipF s.heap z TI TO f0 f1) (h0 : f0 = .none ∨ ∃ T : Addr, f0 = rawInt T) (h1 : ∃ b, f1 = .bool b) :
    (∀ R : Bool → Shared → Prop, R true s → wpAny (model prog w) A (Builtin.SmallTypes.ownedTupleIsFree (.ref z)) R E s) ∨
    (∀ R : Bool → Shared → Prop, (∀ h', IsZipF h' z TI TO f0 (.bool true) → Heap.SameBut z s.heap h' → R false { s with heap := h' }) → wpAny (model prog w) A (Builtin.SmallTypes.ownedTupleIsFree (.ref z)) R E s) := by
  obtain ⟨b, rfl⟩ := h1
  rcases h0 with rfl | ⟨T, rfl⟩
  · left
    intro R h
    unfold Builtin.SmallTypes.ownedTupleIsFree
    exact wpAny_bind (wpAny_field hz rfl (x := .none) rfl (wpAny_pure h))
  · cases hT : s.heap.get? T with
    | none =>
      left
      intro R h
      unfold Builtin.SmallTypes.ownedTupleIsFree
      refine wpAny_bind (wpAny_field hz rfl (x := rawInt T) rfl ?_)
      show wpAny _ _ (loadIfAlive ((T : Int).toNat) >>= _) _ _ _
      rw [Int.toNat_natCast]
      refine wpAny_bind (alive_is ?_)
      rw [hT]
      simp only [Option.isNone_none, if_true]
      exact wpAny_pure h
    | some o =>
      right
      intro R h
      unfold Builtin.SmallTypes.ownedTupleIsFree
      refine wpAny_bind (wpAny_field hz rfl (x := rawInt T) rfl ?_)
      show wpAny _ _ (loadIfAlive ((T : Int).toNat) >>= _) _ _ _
      rw [Int.toNat_natCast]
      refine wpAny_bind (alive_is ?_)
      rw [hT]
      simp only [Option.isNone_some, Bool.false_eq_true, if_false]
      refine wpAny_bind (wpAny_field hz rfl (x := .bool b) rfl ?_)
      cases b with
      | true =>
        rw [if_neg (show ¬ ((Value.bool true != Value.bool true) = true) from Bool.false_ne_true)]
        exact wpAny_pure (h s.heap hz (Heap.SameBut.refl _ _))
      | false =>
        rw [if_pos (show (Value.bool false != Value.bool true) = true from rfl)]
        exact wpAny_bind (wpAny_setField_rec hz (by simp) fun h₁ hz₁ hs₁ => wpAny_pure (h h₁ hz₁ hs₁))
end
end OZ

set_option Elab.async false
set_option linter.all false
set_option maxRecDepth 100000
set_option maxHeartbeats 2000000
namespace OZ
open PySem
open PySem.Sem (wp)
section
variable {prog : Program} {w : World} {A : Around} {E : Value → Shared → Prop} {s : Shared}
theorem pyNext_item {z TI TO : Addr} {its as : List Addr} {i : Nat} {ys : List Value} {Q : Option Value → Shared → Prop} (D : ZAp z TI TO its as) (hk : its ≠ []) (hz8 : its.length ≤ 100000) (st : ZSt s.heap z TI TO its as i) (hy : ys.length = its.length)
    (hit2 : ∀ (j : Nat) (a : Addr), as[j]? = some a → ∃ items, s.heap.IsTuple a items ∧ items[i]? = ys[j]?)
    (hQ : ∀ h', ZSt h' z TI TO its as (i + 1) → IsTup h' s.heap.objs.size ys → h'.objs.size = s.heap.objs.size + 1 → Kp z TO its s.heap h' → Q (some (.ref s.heap.objs.size)) { s with heap := h' }) :
    wpAny (model prog w) A (pyNext (.ref z)) Q E s := by
  obtain ⟨⟨f0, f1, hz, h0, h1⟩, hTI, ⟨us, hus, hTO⟩, hit⟩ := st
  have hT : s.TypeIs (.ref z) "zip" := ⟨_, hz, rfl⟩
  unfold pyNext
  refine wpAny_bind (wpAny_attempt (wpAny_callSpecial?_slot (name := Str.ofString "__next__") hT F.slot_zip_next
    (wpAny_call_entry F.slot_zip_next hT F.entry_zip_next ?_ (F.args_zip_next_1 _))))
  rcases asked hz h0 h1 with free | held
  · exact next_free D hk hz8 free hz hTI hTO hus hit hy hit2 fun h' z1 t1 t2 i1 T1 s1 k1 => wpAny_pure (hQ h' ⟨⟨_, _, z1, .inr ⟨_, rfl⟩, _, rfl⟩, t1, ⟨ys, hy, t2⟩, i1⟩ T1 s1 k1)
  · exact next_held D hk hz8 hz held hTI hit hy hit2 fun h' z1 i1 T1 s1 k1 => wpAny_pure (hQ h' ⟨⟨_, _, z1, h0, _, rfl⟩, k1 _ _ D.TIz D.TIi hTI, ⟨us, hus, k1 _ _ D.TOz D.TOi hTO⟩, i1⟩ T1 s1 fun c o c1 _ c3 e => k1 c o c1 c3 e)
theorem pyNext_end {z TI TO : Addr} {its as : List Addr} {i : Nat} {Q : Option Value → Shared → Prop} (hh : A.handled = none) (D : ZAp z TI TO its as) (hk : its ≠ []) (st : ZSt s.heap z TI TO its as i)
    (hit2 : ∀ a ∈ as, ∃ items : Array Value, s.heap.IsTuple a items ∧ items[i]? = none)
    (hQ : ∀ h', Kp z TO its s.heap h' → Q none { s with heap := h' }) :
    wpAny (model prog w) A (pyNext (.ref z)) Q E s := by
  obtain ⟨⟨f0, f1, hz, h0, h1⟩, hTI, ⟨us, hus, hTO⟩, hit⟩ := st
  have hT : s.TypeIs (.ref z) "zip" := ⟨_, hz, rfl⟩
  cases its with
  | nil => exact absurd rfl hk
  | cons t its =>
  cases as with
  | nil => exact absurd D.len (by simp)
  | cons a0 as =>
  obtain ⟨items, hI, hx⟩ := hit2 a0 List.mem_cons_self
  have fin : ∀ h' e, (∀ c o, c ≠ z → c ≠ t → s.heap.get? c = some o → h'.get? c = some o) → (∃ o, h'.get? e = some o ∧ o.cls = .type "StopIteration") → wpAny (model prog w) A (do
        if ← isInstance (.ref e) (.type "StopIteration") then pure none else throw (.ref e)) Q E { s with heap := h' } := fun h' e hkk he => by
    obtain ⟨o, ho, hc⟩ := he
    refine wpAny_bind (wpAny_isInstance (T := "StopIteration") (b := true) ⟨o, ho, hc⟩ isSubtype_stop ?_)
    exact wpAny_pure (hQ _ fun c o c1 _ c3 x => hkk c o c1 (fun q => c3 (q ▸ List.mem_cons_self)) x)
  unfold pyNext
  refine wpAny_bind (wpAny_attempt (wpAny_callSpecial?_slot (name := Str.ofString "__next__") hT F.slot_zip_next
    (wpAny_call_entry F.slot_zip_next hT F.entry_zip_next ?_ (F.args_zip_next_1 _))))
  rcases asked hz h0 h1 with free | held
  · exact end_free hh D free hz hTI (hit 0 t a0 rfl rfl) hI hx (fun h' e a b => fin h' e a b) ⟨us, hTO⟩
  · exact end_held hh D hz held hTI (hit 0 t a0 rfl rfl) hI hx fun h' e a b => fin h' e a b
structure NewOk (h0 h' : Heap) (as : List Addr) : Prop where
  st : ZSt h' (h0.objs.size + as.length + 2) (h0.objs.size + as.length) (h0.objs.size + as.length + 1) (List.range' h0.objs.size as.length) as 0
  sz : h'.objs.size = h0.objs.size + as.length + 3
  k : ∀ c o, h0.get? c = some o → h'.get? c = some o
theorem newClass_zip {rest : List Value} {Q : Value × List Value → Shared → Prop} (h : Q (.type "zip", rest) s) : wpAny (model prog w) A (Builtin.SmallTypes.newClass "zip" ⟨.type "zip" :: rest, []⟩) Q E s := by
  obtain ⟨hp, g, d, tk, os⟩ := s
  have hsub := sub_zip
  unfold Builtin.SmallTypes.newClass
  repeat (any_goals (first | assumption | wp_step))
structure Li (h0 h : Heap) (as : List Addr) (j : Nat) : Prop where
  it : ∀ (m : Nat) (a : Addr), m < j → as[m]? = some a → h.IsTupleIter (h0.objs.size + m) a 0
  sz : h.objs.size = h0.objs.size + j
  k : ∀ c o, h0.get? c = some o → h.get? c = some o
theorem iterAll_ok {as : List Addr} {Q : List Value → Shared → Prop} (hI : ∀ a ∈ as, ∃ items, s.heap.IsTuple a items) (hQ : ∀ h', Li s.heap h' as as.length → Q ((List.range' s.heap.objs.size as.length).map Value.ref) { s with heap := h' }) :
    wpAny (model prog w) A (Builtin.SmallTypes.iterAll (as.map Value.ref)) Q E s := by
  unfold Builtin.SmallTypes.iterAll
  refine wpAny_bind ?_
  refine wp_forIn (fun j b s' => b = ((List.range' s.heap.objs.size j).map Value.ref).toArray ∧ ∃ h', s' = { s with heap := h' } ∧ Li s.heap h' as j) ?_ ?_ ?_
  · rintro j v b s' hx ⟨rfl, h', rfl, L⟩
    rw [List.getElem?_map] at hx
    obtain ⟨a, ha, rfl⟩ : ∃ a, as[j]? = some a ∧ Value.ref a = v := by
      cases e : as[j]? with
      | none => rw [e] at hx; cases hx
      | some t => rw [e] at hx; exact ⟨t, rfl, Option.some.inj hx⟩
    obtain ⟨items, o, ho, r⟩ := hI a (List.mem_of_getElem? ha)
    have hT : h'.IsTuple a items := ⟨o, L.k _ _ ho, r⟩
    refine wpAny_bind (wpAny_holding (wpAny_pyIter_tuple (s := { s with heap := h' }) hT ?_))
    refine wpAny_pure ⟨_, rfl, ?_, _, rfl, ?_⟩
    · show ((List.range' s.heap.objs.size j).map Value.ref).toArray.push (.ref h'.objs.size) = _
      rw [L.sz, List.range'_concat]
      simp
    · refine ⟨fun m a' hm h1 => ?_, ?_, fun c o e => Heap.get?_push_of_some _ (L.k _ _ e)⟩
      · by_cases e : m = j
        · subst e
          rw [ha] at h1
          cases h1
          refine ⟨{ cls := .type "tuple_iterator", data := .fields #[.ref a, .int 0 0] }, ?_, rfl, rfl⟩
          have q2 : (h'.push { cls := .type "tuple_iterator", data := .fields #[.ref a, .int 0 0] }).get? h'.objs.size = some { cls := .type "tuple_iterator", data := .fields #[.ref a, .int 0 0] } := Heap.get?_push_size _ rfl
          rw [L.sz] at q2
          exact q2
        · exact (L.it m a' (by omega) h1).at fun o e => Heap.get?_push_of_some _ e
      · show (h'.push _).objs.size = _
        rw [Heap.size_push, L.sz]
        rfl
  · rintro b s' ⟨rfl, h', rfl, L⟩
    rw [List.length_map] at L ⊢
    refine wpAny_pure ?_
    have e : ((List.range' s.heap.objs.size as.length).map Value.ref).toArray.toList = (List.range' s.heap.objs.size as.length).map Value.ref := by simp
    show Q (((List.range' s.heap.objs.size as.length).map Value.ref).toArray.toList) _
    rw [e]
    exact hQ h' L
  · exact ⟨rfl, s.heap, rfl, fun m a hm => absurd hm (Nat.not_lt_zero _), rfl, fun c o e => e⟩
theorem meets_new (as : List Addr) :
    Meets (Builtin.«zip.__new__» ⟨.type "zip" :: as.map Value.ref, []⟩) (fun _ R s => (∀ a ∈ as, ∃ items, s.heap.IsTuple a items) ∧ as.length ≤ 100000 ∧ ∀ h', NewOk s.heap h' as → R (.ok (.ret (.ref (s.heap.objs.size + as.length + 2)))) { s with heap := h' }) :=
  .of_wp fun prog w A R s h => by
    obtain ⟨hI, hl, h⟩ := h
    unfold Builtin.«zip.__new__»
    refine wpAny_bind (newClass_zip ?_)
    show wpAny _ _ (Builtin.SmallTypes.iterAll (as.map Value.ref) >>= _) _ _ _
    refine wpAny_bind (iterAll_ok hI fun h1 L => ?_)
    have n1 : ((List.range' s.heap.objs.size as.length).map Value.ref).length = as.length := by rw [List.length_map, List.length_range']
    refine wpAny_bind (wpAny_newTuple (s := { s with heap := h1 }) ?_ (by rw [n1]; exact Nat.le_trans hl (by decide)))
    refine wpAny_bind (wpAny_newTuple ?_ (by rw [List.length_map, n1]; exact Nat.le_trans hl (by decide)))
    refine wpAny_bind ?_
    have hs1 : h1.objs.size = s.heap.objs.size + as.length := L.sz
    have hs2 : (h1.push { cls := .type "tuple", data := .seq (List.map Value.ref (List.range' s.heap.objs.size as.length)).toArray }).objs.size = s.heap.objs.size + as.length + 1 := by rw [Heap.size_push, hs1]
    have q2 : (h1.push { cls := .type "tuple", data := .seq (List.map Value.ref (List.range' s.heap.objs.size as.length)).toArray }).get? h1.objs.size = some { cls := .type "tuple", data := .seq (List.map Value.ref (List.range' s.heap.objs.size as.length)).toArray } := Heap.get?_push_size _ rfl
    have k2 : ∀ c o, h1.get? c = some o → (h1.push { cls := .type "tuple", data := .seq (List.map Value.ref (List.range' s.heap.objs.size as.length)).toArray }).get? c = some o := fun c o e => Heap.get?_push_of_some _ e
    show wpAny _ _ (newObj (.type "zip") (.fields #[.none, .bool false, .bool false, .ref h1.objs.size, .ref (h1.push { cls := .type "tuple", data := .seq (List.map Value.ref (List.range' s.heap.objs.size as.length)).toArray }).objs.size])) _ _ _
    generalize h1.push { cls := .type "tuple", data := .seq (List.map Value.ref (List.range' s.heap.objs.size as.length)).toArray } = h2 at hs2 q2 k2 ⊢
    have hs3 : (h2.push { cls := .type "tuple", data := .seq (List.map (fun x => Value.none) (List.map Value.ref (List.range' s.heap.objs.size as.length))).toArray }).objs.size = s.heap.objs.size + as.length + 2 := by rw [Heap.size_push, hs2]
    have q3 : (h2.push { cls := .type "tuple", data := .seq (List.map (fun x => Value.none) (List.map Value.ref (List.range' s.heap.objs.size as.length))).toArray }).get? h2.objs.size = some { cls := .type "tuple", data := .seq (List.map (fun x => Value.none) (List.map Value.ref (List.range' s.heap.objs.size as.length))).toArray } := Heap.get?_push_size _ rfl
    have k3 : ∀ c o, h2.get? c = some o → (h2.push { cls := .type "tuple", data := .seq (List.map (fun x => Value.none) (List.map Value.ref (List.range' s.heap.objs.size as.length))).toArray }).get? c = some o := fun c o e => Heap.get?_push_of_some _ e
    refine wpAny_newObj_type ?_
    show wpAny _ _ (ret (.ref (h2.push { cls := .type "tuple", data := .seq (List.map (fun x => Value.none) (List.map Value.ref (List.range' s.heap.objs.size as.length))).toArray }).objs.size)) _ _ { s with heap := (h2.push { cls := .type "tuple", data := .seq (List.map (fun x => Value.none) (List.map Value.ref (List.range' s.heap.objs.size as.length))).toArray }).push { cls := .type "zip", data := .fields #[.none, .bool false, .bool false, .ref h1.objs.size, .ref h2.objs.size] } }
    generalize h2.push { cls := .type "tuple", data := .seq (List.map (fun x => Value.none) (List.map Value.ref (List.range' s.heap.objs.size as.length))).toArray } = h3 at hs3 q3 k3 ⊢
    have q4 : (h3.push { cls := .type "zip", data := .fields #[.none, .bool false, .bool false, .ref h1.objs.size, .ref h2.objs.size] }).get? h3.objs.size = some { cls := .type "zip", data := .fields #[.none, .bool false, .bool false, .ref h1.objs.size, .ref h2.objs.size] } := Heap.get?_push_size _ rfl
    have k4 : ∀ c o, h3.get? c = some o → (h3.push { cls := .type "zip", data := .fields #[.none, .bool false, .bool false, .ref h1.objs.size, .ref h2.objs.size] }).get? c = some o := fun c o e => Heap.get?_push_of_some _ e
    have hs4 : (h3.push { cls := .type "zip", data := .fields #[.none, .bool false, .bool false, .ref h1.objs.size, .ref h2.objs.size] }).objs.size = s.heap.objs.size + as.length + 3 := by rw [Heap.size_push, hs3]
    generalize h3.push { cls := .type "zip", data := .fields #[.none, .bool false, .bool false, .ref h1.objs.size, .ref h2.objs.size] } = h4 at q4 k4 hs4 ⊢
    rw [hs3] at q4 ⊢
    rw [hs1] at q4 q2
    rw [hs2] at q4 q3
    refine wpAny_pure ⟨_, rfl, h h4 ⟨⟨⟨_, _, q4, .inl rfl, _, rfl⟩, k4 _ _ (k3 _ _ q2), ⟨_, ?_, k4 _ _ q3⟩, fun j t a h1' h2' => ?_⟩, hs4, fun c o e => k4 _ _ (k3 _ _ (k2 _ _ (L.k _ _ e)))⟩⟩
    · rw [List.length_map, List.length_map]
    · have hj : j < as.length := (List.getElem?_eq_some_iff.mp h2').1
      have et : t = s.heap.objs.size + j := by
        rw [List.getElem?_range' hj] at h1'
        have q := Option.some.inj h1'
        rw [Nat.one_mul] at q
        exact q.symm
      subst et
      exact (L.it j a hj h2').at fun o e => k4 _ _ (k3 _ _ (k2 _ _ e))
theorem call_zipN {a : Addr} {as : List Addr} {Q : Value → Shared → Prop} (hI : ∀ b ∈ a :: as, ∃ items, s.heap.IsTuple b items) (hl : (a :: as).length ≤ 100000)
    (h : ∀ h', NewOk s.heap h' (a :: as) → Q (.ref (s.heap.objs.size + (a :: as).length + 2)) { s with heap := h' }) :
    wpAny (model prog w) A (call (.type "zip") ((a :: as).map Value.ref)) Q E s := by
  refine callType_new F.called_zip (by decide) (tc _) (nc _ _) (fun obj => oi _) F.entry_zip_new (meets_new (a :: as)) ⟨hI, hl, fun h' n => ?_⟩
  refine ⟨?_, h h' n⟩
  obtain ⟨⟨f0, f1, hz, _⟩, _⟩ := n.st
  exact ⟨_, hz, rfl⟩
end
end OZ

set_option Elab.async false
set_option linter.all false
set_option maxRecDepth 100000
set_option maxHeartbeats 2000000
namespace OZ
open PySem PySem.Spec PyProof.Rows L2
/-- all of them tuples of n items -/
def Cols (K : PySem.W.Frag) (H : Hp) (as : List Addr) (n : Nat) : Prop := ∀ a ∈ as, ∃ xs : List V, SqT K H a xs ∧ xs.length = n
/-- the tuples in turn: at turn i a new tuple of their i-th items -/
def ItzN (K : PySem.W.Frag) (as : List Addr) (n : Nat) : It :=
  ⟨fun i H => i < n ∧ Cols K H as n,
    fun i H v H' => ∃ T ys, v = .ref T ∧ H T = none ∧ H' = upd H T (.tup ys) ∧ ys.length = as.length ∧ ∀ (j : Nat) (a : Addr) (xs : List V), as[j]? = some a → SqT K H a xs → xs[i]? = ys[j]?,
    fun i H => n ≤ i ∧ Cols K H as n⟩
theorem cols_at {X : Cx} {pins : List (Addr × Obj)} {σ : L2.St} {H : Hp} {s : Shared} {n i : Nat} (I : Inv X pins σ H s) (hi : i < n) : ∀ {as : List Addr}, Cols X.K H as n →
    ∃ (ys : List V) (us : List Value), Vals ys us ∧ ys.length = as.length ∧ us.length = as.length ∧
      (∀ (j : Nat) (a : Addr), as[j]? = some a → ∃ items, s.heap.IsTuple a items ∧ items[i]? = us[j]?) ∧ (∀ (j : Nat) (a : Addr), as[j]? = some a → ∃ xs : List V, SqT X.K H a xs ∧ xs[i]? = ys[j]?)
  | [], _ => ⟨[], [], .nil, rfl, rfl, fun j a h => by simp at h, fun j a h => by simp at h⟩
  | a :: as, C => by
    obtain ⟨xs, hq, hn⟩ := C a List.mem_cons_self
    obtain ⟨ys, us, v, l1, l2, p1, p2⟩ := cols_at I hi (as := as) fun b hb => C b (List.mem_cons_of_mem _ hb)
    obtain ⟨its, rv, p, _⟩ := I.tuple hq
    have hx : xs[i]? = some xs[i] := List.getElem?_eq_getElem (by omega)
    obtain ⟨u, hu, ru⟩ := rv.get hx
    refine ⟨xs[i] :: ys, u :: us, .cons ru v, by rw [List.length_cons, List.length_cons, l1], by rw [List.length_cons, List.length_cons, l2], fun j b h => ?_, fun j b h => ?_⟩
    · cases j with
      | zero =>
        cases h
        exact ⟨_, p, by simpa using hu⟩
      | succ j => exact p1 j b h
    · cases j with
      | zero =>
        cases h
        exact ⟨xs, hq, hx⟩
      | succ j => exact p2 j b h
theorem turn_zipN {P : Program} {w : World} {K : PySem.W.Frag} {nm : Str} {npos : Pos} {z TI TO : Addr} {its as : List Addr} {n : Nat} (D : ZAp z TI TO its as) (hk : its ≠ []) (hz8 : its.length ≤ 100000) :
    Turn P w K (.Name nm npos) (ItzN K as n) (z :: TI :: TO :: its) z (fun i h => ZSt h z TI TO its as i) where
  mem := List.mem_cons_self
  obj := fun i h st c hc => by
    obtain ⟨⟨f0, f1, hz, _⟩, hTI, ⟨us, _, hTO⟩, hit⟩ := st
    rcases List.mem_cons.mp hc with rfl | hc
    · exact ⟨_, hz, fun v q => nomatch q⟩
    rcases List.mem_cons.mp hc with rfl | hc
    · exact ⟨_, hTI, fun v q => nomatch q⟩
    rcases List.mem_cons.mp hc with rfl | hc
    · exact ⟨_, hTO, fun v q => nomatch q⟩
    obtain ⟨j, hj, rfl⟩ := List.mem_iff_getElem.mp hc
    have hja : j < as.length := by rw [← D.len]; exact hj
    obtain ⟨o, e, _, d⟩ := hit j _ _ (List.getElem?_eq_getElem hj) (List.getElem?_eq_getElem hja)
    exact ⟨o, e, fun v q => by rw [d] at q; cases q⟩
  keep := fun i h h' st k => by
    obtain ⟨⟨f0, f1, hz, a, b⟩, hTI, ⟨us, hu, hTO⟩, hit⟩ := st
    refine ⟨⟨f0, f1, k z (by simp) _ hz, a, b⟩, k TI (by simp) _ hTI, ⟨us, hu, k TO (by simp) _ hTO⟩, fun j t a h1 h2 => ?_⟩
    exact (hit j t a h1 h2).at fun o q => k t (by simp [List.mem_of_getElem? h1]) o q
  item := by
    intro X hP hw hK hc i pins s σ H E I hf st hg
    subst hP hw hK
    obtain ⟨hi, C⟩ := hg
    obtain ⟨ys, us, rv, l1, l2, p1, p2⟩ := cols_at I hi C
    have hzl : z < s.heap.objs.size := by
      obtain ⟨⟨f0, f1, hz, _⟩, _⟩ := st
      exact Heap.lt_size hz
    refine pyNext_item D hk hz8 st (by rw [l2, D.len]) p1 fun h' st' hT hsz hkp => ?_
    refine ⟨_, rfl, ?_⟩
    show wpAny _ _ (pure ()) _ _ _
    refine wpAny_pure ?_
    have new : ObjOk X.prog X.w (upd H s.heap.objs.size (.tup ys)) h' s.heap.objs.size (.tup ys) :=
      ⟨by show ys.length ≤ sizeLine; rw [l1, ← D.len]; exact Nat.le_trans hz8 (by decide), us, rv, ⟨_, hT, rfl, _, rfl⟩⟩
    have I1 : Inv X pins σ (upd H s.heap.objs.size (.tup ys)) { s with heap := h' } :=
      I.turnedNew (t' := s.toks) (ch := z :: TI :: TO :: its) (fun c o hb q => by
        simp only [List.mem_cons, not_or] at hb
        exact hkp c o hb.1 hb.2.2.1 hb.2.2.2 q) hf (Nat.le_refl _) new
    refine ⟨.ref s.heap.objs.size, _, I1, rfl, ⟨_, ys, rfl, I.hok.fresh (Nat.le_refl _), rfl, l1, fun j a xs ha hq => ?_⟩, st', fun c hcm => ?_⟩
    · obtain ⟨xs', hq', e⟩ := p2 j a ha
      rw [I.tuple_inj hq hq']
      exact e
    · have hlt : c < s.heap.objs.size := by
        obtain ⟨⟨f0, f1, hz, _⟩, hTI, ⟨us, _, hTO⟩, hit⟩ := st
        rcases List.mem_cons.mp hcm with rfl | hc
        · exact Heap.lt_size hz
        rcases List.mem_cons.mp hc with rfl | hc
        · exact Heap.lt_size hTI
        rcases List.mem_cons.mp hc with rfl | hc
        · exact Heap.lt_size hTO
        obtain ⟨j, hj, rfl⟩ := List.mem_iff_getElem.mp hc
        have hja : j < as.length := by rw [← D.len]; exact hj
        obtain ⟨o, e, _, d⟩ := hit j _ _ (List.getElem?_eq_getElem hj) (List.getElem?_eq_getElem hja)
        exact Heap.lt_size e
      rw [upd_ne (Nat.ne_of_lt hlt)]
      exact (hf c hcm).1
  done := by
    intro X hP hw hK hc i pins s σ H E I hf st hg
    subst hP hw hK
    obtain ⟨hi, C⟩ := hg
    refine pyNext_end (I.ok.hd hc) D hk st (fun a ha => ?_) fun h' hkp => ⟨rfl, I.turnedL (t' := s.toks) (ch := z :: TI :: TO :: its) (fun c o hb q => ?_) hf⟩
    · obtain ⟨xs, hq, hn⟩ := C a ha
      obtain ⟨its, rv, p, _⟩ := I.tuple hq
      have := rv.length
      exact ⟨_, p, by simp; omega⟩
    · simp only [List.mem_cons, not_or] at hb
      exact hkp c o hb.1 hb.2.2.1 hb.2.2.2 q
  self := fun A i s Q E st h => by
    obtain ⟨⟨f0, f1, hz, _⟩, _⟩ := st
    have hT : s.TypeIs (.ref z) "zip" := ⟨_, hz, rfl⟩
    refine wpAny_pyIter_slot hT F.slot_zip_iter (wpAny_call_entry F.slot_zip_iter hT F.entry_zip_iter ?_ (F.args_zip_iter_1 _))
    show wpAny _ _ (ret (.ref z)) _ _ s
    exact wpAny_pure ⟨_, rfl, "zip", _, hT, F.slot_zip_next.lookup, h⟩
def iZipN (K : PySem.W.Frag) (te : TE) : TI := fun σ H R => te σ H fun x H1 => ∃ (l : Addr) (as : List Addr) (n : Nat), x = .ref l ∧ SqL K H1 l (as.map V.ref) ∧ as ≠ [] ∧ as.length ≤ 100000 ∧ Cols K H1 as n ∧ R (ItzN K as n) H1
theorem vals_refs : ∀ {as : List Addr} {us : List Value}, Vals (as.map V.ref) us → us = as.map Value.ref
  | [], us, h => by
    cases h
    rfl
  | a :: as, us, h => by
    cases h with
    | cons r rr =>
      have := vals_refs rr
      subst this
      cases r
      rfl
theorem pi_zipS {X : Cx} {e : Expr} {te : TE} {p sp pos npos : Pos} {nm : Str} (hg : Gl X "zip") (hm : X.mg "zip" = none) (he : PE X e te)
    (hst : starEach [.Starred e sp] X.env = [(true, eval e X.env)] := by rfl) :
    PI X (.Name nm npos) (.Call (.Name "zip" p) [.Starred e sp] [] pos) (iZipN X.K te) := by
  refine ⟨fun pins s σ H R I h => ?_⟩
  refine Call_ (ld_blt I hg hm PyProof.Rows.boot_zip ?_)
  rw [hst]
  refine PySem.W.ks_call (P := fun _ => True) rfl (fun h _ => ⟨.machine, .inr (.inl rfl), PySem.W.Looks.of_pure rfl⟩) (PySem.W.ks_lone (thn (he.run pins s σ H _ I h) fun v s1 ⟨y, H1, I1, ry, l, as, n, ey, hq, hne, hl, C, q⟩ => ?_))
  subst ey
  obtain rfl : v = Value.ref l := ry
  refine StX.star_lst I1 hq fun us s2 I2 rv => ⟨trivial, ?_⟩
  have hus := vals_refs rv
  subst hus
  cases as with
  | nil => exact absurd rfl hne
  | cons a as =>
  have hI : ∀ b ∈ a :: as, ∃ items, s2.heap.IsTuple b items := fun b hb => by
    obtain ⟨xs, hq, _⟩ := C b hb
    obtain ⟨its, rv, p, _⟩ := I2.tuple hq
    exact ⟨_, p⟩
  have hlt : ∀ b ∈ a :: as, b < s2.heap.objs.size := fun b hb => by
    obtain ⟨items, o, ho, _⟩ := hI b hb
    exact Heap.lt_size ho
  show wpAny _ _ (call (.type "zip") ((a :: as).map Value.ref)) _ _ _
  refine call_zipN hI hl fun h' N => ?_
  have D : ZAp (s2.heap.objs.size + (a :: as).length + 2) (s2.heap.objs.size + (a :: as).length) (s2.heap.objs.size + (a :: as).length + 1) (List.range' s2.heap.objs.size (a :: as).length) (a :: as) := by
    have mr : ∀ t : Nat, t ∈ List.range' (s2.heap.objs.size : Nat) (a :: as).length → (s2.heap.objs.size : Nat) ≤ t ∧ t < (s2.heap.objs.size : Nat) + (a :: as).length := fun t ht => List.mem_range'_1.mp ht
    have hlt' : ∀ b : Nat, b ∈ (show List Nat from a :: as) → b < (s2.heap.objs.size : Nat) := hlt
    have n1 : ∀ x k : Nat, x + k ≠ x + k + 2 := fun x k => by omega
    have n2 : ∀ x k : Nat, x + k + 1 ≠ x + k + 2 := fun x k => by omega
    have n3 : ∀ x k : Nat, x + k ≠ x + k + 1 := fun x k => by omega
    refine ⟨n1 _ _, n2 _ _, n3 _ _, fun q => ?_, fun q => ?_, fun q => ?_, List.nodup_range', fun q => ?_, fun q => ?_, fun t ht q => ?_, by rw [List.length_range']⟩
    · have := mr _ q; omega
    · have := mr _ q; omega
    · have := mr _ q; omega
    · have := hlt' _ q; omega
    · have := hlt' _ q; omega
    · have := hlt' _ q; have := mr _ ht; omega
  have I3 : Inv X pins σ H1 { s2 with heap := h' } := I2.kept (t' := s2.toks) N.k
  obtain ⟨⟨f0, f1, hz, hf⟩, r⟩ := id N.st
  have hT : Shared.TypeIs { s2 with heap := h' } (.ref (s2.heap.objs.size + (a :: as).length + 2)) "zip" := ⟨_, hz, rfl⟩
  have T : Turn X.prog X.w X.K (.Name nm npos) (ItzN X.K (a :: as) n) _ _ _ := turn_zipN (n := n) D (by rw [← List.length_pos_iff, List.length_range']; exact Nat.succ_pos _) (by rw [List.length_range']; exact hl)
  refine T.self _ 0 { s2 with heap := h' } _ _ N.st ?_
  refine ⟨_, _, _, _, H1, rfl, I3, T, N.st, fun c hcm => ?_, q⟩
  have hle : s2.heap.objs.size ≤ c := by
    rcases List.mem_cons.mp hcm with rfl | hc
    · omega
    rcases List.mem_cons.mp hc with rfl | hc
    · omega
    rcases List.mem_cons.mp hc with rfl | hc
    · omega
    exact (List.mem_range'_1.mp hc).1
  exact I2.fpOk hle (I2.hok.fresh hle)
end OZ

set_option Elab.async false
set_option linter.all false
set_option maxRecDepth 100000
set_option maxHeartbeats 2000000
/-! min, max of a tuple of ints -/
namespace OZ
open PySem PySem.Spec PyProof.Rows L2
section
variable {prog : Program} {w : World} {A : Around} {E : Value → Shared → Prop} {s : Shared} {l : Addr}
theorem iter_intTup {xs : Array (Int × Tok)} {Q : Value → Shared → Prop} (hl : s.heap.IsTuple l (intItems xs))
    (h : ∀ s₂ : Shared, s₂ = { s with heap := s.heap.push { cls := .type "tuple_iterator", data := .fields #[.ref l, .int 0 0] } } →
      (s₂.heap.IsTupleIter s.heap.objs.size l 0 ∧ s₂.heap.IsTuple l (intItems xs)) → (∀ b ∈ [s.heap.objs.size, l], b < s₂.heap.objs.size) → l ≠ s.heap.objs.size → Q (.ref s.heap.objs.size) s₂) :
    wpAny (model prog w) A (pyIter (.ref l)) Q E s := by
  have hlt : l < s.heap.objs.size := by obtain ⟨_, e, _⟩ := hl; exact Heap.lt_size e
  refine wpAny_pyIter_tuple hl (h _ rfl ⟨⟨_, Heap.get?_push_size _ rfl, rfl, rfl⟩, hl.push _⟩ (fun b hb => ?_) (Nat.ne_of_lt hlt))
  show b < (s.heap.push _).objs.size
  rw [Heap.size_push]
  rcases List.mem_cons.mp hb with rfl | hb
  · exact Nat.lt_succ_self _
  · rcases List.mem_cons.mp hb with rfl | hb
    · exact Nat.lt_succ_of_lt hlt
    · cases hb
theorem old_keptT {h' : Heap} {o0 : Obj} (hk : ∀ c o, c ∉ [s.heap.objs.size] → (s.heap.push o0).get? c = some o → h'.get? c = some o) : ∀ c o, s.heap.get? c = some o → h'.get? c = some o := fun c o e => by
  refine hk c o (fun hm => ?_) (Heap.get?_push_of_some _ e)
  rcases List.mem_cons.mp hm with e1 | hm
  · have := Heap.lt_size e
    rw [e1] at this
    exact Nat.lt_irrefl _ this
  · cases hm
theorem max_intTup {xs : Array (Int × Tok)} {Q : Value → Shared → Prop} (hh : A.handled = none) (hl : s.heap.IsTuple l (intItems xs)) (hne : 0 < xs.size)
    (h : ∀ v h' tk, (intItems xs)[argBest (fun i j => decide (numAt xs i > numAt xs j)) (xs.size - 1)]? = some v → (∀ b o, s.heap.get? b = some o → h'.get? b = some o) → Q v { s with heap := h', toks := tk }) :
    wpAny (model prog w) A (call (.builtin "max") [.ref l]) Q E s := by
  refine call_max_walk (iter_intTup hl fun s₂ e st hfp hlI => ?_)
  subst e
  refine ⟨_, _, _, _, _, _, _, rfl, Walks.tuple (A := A.in1) hh _ l hlI (intItems xs), st, hfp, by simpa [intItems] using hne, CmpOf.ints_gt (numAt xs) (fun _ _ => intItems_at), fun v h' tk hP hk => ?_⟩
  exact h v h' tk (by simpa [intItems] using hP) (old_keptT hk)
theorem min_intTup {xs : Array (Int × Tok)} {Q : Value → Shared → Prop} (hh : A.handled = none) (hl : s.heap.IsTuple l (intItems xs)) (hne : 0 < xs.size)
    (h : ∀ v h' tk, (intItems xs)[argBest (fun i j => decide (numAt xs i < numAt xs j)) (xs.size - 1)]? = some v → (∀ b o, s.heap.get? b = some o → h'.get? b = some o) → Q v { s with heap := h', toks := tk }) :
    wpAny (model prog w) A (call (.builtin "min") [.ref l]) Q E s := by
  refine call_min_walk (iter_intTup hl fun s₂ e st hfp hlI => ?_)
  subst e
  refine ⟨_, _, _, _, _, _, _, rfl, Walks.tuple (A := A.in1) hh _ l hlI (intItems xs), st, hfp, by simpa [intItems] using hne, CmpOf.ints_lt (numAt xs) (fun _ _ => intItems_at), fun v h' tk hP hk => ?_⟩
  exact h v h' tk (by simpa [intItems] using hP) (old_keptT hk)
variable {its : List Value} {ns : List Int} {Q : Value → Shared → Prop}
theorem maxT_raw (hh : A.handled = none) (hl : s.heap.IsTuple l its.toArray) (hi : IntsAre its ns) (hne : 0 < ns.length)
    (h : ∀ h' tk M t', (∀ b o, s.heap.get? b = some o → h'.get? b = some o) → M ∈ ns → (∀ a, a ∈ ns → a ≤ M) → Q (.int M t') { s with heap := h', toks := tk }) : wpAny (model prog w) A (call (.builtin "max") [.ref l]) Q E s := by
  obtain ⟨xs, e⟩ := hi.allInts.items
  have hn : numsOf (intItems xs).toList = ns := by rw [← e]; exact hi.numsOf
  rw [nums_intItems] at hn
  subst hn
  rw [e] at hl
  have hsz : 0 < xs.size := by simpa using hne
  refine max_intTup hh hl hsz fun v h' tk hv hk => ?_
  obtain ⟨t, rfl⟩ := intItems_at hv
  obtain ⟨h1, h2⟩ := argBest_gt (numAt xs) (xs.size - 1)
  refine h h' tk _ t hk ?_ fun a ha => ?_
  · rw [numAt_eq]; exact PySem.getD_mem (by rw [List.length_map, Array.length_toList]; omega)
  · obtain ⟨j, hj, rfl⟩ := mem_getD ha
    rw [List.length_map, Array.length_toList] at hj
    rw [← numAt_eq]; exact h2 j (by omega)
theorem minT_raw (hh : A.handled = none) (hl : s.heap.IsTuple l its.toArray) (hi : IntsAre its ns) (hne : 0 < ns.length)
    (h : ∀ h' tk M t', (∀ b o, s.heap.get? b = some o → h'.get? b = some o) → M ∈ ns → (∀ a, a ∈ ns → M ≤ a) → Q (.int M t') { s with heap := h', toks := tk }) : wpAny (model prog w) A (call (.builtin "min") [.ref l]) Q E s := by
  obtain ⟨xs, e⟩ := hi.allInts.items
  have hn : numsOf (intItems xs).toList = ns := by rw [← e]; exact hi.numsOf
  rw [nums_intItems] at hn
  subst hn
  rw [e] at hl
  have hsz : 0 < xs.size := by simpa using hne
  refine min_intTup hh hl hsz fun v h' tk hv hk => ?_
  obtain ⟨t, rfl⟩ := intItems_at hv
  obtain ⟨h1, h2⟩ := argBest_lt (numAt xs) (xs.size - 1)
  refine h h' tk _ t hk ?_ fun a ha => ?_
  · rw [numAt_eq]; exact PySem.getD_mem (by rw [List.length_map, Array.length_toList]; omega)
  · obtain ⟨j, hj, rfl⟩ := mem_getD ha
    rw [List.length_map, Array.length_toList] at hj
    rw [← numAt_eq]; exact h2 j (by omega)
end
section
variable {X : Cx}
/-- max(t), min(t) of a tuple of ints -/
def rMaxT (K : PySem.W.Frag) : List V → Hp → VK → Prop := fun vs H Q => ∃ (a : Addr) (ns : List Int), vs = [V.ref a] ∧ SqT K H a (ns.map V.int) ∧ 0 < ns.length ∧ ∀ m, m ∈ ns → (∀ y, y ∈ ns → y ≤ m) → Q (.int m) H
def rMinT (K : PySem.W.Frag) : List V → Hp → VK → Prop := fun vs H Q => ∃ (a : Addr) (ns : List Int), vs = [V.ref a] ∧ SqT K H a (ns.map V.int) ∧ 0 < ns.length ∧ ∀ m, m ∈ ns → (∀ y, y ∈ ns → m ≤ y) → Q (.int m) H
theorem cr_maxT (hc : X.calm = true) : CallR X (.builtin "max") (rMaxT X.K) := by
  intro pins s σ H vs us Q I r h
  obtain ⟨a, ns, rfl, hs, hne, q⟩ := h
  obtain ⟨its, rv, hl, _⟩ := I.tuple hs
  rw [Vals.ref1 r]
  exact maxT_raw (I.ok.hd hc) hl rv.ints hne fun h' tk m t' hk h1 h2 => ⟨.int _, H, I.kept hk, ⟨_, rfl⟩, q m h1 h2⟩
theorem cr_minT (hc : X.calm = true) : CallR X (.builtin "min") (rMinT X.K) := by
  intro pins s σ H vs us Q I r h
  obtain ⟨a, ns, rfl, hs, hne, q⟩ := h
  obtain ⟨its, rv, hl, _⟩ := I.tuple hs
  rw [Vals.ref1 r]
  exact minT_raw (I.ok.hd hc) hl rv.ints hne fun h' tk m t' hk h1 h2 => ⟨.int _, H, I.kept hk, ⟨_, rfl⟩, q m h1 h2⟩
end
end OZ

set_option Elab.async false
set_option linter.all false
set_option maxRecDepth 100000
set_option maxHeartbeats 2000000
namespace OT
open PySem PySem.Spec PyProof.Rows L2
def topS (i : Nat) : Stmt := PySem.Challenge.pw_owntables_k02_normal_rows.main.body.getD i (.Pass ⟨0, 0, 0, 0⟩)
abbrev s_bounds : Stmt := topS 1
theorem sc_bounds : FnScope ["row", "places", "column", "place", "number"] ["row"] (C8.fnScope s_bounds) := C8.fnScope_by (by decide +kernel)
abbrev s_TableError___init__ : Stmt := inClass (topS 3) 0
theorem sc_TableError___init__ : FnScope ["self"] ["self"] (C8.fnScope s_TableError___init__) := C8.fnScope_by (by decide +kernel)
abbrev s_OneDirectionOnly___init__ : Stmt := inClass (topS 4) 0
theorem sc_OneDirectionOnly___init__ : FnScope ["self", "dimension"] ["self", "dimension"] (C8.fnScope s_OneDirectionOnly___init__) := C8.fnScope_by (by decide +kernel)
abbrev s_places_length : Stmt := topS 8
theorem sc_places_length : FnScope ["row"] ["row"] (C8.fnScope s_places_length) := C8.fnScope_by (by decide +kernel)
abbrev s_same_lengths : Stmt := topS 9
theorem sc_same_lengths : FnScope ["lengths", "known", "length"] ["lengths"] (C8.fnScope s_same_lengths) := C8.fnScope_by (by decide +kernel)
abbrev s_same_dimension : Stmt := topS 10
theorem sc_same_dimension : FnScope ["rows", "places", "row", "place"] ["rows", "places"] (C8.fnScope s_same_dimension) := C8.fnScope_by (by decide +kernel)
abbrev s_plus : Stmt := topS 12
theorem sc_plus : FnScope ["first", "second", "a", "b"] ["first", "second"] (C8.fnScope s_plus) := C8.fnScope_by (by decide +kernel)
abbrev s_scale : Stmt := topS 13
theorem sc_scale : FnScope ["row", "factor", "place", "number"] ["row", "factor"] (C8.fnScope s_scale) := C8.fnScope_by (by decide +kernel)
abbrev s_mirror : Stmt := topS 14
theorem sc_mirror : FnScope ["row", "place", "number", "x"] ["row"] (C8.fnScope s_mirror) := C8.fnScope_by (by decide +kernel)
abbrev s_shift : Stmt := topS 15
theorem sc_shift : FnScope ["row", "by", "place", "number"] ["row", "by"] (C8.fnScope s_shift) := C8.fnScope_by (by decide +kernel)
abbrev s_low_corner : Stmt := topS 17
theorem sc_low_corner : FnScope ["row", "low", "high"] ["row"] (C8.fnScope s_low_corner) := C8.fnScope_by (by decide +kernel)
abbrev s_spans : Stmt := topS 18
theorem sc_spans : FnScope ["row", "low", "high"] ["row"] (C8.fnScope s_spans) := C8.fnScope_by (by decide +kernel)
abbrev s_unit_of : Stmt := topS 19
theorem sc_unit_of : FnScope ["row", "corner"] ["row"] (C8.fnScope s_unit_of) := C8.fnScope_by (by decide +kernel)
abbrev s_box_size : Stmt := topS 20
theorem sc_box_size : FnScope ["row", "size", "span"] ["row"] (C8.fnScope s_box_size) := C8.fnScope_by (by decide +kernel)
abbrev s_normal : Stmt := topS 21
theorem sc_normal : FnScope ["row", "sign", "corner", "x"] ["row"] (C8.fnScope s_normal) := C8.fnScope_by (by decide +kernel)
abbrev s_is_unit : Stmt := topS 22
theorem sc_is_unit : FnScope ["row"] ["row"] (C8.fnScope s_is_unit) := C8.fnScope_by (by decide +kernel)
abbrev s_associated : Stmt := topS 23
theorem sc_associated : FnScope ["first", "second"] ["first", "second"] (C8.fnScope s_associated) := C8.fnScope_by (by decide +kernel)
abbrev s_is_symmetric : Stmt := topS 24
theorem sc_is_symmetric : FnScope ["row"] ["row"] (C8.fnScope s_is_symmetric) := C8.fnScope_by (by decide +kernel)
abbrev s_is_palindromic : Stmt := topS 25
theorem sc_is_palindromic : FnScope ["row"] ["row"] (C8.fnScope s_is_palindromic) := C8.fnScope_by (by decide +kernel)
abbrev s__law_cell : Stmt := topS 27
theorem sc__law_cell : FnScope ["_law_script", "_law_k"] ["_law_script", "_law_k"] (C8.fnScope s__law_cell) := C8.fnScope_by (by decide +kernel)
abbrev s__law_draws : Stmt := topS 28
theorem sc__law_draws : FnScope ["_law_cell_here", "_law_sizes", "_law_draws_here", "_law_rest", "_law_k", "_law_mixed"] ["_law_cell_here", "_law_sizes"] (C8.fnScope s__law_draws) := C8.fnScope_by (by decide +kernel)
abbrev s__law_is_integer : Stmt := topS 29
theorem sc__law_is_integer : FnScope ["_law_actual"] ["_law_actual"] (C8.fnScope s__law_is_integer) := C8.fnScope_by (by decide +kernel)
abbrev s__law_is_place : Stmt := topS 30
theorem sc__law_is_place : FnScope ["_law_actual", "_law_x"] ["_law_actual"] (C8.fnScope s__law_is_place) := C8.fnScope_by (by decide +kernel)
abbrev s__law_is_row : Stmt := topS 31
theorem sc__law_is_row : FnScope ["_law_actual", "_law_k", "_law_entry"] ["_law_actual"] (C8.fnScope s__law_is_row) := C8.fnScope_by (by decide +kernel)
abbrev s__law_same : Stmt := topS 32
theorem sc__law_same : FnScope ["_law_actual", "_law_expected"] ["_law_actual", "_law_expected"] (C8.fnScope s__law_same) := C8.fnScope_by (by decide +kernel)
abbrev s__law_plus : Stmt := topS 33
theorem sc__law_plus : FnScope ["_law_place", "_law_other", "_law_k"] ["_law_place", "_law_other"] (C8.fnScope s__law_plus) := C8.fnScope_by (by decide +kernel)
abbrev s__law_back : Stmt := topS 34
theorem sc__law_back : FnScope ["_law_place", "_law_x"] ["_law_place"] (C8.fnScope s__law_back) := C8.fnScope_by (by decide +kernel)
abbrev s__law_row : Stmt := topS 35
theorem sc__law_row : FnScope ["_law_pairs", "_law_sums", "_law_place", "_law_number"] ["_law_pairs"] (C8.fnScope s__law_row) := C8.fnScope_by (by decide +kernel)
abbrev s__law_add : Stmt := topS 36
theorem sc__law_add : FnScope ["_law_first_here", "_law_second_here"] ["_law_first_here", "_law_second_here"] (C8.fnScope s__law_add) := C8.fnScope_by (by decide +kernel)
abbrev s__law_scaled : Stmt := topS 37
theorem sc__law_scaled : FnScope ["_law_row_here", "_law_factor", "_law_entry"] ["_law_row_here", "_law_factor"] (C8.fnScope s__law_scaled) := C8.fnScope_by (by decide +kernel)
abbrev s__law_minus : Stmt := topS 38
theorem sc__law_minus : FnScope ["_law_first_here", "_law_second_here"] ["_law_first_here", "_law_second_here"] (C8.fnScope s__law_minus) := C8.fnScope_by (by decide +kernel)
abbrev s__law_mirror : Stmt := topS 39
theorem sc__law_mirror : FnScope ["_law_row_here", "_law_entry"] ["_law_row_here"] (C8.fnScope s__law_mirror) := C8.fnScope_by (by decide +kernel)
abbrev s__law_moved : Stmt := topS 40
theorem sc__law_moved : FnScope ["_law_row_here", "_law_by", "_law_entry"] ["_law_row_here", "_law_by"] (C8.fnScope s__law_moved) := C8.fnScope_by (by decide +kernel)
abbrev s__law_corner : Stmt := topS 41
theorem sc__law_corner : FnScope ["_law_row_here", "_law_k", "_law_entry"] ["_law_row_here"] (C8.fnScope s__law_corner) := C8.fnScope_by (by decide +kernel)
abbrev s__law_top : Stmt := topS 42
theorem sc__law_top : FnScope ["_law_row_here", "_law_k", "_law_entry"] ["_law_row_here"] (C8.fnScope s__law_top) := C8.fnScope_by (by decide +kernel)
abbrev s__law_normal : Stmt := topS 43
theorem sc__law_normal : FnScope ["_law_row_here", "_law_sign"] ["_law_row_here"] (C8.fnScope s__law_normal) := C8.fnScope_by (by decide +kernel)
abbrev s__law_by_unit : Stmt := topS 44
theorem sc__law_by_unit : FnScope ["_law_row_here", "_law_sign", "_law_place"] ["_law_row_here", "_law_sign", "_law_place"] (C8.fnScope s__law_by_unit) := C8.fnScope_by (by decide +kernel)
abbrev s__law_places : Stmt := topS 45
theorem sc__law_places : FnScope ["_law_box_here", "_law_places_here", "_law_width", "_law_longer", "_law_place", "_law_k"] ["_law_box_here"] (C8.fnScope s__law_places) := C8.fnScope_by (by decide +kernel)
abbrev s__law_drawn : Stmt := topS 46
theorem sc__law_drawn : FnScope ["_law_cell_here", "_law_box_here", "_law_reach", "_law_moves", "_law_places_here", "_law_draws_here", "_law_by", "_law_k"] ["_law_cell_here", "_law_box_here", "_law_reach", "_law_moves"] (C8.fnScope s__law_drawn) := C8.fnScope_by (by decide +kernel)
abbrev s__law_box : Stmt := topS 47
theorem sc__law_box : FnScope ["_law_kind", "_law_wide"] ["_law_kind", "_law_wide"] (C8.fnScope s__law_box) := C8.fnScope_by (by decide +kernel)
abbrev s__law_is_error : Stmt := topS 48
theorem sc__law_is_error : FnScope ["_law_e", "_law_word"] ["_law_e", "_law_word"] (C8.fnScope s__law_is_error) := C8.fnScope_by (by decide +kernel)
abbrev s__law_near_or_far : Stmt := topS 49
theorem sc__law_near_or_far : FnScope ["_law_cell_here", "_law_size", "_law_draws_here"] ["_law_cell_here", "_law_size"] (C8.fnScope s__law_near_or_far) := C8.fnScope_by (by decide +kernel)
abbrev s__law_first : Stmt := topS 50
theorem sc__law_first : FnScope ["_law_script", "_law_draws_here", "_law_by", "_law_mode", "_law_row_here"] ["_law_script", "_law_draws_here", "_law_by"] (C8.fnScope s__law_first) := C8.fnScope_by (by decide +kernel)
abbrev s__law_second : Stmt := topS 51
theorem sc__law_second : FnScope ["_law_script", "_law_draws_here", "_law_by", "_law_row_here", "_law_mode", "_law_kind", "_law_place"] ["_law_script", "_law_draws_here", "_law_by", "_law_row_here"] (C8.fnScope s__law_second) := C8.fnScope_by (by decide +kernel)
abbrev s__law_truth : Stmt := topS 52
theorem sc__law_truth : FnScope ["_law_actual", "_law_expected"] ["_law_actual", "_law_expected"] (C8.fnScope s__law_truth) := C8.fnScope_by (by decide +kernel)
abbrev s__law_zero_asked : Stmt := topS 53
theorem sc__law_zero_asked : FnScope ["_law_which", "_law_e"] ["_law_which"] (C8.fnScope s__law_zero_asked) := C8.fnScope_by (by decide +kernel)
abbrev s__law_corners_asked : Stmt := topS 54
theorem sc__law_corners_asked : FnScope ["_law_row_here", "_law_handed", "_law_corner_here", "_law_top_here", "_law_widths", "_law_sign", "_law_told", "_law_k"] ["_law_row_here"] (C8.fnScope s__law_corners_asked) := C8.fnScope_by (by decide +kernel)
abbrev s__law_box_count : Stmt := topS 55
theorem sc__law_box_count : FnScope ["_law_row_here", "_law_corner_here", "_law_top_here", "_law_size", "_law_k"] ["_law_row_here"] (C8.fnScope s__law_box_count) := C8.fnScope_by (by decide +kernel)
abbrev s__law_single_asked : Stmt := topS 56
theorem sc__law_single_asked : FnScope ["_law_row_here", "_law_handed", "_law_size", "_law_told", "_law_back_here"] ["_law_row_here"] (C8.fnScope s__law_single_asked) := C8.fnScope_by (by decide +kernel)
abbrev s__law_pair_asked : Stmt := topS 57
theorem sc__law_pair_asked : FnScope ["_law_first_here", "_law_second_here", "_law_left", "_law_right", "_law_mixed", "_law_e", "_law_actual"] ["_law_first_here", "_law_second_here"] (C8.fnScope s__law_pair_asked) := C8.fnScope_by (by decide +kernel)
abbrev s_law : Stmt := topS 58
theorem sc_law : FnScope ["_law_script", "_law_draws_here", "_law_by", "_law_first_here", "_law_second_here", "_law_turn", "_law_which", "_law_row_here"] ["_law_script"] (C8.fnScope s_law) := C8.fnScope_by (by decide +kernel)
theorem iteD {c A B : Prop} [Decidable c] (h1 : c → A) (h2 : ¬ c → B) : if decide c = true then A else B := by
  by_cases h : c
  · rw [decide_eq_true h]
    exact iteT (h1 h)
  · rw [decide_eq_false h]
    exact iteF (h2 h)
theorem iteND {c A B : Prop} [Decidable c] (h1 : ¬ c → A) (h2 : c → B) : if (!decide c) = true then A else B := by
  by_cases h : c
  · rw [decide_eq_true h]
    exact iteF (h2 h)
  · rw [decide_eq_false h]
    exact iteT (h1 h)
theorem iteB {c : Bool} {A B : Prop} (h1 : c = true → A) (h2 : c = false → B) : if c = true then A else B := by
  cases c with
  | true => exact iteT (h1 rfl)
  | false => exact iteF (h2 rfl)
theorem atI_int {ns : List Int} {k : Int} (h0 : 0 ≤ k) (h1 : k < (ns.length : Int)) : ∃ c, atI (ns.map V.int) k = some (.int c) ∧ ns[k.toNat]? = some c := by
  obtain ⟨j, rfl⟩ := Int.eq_ofNat_of_zero_le h0
  have hj : j < ns.length := by omega
  refine ⟨ns[j], atI_nat ?_, ?_⟩
  · rw [List.getElem?_map, List.getElem?_eq_getElem hj]
    rfl
  · rw [Int.toNat_natCast, List.getElem?_eq_getElem hj]
theorem same_upd {H : Hp} {p : Addr} {o : HO} (h : H p = none) : Same H (upd H p o) := fun b x e => by
  rw [upd_ne (ne_of_none e h)]
  exact e
theorem same_mut {H H' : Hp} {p : Addr} {o : HO} (e : Same H H') (h : H p = none) : Same H (upd H' p o) := fun b x z => by
  rw [upd_ne (ne_of_none z h)]
  exact e b x z
theorem same_t {K : PySem.W.Frag} {H H' : Hp} {a : Addr} {xs : List V} (e : Same H H') (h : SqT K H a xs) : SqT K H' a xs := by
  rcases h with (h | ⟨o, h⟩) | h
  · exact .inl (.inl (e _ _ h))
  · exact .inl (.inr ⟨o, e _ _ h⟩)
  · exact .inr h
/-- the module's names that stay the built-in ones -/
structure Bi (mg : Str → Option Value) : Prop where
  n_len : mg "len" = none
  n_int : mg "int" = none
  n_str : mg "str" = none
  n_bool : mg "bool" = none
  n_list : mg "list" = none
  n_tuple : mg "tuple" = none
  n_range : mg "range" = none
  n_enumerate : mg "enumerate" = none
  n_isinstance : mg "isinstance" = none
  n_sorted : mg "sorted" = none
  n_abs : mg "abs" = none
  n_any : mg "any" = none
  n_min : mg "min" = none
  n_max : mg "max" = none
  n_zip : mg "zip" = none
section
variable {P : Program} {w : World} {K : PySem.W.Frag} {mg : Str → Option Value} {base : Heap}
/-! ### a cell of the script -/
def spCell (K : PySem.W.Frag) : Sp := fun vs H Q _ => ∃ (a : Addr) (ns : List Int) (k : Int), vs = [.ref a, .int k] ∧ SqL K H a (ns.map V.int) ∧ 0 ≤ k ∧ ∀ c : Int, Q (.int c) H
theorem c__law_cell {f : Addr} {fd : FuncData} (D : C8.Def K mg "_law_cell" s__law_cell f fd) (b : Binds K fd ["_law_script", "_law_k"] []) (T : Bi mg) : C8.Cal P w K mg base 1 "_law_cell" (spCell K) [] := by
  refine C8.cal0 D b .nil sc__law_cell (fun vs H Q E h => ?_) (fun cdv A outer s H vs Q E hr h => ?_)
  · obtain ⟨a, ns, k, rfl, _⟩ := h
    rfl
  · obtain ⟨a, ns, k, rfl, hS, hk, q⟩ := h
    refine ⟨_, (pss_cons (ps_if (pt_cmpR op_lt (pv 1) (pe_callB call_len_seq (by rfl) T.n_len OT.b_len (pa_cons (pv 0) pa_nil)) (nomark _)) (pss_one (ps_ret (pe_ix ix_list (pv 0) (pv 1) (fun _ _ => rfl)))) pss_nil)
  (pss_cons (ps_if (pt_cmpR op_eq (pe_callB call_len_seq (by rfl) T.n_len OT.b_len (pa_cons (pv 0) pa_nil)) pe_int (nomark _)) (pss_one (ps_ret (pe_op op_add (pe_op op_mul pe_int (pv 1)) pe_int))) pss_nil)
  (pss_one (ps_ret (pe_op op_mod (pe_callTy call_int1 (by rfl) T.n_int OT.b_int (pa_cons (pe_op op_add (pe_op op_add (pe_op op_mul (pe_ix ix_list (pv 0) (pe_op op_mod (pe_callTy call_int1 (by rfl) T.n_int OT.b_int (pa_cons (pv 1) pa_nil)) (pe_callB call_len_seq (by rfl) T.n_len OT.b_len (pa_cons (pv 0) pa_nil))) (fun _ _ => rfl)) pe_int) (pe_op op_mul pe_int (pv 1))) pe_int) pa_nil)) pe_int))))), ?_⟩
    refine ⟨_, rfl, _, rfl, a, _, rfl, .inl hS, _, _, rfl, rfl, _, rfl, ?_⟩
    refine iteD (fun h1 => ?_) (fun h1 => ?_)
    · rw [List.length_map] at h1
      obtain ⟨c, hc, _⟩ := atI_int hk h1
      exact ⟨_, rfl, _, rfl, a, _, _, _, rfl, rfl, hS, hc, q c⟩
    · refine ⟨_, rfl, a, _, rfl, .inl hS, rfl, _, rfl, ?_⟩
      refine iteD (fun h2 => ?_) (fun h2 => ?_)
      · exact ⟨_, rfl, _, _, rfl, rfl, .inl ⟨by decide, by decide⟩, _, _, rfl, rfl, q _⟩
      · have hp : 0 < ns.length := by
          have h3 : ¬ (V.int ((ns.map V.int).length : Int) = V.int 0) := h2
          rw [List.length_map] at h3
          cases ns with
          | nil => exact absurd rfl h3
          | cons x r => exact Nat.succ_pos _
        have hm : 0 ≤ k % (ns.length : Int) := Int.emod_nonneg _ (by omega)
        have hm2 : k % (ns.length : Int) < ns.length := Int.emod_lt_of_pos _ (by omega)
        obtain ⟨c, hc, _⟩ := atI_int hm hm2
        refine ⟨_, rfl, _, rfl, .inl ⟨k, rfl, _, rfl, a, _, rfl, .inl hS, k, _, rfl, rfl, ?_, a, _, _, _, rfl, rfl, hS, ?_, c, _, rfl, rfl, .inr ⟨by decide, by decide⟩, _, rfl, _, _, rfl, rfl, .inl ⟨by decide, by decide⟩, _, _, rfl, rfl, _, _, rfl, rfl, .inl ⟨_, rfl, _, _, rfl, rfl, by show (0 : Int) < 2147483647; decide, q _⟩⟩⟩
        · rw [List.length_map]
          show (0 : Int) < (ns.length : Int)
          omega
        · rw [List.length_map]
          exact hc
/-! ### draws -/
theorem cmul_m1 (x y : Int) : CMul (x % 2147483647) y := by
  refine .inl ?_
  have h1 := Int.emod_nonneg x (show (2147483647 : Int) ≠ 0 by decide)
  have h2 := Int.emod_lt_of_pos x (show (0 : Int) < 2147483647 by decide)
  have h3 : (2 : Int) ^ 64 = 18446744073709551616 := by decide
  omega
theorem cmul_m2 (x y : Int) : CMul (x % 2147483629) y := by
  refine .inl ?_
  have h1 := Int.emod_nonneg x (show (2147483629 : Int) ≠ 0 by decide)
  have h2 := Int.emod_lt_of_pos x (show (0 : Int) < 2147483629 by decide)
  have h3 : (2 : Int) ^ 64 = 18446744073709551616 := by decide
  omega

theorem small64 {z : Int} (h1 : 0 < z) (h2 : z < 1000000000000000) : z.natAbs < 2 ^ 64 := by
  have : (2 : Nat) ^ 64 = 18446744073709551616 := by decide
  omega
def InR (ds zs : List Int) : Prop := ds.length = zs.length ∧ ∀ (i : Nat) (d z : Int), ds[i]? = some d → zs[i]? = some z → 0 ≤ d ∧ d < z
def spDraws (K : PySem.W.Frag) : Sp := fun vs H Q _ => ∃ (a : Addr) (zs : List Int) (c : Int), vs = [.int c, .ref a] ∧ SqL K H a (zs.map V.int) ∧ zs.length ≤ 1000 ∧ (∀ z ∈ zs, 0 < z ∧ z < 1000000000000000) ∧
  ∀ (ds : List Int) H' p, InR ds zs → Same H H' → H p = none → H' p = some (.lst (ds.map V.int)) → Q (.ref p) H'
theorem c__law_draws {f : Addr} {fd : FuncData} (D : C8.Def K mg "_law_draws" s__law_draws f fd) (b : Binds K fd ["_law_cell_here", "_law_sizes"] []) (T : Bi mg) : C8.Cal P w K mg base 1 "_law_draws" (spDraws K) [] := by
  refine C8.cal0 D b .nil sc__law_draws (fun vs H Q E h => ?_) (fun cdv A outer s H vs Q E hr h => ?_)
  · obtain ⟨a, zs, c, rfl, _⟩ := h
    rfl
  · obtain ⟨a, zs, c, rfl, hS, hl, hz, q⟩ := h
    refine ⟨_, (pss_cons (ps_set (i := 2) sc__law_draws.nd rfl (Or.inl rfl) (pe_lst pa_nil))
  (pss_cons (ps_set (i := 3) sc__law_draws.nd rfl (Or.inl rfl) (pe_op op_sub (pv 0) (pe_op op_pow pe_int pe_int)))
  (pss_cons (ps_for PassesOwn.never rfl (pi_range1 rfl T.n_range (pa_cons (pe_callB call_len_seq (by rfl) T.n_len OT.b_len (pa_cons (pv 1) pa_nil)) pa_nil)) (pg_name (i := 4) sc__law_draws.nd rfl (Or.inl rfl)) (pss_one (ps_if (pt_cmpR op_ge (pv 0) (pe_op op_pow pe_int pe_int) (nomark _)) (pss_cons (ps_expr (pe_bm PySem.F.plainAttrs_list PySem.F.slot_list_append PySem.F.type_list_append mt_append (pv 2) (pa_cons (pe_op op_mod (pe_callTy call_int1 (by rfl) T.n_int OT.b_int (pa_cons (pv 3) pa_nil)) (pe_ix ix_list (pv 1) (pv 4) (fun _ _ => rfl))) pa_nil)))
  (pss_one (ps_set (i := 3) sc__law_draws.nd rfl (Or.inl rfl) (pe_op op_fdivW (pv 3) (pe_ix ix_list (pv 1) (pv 4) (fun _ _ => rfl)))))) (pss_cons (ps_set (i := 5) sc__law_draws.nd rfl (Or.inl rfl) (pe_op op_mod (pe_callTy call_int1 (by rfl) T.n_int OT.b_int (pa_cons (pe_op op_add (pe_op op_add (pv 0) (pe_op op_mul pe_int (pv 4))) pe_int) pa_nil)) pe_int))
  (pss_cons (ps_set (i := 5) sc__law_draws.nd rfl (Or.inl rfl) (pe_op op_mod (pe_callTy call_int1 (by rfl) T.n_int OT.b_int (pa_cons (pe_op op_mul (pv 5) (pe_op op_add (pv 5) pe_int)) pa_nil)) pe_int))
  (pss_cons (ps_set (i := 5) sc__law_draws.nd rfl (Or.inl rfl) (pe_op op_mod (pe_callTy call_int1 (by rfl) T.n_int OT.b_int (pa_cons (pe_op op_add (pe_op op_mul (pv 5) (pe_op op_add (pv 5) pe_int)) (pe_op op_mul pe_int (pv 4))) pa_nil)) pe_int))
  (pss_one (ps_expr (pe_bm PySem.F.plainAttrs_list PySem.F.slot_list_append PySem.F.type_list_append mt_append (pv 2) (pa_cons (pe_op op_mod (pe_callTy call_int1 (by rfl) T.n_int OT.b_int (pa_cons (pe_op op_fdiv (pv 5) pe_int) pa_nil)) (pe_ix ix_list (pv 1) (pv 4) (fun _ _ => rfl))) pa_nil))))))))))
  (pss_one (ps_ret (pv 2)))))), ?_⟩
    refine ⟨Nat.zero_le _, fun p np => ?_⟩
    have s1 : Same H (upd H p (.lst [])) := same_upd np
    refine ⟨_, rfl, 10, 18, rfl, rfl, ?cp, _, _, rfl, rfl, ?_⟩
    case cp => exact ⟨by decide, by decide⟩
    refine ⟨_, rfl, a, _, rfl, .inl (s1.seq hS), _, rfl, ?_, ?_, ?_⟩
    · rw [List.length_map]
      omega
    · rw [List.length_map]
      have : (2 : Int) ^ 62 = 4611686018427387904 := by decide
      omega
    rw [List.length_map, Int.toNat_natCast]
    refine for_range (fun i σ H2 => ∃ (ds : List Int) (r : Int) (y4 y5 : Option V), σ = [some (.int c), some (.ref a), some (.ref p), some (.int r), y4, y5] ∧ Same H H2 ∧ H2 p = some (.lst (ds.map V.int)) ∧ InR ds (zs.take i)) ?_ ?_ ?_
    · exact ⟨[], _, none, none, rfl, s1, upd_same, rfl, fun i d z h => by simp at h⟩
    · rintro i σ H2 hi ⟨ds, r, y4, y5, rfl, sm, hp, hr2⟩
      have hzi : zs[i]? = some zs[i] := List.getElem?_eq_getElem hi
      obtain ⟨z1, z2⟩ := hz zs[i] (List.getElem_mem hi)
      have hix : atI (zs.map V.int) ((0 : Int) + (i : Int)) = some (.int zs[i]) := by
        rw [Int.zero_add]
        exact atI_nat (by rw [List.getElem?_map, hzi]; rfl)
      have hS2 := sm.seq hS
      have hlen : ds.length = i := by
        rw [hr2.1, List.length_take]
        omega
      have hlt : (ds.map V.int).length < sizeLine := by
        rw [List.length_map]
        exact small1000 (by omega)
      have more : ∀ x : Int, InR (ds ++ [x % zs[i]]) (zs.take (i + 1)) := fun x => by
        refine ⟨?_, fun j d z h1 h2 => ?_⟩
        · rw [List.length_append, List.length_take, hlen]
          simp
          omega
        · by_cases hj : j < i
          · rw [List.getElem?_append_left (by omega)] at h1
            rw [List.getElem?_take_of_lt (by omega)] at h2
            exact hr2.2 j d z h1 (by rw [List.getElem?_take_of_lt hj]; exact h2)
          · by_cases ej : j = i
            · subst ej
              rw [List.getElem?_append_right (by omega), hlen, Nat.sub_self] at h1
              rw [List.getElem?_take_of_lt (by omega), hzi] at h2
              have e1 : x % zs[j] = d := Option.some.inj h1
              have e2 : zs[j] = z := Option.some.inj h2
              rw [← e1, ← e2]
              exact ⟨Int.emod_nonneg _ (by omega), Int.emod_lt_of_pos _ z1⟩
            · rw [List.getElem?_eq_none (by rw [List.length_take]; omega)] at h2
              cases h2
      have fin : ∀ (x r' : Int) (y4 y5 : Option V), ∃ (ds2 : List Int) (r2 : Int) (z4 z5 : Option V), [some (.int c), some (.ref a), some (.ref p), some (.int r'), y4, y5] = [some (.int c), some (.ref a), some (.ref p), some (.int r2), z4, z5] ∧
          Same H (upd H2 p (.lst (ds.map V.int ++ [V.int (x % zs[i])]))) ∧ (upd H2 p (.lst (ds.map V.int ++ [V.int (x % zs[i])]))) p = some (.lst (ds2.map V.int)) ∧ InR ds2 (zs.take (i + 1)) := fun x r' y4 y5 => by
        refine ⟨ds ++ [x % zs[i]], r', y4, y5, rfl, same_mut sm np, ?_, more x⟩
        rw [upd_same, List.map_append]
        rfl
      refine ⟨_, rfl, 10, 18, rfl, rfl, ⟨by decide, by decide⟩, _, _, rfl, rfl, _, rfl, ?_⟩
      refine iteD (fun _ => ?_) (fun _ => ?_)
      · refine ⟨_, rfl, .inl ⟨rfl, _, .inl (.inl hp)⟩, _, rfl, .inl ⟨r, rfl, _, rfl, _, rfl, a, _, _, _, rfl, rfl, hS2, hix, _, _, rfl, rfl, z1, p, _, _, rfl, rfl, hp, hlt, ?_⟩⟩
        have sm3 : Same H (upd H2 p (.lst (ds.map V.int ++ [V.int (r % zs[i])]))) := same_mut sm np
        refine ⟨_, rfl, _, rfl, _, rfl, a, _, _, _, rfl, rfl, sm3.seq hS, hix, _, _, rfl, rfl, wide_div z1 (b := 64) (small64 z1 z2) (by decide) (by decide), ?_⟩
        exact fin _ _ _ _
      · refine ⟨_, rfl, _, rfl, _, _, rfl, rfl, .inl ⟨by decide, by decide⟩, _, _, rfl, rfl, _, _, rfl, rfl, .inl ⟨_, rfl, _, _, rfl, rfl, by show (0 : Int) < 2147483647; decide, ?_⟩⟩
        refine ⟨_, rfl, _, rfl, _, _, rfl, rfl, _, _, rfl, rfl, cmul_m1 _ _, .inl ⟨_, rfl, _, _, rfl, rfl, by show (0 : Int) < 2147483629; decide, ?_⟩⟩
        refine ⟨_, rfl, _, rfl, _, _, rfl, rfl, _, _, rfl, rfl, cmul_m2 _ _, _, rfl, _, _, rfl, rfl, .inl ⟨by decide, by decide⟩, _, _, rfl, rfl, .inl ⟨_, rfl, _, _, rfl, rfl, by show (0 : Int) < 2147483647; decide, ?_⟩⟩
        refine ⟨_, rfl, .inl ⟨rfl, _, .inl (.inl hp)⟩, _, rfl, _, _, rfl, rfl, ⟨by decide, by decide⟩, .inl ⟨_, rfl, _, rfl, _, rfl, a, _, _, _, rfl, rfl, hS2, hix, _, _, rfl, rfl, z1, p, _, _, rfl, rfl, hp, hlt, ?_⟩⟩
        exact fin _ _ _ _
    · rintro σ H2 ⟨ds, r, y4, y5, rfl, sm, hp, hr2⟩
      rw [List.take_length] at hr2
      exact ⟨_, rfl, q ds H2 p hr2 sm np hp⟩
end
end OT

set_option Elab.async false
set_option linter.all false
set_option maxRecDepth 100000
set_option maxHeartbeats 2000000
namespace OT
open PySem PySem.Spec PyProof.Rows L2
theorem take_map_succ {α β : Type} {l : List α} {i : Nat} (f : α → β) (h : i < l.length) : (l.take (i + 1)).map f = (l.take i).map f ++ [f l[i]] := by
  rw [List.take_add_one, List.getElem?_eq_getElem h, List.map_append]
  rfl
theorem getm {α β : Type} {l : List α} {i : Nat} {f : α → β} {x : β} (h : (l.map f)[i]? = some x) : ∃ hi : i < l.length, x = f l[i] := by
  rw [List.getElem?_map] at h
  cases e : l[i]? with
  | none =>
    rw [e] at h
    cases h
  | some z =>
    rw [e] at h
    obtain ⟨hi, hz⟩ := List.getElem?_eq_some_iff.mp e
    exact ⟨hi, by rw [hz]; exact (Option.some.inj h).symm⟩
theorem tYes_of {A B : Hp → Prop} {σ : L2.St} {H : Hp} (h : A H) : tYes σ H (fun b H3 => if b = true then A H3 else B H3) := by
  show (if true = true then A H else B H)
  rw [if_pos rfl]
  exact h
theorem drop_cons {α : Type} {l : List α} {i : Nat} (h : i < l.length) : l.drop i = l[i] :: l.drop (i + 1) := List.drop_eq_getElem_cons h
theorem kb_ii : kitB "int" "int" = some true := by decide +kernel
theorem kb_ib : kitB "int" "bool" = some false := by decide +kernel
theorem kb_tt : kitB "tuple" "tuple" = some true := by decide +kernel
theorem kb_ss : kitB "str" "str" = some true := by decide +kernel
theorem kb_ll : kitB "list" "list" = some true := by decide +kernel
theorem depth_ints : ∀ ns : List Int, PyData.depthAll (ns.map PyData.int) = 0
  | [] => by simp only [List.map_nil, PyData.depthAll]
  | n :: r => by simp only [List.map_cons, PyData.depthAll, PyData.depth, depth_ints r, Nat.max_self]
theorem depth_row : ∀ es : List Ent, PyData.depthAll (es.map dEnt) ≤ 3
  | [] => by simp only [List.map_nil, PyData.depthAll]; decide
  | e :: r => by
    have ih := depth_row r
    simp only [List.map_cons, PyData.depthAll, dEnt, dPl, PyData.depth, depth_ints] at ih ⊢
    omega
theorem shaped_row (es : List Ent) : SeqAt.shaped (dRow es) = true := by
  unfold SeqAt.shaped
  have h1 : (dRow es).canLay0 = true := lay_row es
  rw [h1, Bool.true_and]
  refine decide_eq_true ?_
  have := depth_row es
  simp only [dRow, PyData.depth]
  omega
section
variable {P : Program} {w : World} {K : PySem.W.Frag} {mg : Str → Option Value} {base : Heap}
def spIsInt : Sp := fun vs H Q _ => ∃ i : Int, vs = [.int i] ∧ Q (.bl true) H
theorem c__law_is_integer {f : Addr} {fd : FuncData} (D : C8.Def K mg "_law_is_integer" s__law_is_integer f fd) (b : Binds K fd ["_law_actual"] []) (T : Bi mg) : C8.Cal P w K mg base 1 "_law_is_integer" spIsInt [] := by
  refine C8.cal0 D b .nil sc__law_is_integer (fun vs H Q E h => ?_) (fun cdv A outer s H vs Q E hr h => ?_)
  · obtain ⟨i, rfl, _⟩ := h
    rfl
  · obtain ⟨i, rfl, q⟩ := h
    refine ⟨_, (pss_one (ps_ret (pe_and (pe_callB call_isi (by rfl) T.n_isinstance OT.b_isinstance (pa_cons (pv 0) (pa_cons (pe_bltn (v := .ty "int") (by rfl) T.n_int OT.b_int rfl) pa_nil))) (pe_one (pe_not (pe_callB call_isi (by rfl) T.n_isinstance OT.b_isinstance (pa_cons (pv 0) (pa_cons (pe_bltn (v := .ty "bool") (by rfl) T.n_bool OT.b_bool rfl) pa_nil)))))))), ?_⟩
    refine ⟨_, rfl, _, _, _, _, _, rfl, .ty _, .base (.int i), kit_ty kb_ii, _, rfl, ?_⟩
    refine iteT ?_
    exact ⟨_, rfl, _, _, _, _, _, rfl, .ty _, .base (.int i), kit_ty kb_ib, _, rfl, q⟩
def spIsPlace (K : PySem.W.Frag) : Sp := fun vs H Q _ => ∃ (a : Addr) (ns : List Int), vs = [.ref a] ∧ H a = some (.tup (ns.map V.int)) ∧ 1 ≤ ns.length ∧ ns.length ≤ 3 ∧ Q (.bl true) H
theorem c__law_is_place {f : Addr} {fd : FuncData} (D : C8.Def K mg "_law_is_place" s__law_is_place f fd) (b : Binds K fd ["_law_actual"] []) (T : Bi mg) (c__law_is_integer : C8.Cal P w K mg base 1 "_law_is_integer" spIsInt []) : C8.Cal P w K mg base 2 "_law_is_place" (spIsPlace K) [] := by
  refine C8.cal0 D b .nil sc__law_is_place (fun vs H Q E h => ?_) (fun cdv A outer s H vs Q E hr h => ?_)
  · obtain ⟨a, ns, rfl, _⟩ := h
    rfl
  · obtain ⟨a, ns, rfl, hS, h1, h3, q⟩ := h
    have hT : SqT K H a (ns.map V.int) := .inl (.inl hS)
    refine ⟨_, (pss_cons (ps_if (PW.pt (pw_or (pt_not (pt_val (pe_callB call_isi (by rfl) T.n_isinstance OT.b_isinstance (pa_cons (pv 0) (pa_cons (pe_bltn (v := .ty "tuple") (by rfl) T.n_tuple OT.b_tuple rfl) pa_nil))))) (pw_or (pt_cmpR op_lt (pe_callB call_len_seq (by rfl) T.n_len OT.b_len (pa_cons (pv 0) pa_nil)) pe_int (nomark _)) (pw_or1 (pt_cmpR op_gt (pe_callB call_len_seq (by rfl) T.n_len OT.b_len (pa_cons (pv 0) pa_nil)) pe_int (nomark _)))))) (pss_one (ps_ret pe_bl)) pss_nil)
  (pss_cons (ps_for PassesOwn.never rfl (pi_tup (pv 0)) (pg_name (i := 1) sc__law_is_place.nd rfl (Or.inl rfl)) (pss_one (ps_if (pt_not (pt_val (C8.pe_c c__law_is_integer hr (by decide) (by rfl) (pa_cons (pv 1) pa_nil)))) (pss_one (ps_ret pe_bl)) pss_nil)))
  (pss_one (ps_ret pe_bl)))), ?_⟩
    refine ⟨_, rfl, _, _, _, _, _, rfl, .ty _, .base (.tup hS), kit_ty kb_tt, _, rfl, ?_⟩
    refine iteF ?_
    refine ⟨_, rfl, a, _, rfl, .inr hT, _, _, rfl, rfl, _, rfl, iteD (fun z => ?_) (fun _ => ?_)⟩
    · rw [List.length_map] at z
      omega
    refine ⟨_, rfl, a, _, rfl, .inr hT, _, _, rfl, rfl, _, rfl, iteD (fun z => ?_) (fun _ => ?_)⟩
    · rw [List.length_map] at z
      omega
    refine ⟨_, rfl, a, rfl, ⟨_, hT⟩, ?_⟩
    refine for_tup (K := K) (xs := ns.map V.int) (fun i σ H2 => ∃ y, σ = [some (.ref a), y] ∧ H2 = H) ⟨none, rfl, rfl⟩ (fun i σ H2 _ ⟨_, _, e⟩ => by rw [e]; exact hT) ?_ ?_
    · rintro i x σ H2 hx ⟨y, rfl, rfl⟩
      obtain ⟨hi, rfl⟩ := getm hx
      exact ⟨_, rfl, _, rfl, _, rfl, iteF ⟨_, rfl, rfl⟩⟩
    · rintro σ H2 ⟨y, rfl, rfl⟩
      exact q
end
end OT

set_option Elab.async false
set_option linter.all false
set_option maxRecDepth 100000
set_option maxHeartbeats 2000000
namespace OT
open PySem PySem.Spec PyProof.Rows L2
theorem kV_ints (k : Pl) : (k.map (Sum.inl : Int → Key)).map kV = k.map V.int := by
  rw [List.map_map]
  rfl
theorem dgetT {H : Hp} {d b : Addr} {kvs : List (List Key × V)} {k : Pl} {o : Option V} (e : H d = some (.dT kvs)) (eb : H b = some (.tup (k.map V.int))) (h : valV kvs (k.map Sum.inl) = o) : DGet H d (.ref b) o := by
  rw [← h]
  exact DGet.t e (by rw [kV_ints]; exact eb)
theorem ne_lst {H : Hp} {a D : Addr} {xs l : List V} (h : H a = some (.tup xs)) (hD : H D = some (.lst l)) : a ≠ D := fun e => by
  rw [e, hD] at h
  cases h
theorem EntAt.updL {H : Hp} {D : Addr} {l l' : List V} {v : V} {e : Ent} (hD : H D = some (.lst l)) (h : EntAt H v e) : EntAt (upd H D (.lst l')) v e := by
  obtain ⟨t, p, rfl, h1, h2⟩ := h
  exact ⟨t, p, rfl, by rw [upd_ne (ne_lst h1 hD)]; exact h1, by rw [upd_ne (ne_lst h2 hD)]; exact h2⟩
theorem Ents.updL {H : Hp} {D : Addr} {l l' : List V} {vs : List V} {es : List Ent} (hD : H D = some (.lst l)) (h : Ents H vs es) : Ents (upd H D (.lst l')) vs es := by
  induction h with
  | nil => exact .nil
  | cons h1 _ ih => exact .cons (h1.updL hD) ih
theorem mkR_len (f : Pl → Int) : ∀ ks : List Pl, (mkR f ks).length ≤ ks.length
  | [] => Nat.le_refl _
  | k :: r => by
    have ih := mkR_len f r
    show (if f k = 0 then mkR f r else (k, f k) :: mkR f r).length ≤ r.length + 1
    by_cases h : f k = 0
    · rw [if_pos h]
      omega
    · rw [if_neg h, List.length_cons]
      omega
theorem none_of_upd {H : Hp} {p D : Addr} {o : HO} (h : upd H p o D = none) : H D = none ∧ p ≠ D := by
  have ne : p ≠ D := ne_of_none upd_same h
  exact ⟨by rw [upd_ne ne.symm] at h; exact h, ne⟩
section
variable {P : Program} {w : World} {K : PySem.W.Frag} {mg : Str → Option Value} {base : Heap}
def wantRow (H : Hp) (es : List Ent) (Q : VK) : Prop := ∀ (r : List Ent) (p : Addr) (ws : List V) (H' : Hp), RowIs r es → Same H H' → H p = none → H' p = some (.lst ws) → Ents H' ws r → Q (.ref p) H'
def spRowOf (K : PySem.W.Frag) : Sp := fun vs H Q _ => ∃ (d : Addr) (kvs : List (List Key × V)) (ks : List Pl) (es : List Ent), vs = [.ref d] ∧ H d = some (.dT kvs) ∧ Sums kvs ks (numAt es) ∧ (∀ k ∈ ks, k ≠ []) ∧ ks.length < sizeLine ∧ wantRow H es Q
end
end OT

set_option Elab.async false
set_option linter.all false
set_option maxRecDepth 100000
set_option maxHeartbeats 2000000
namespace OT
open PySem PySem.Spec PyProof.Rows L2
section
variable {P : Program} {w : World} {K : PySem.W.Frag} {mg : Str → Option Value} {base : Heap}
theorem put_keys_ne {ks : List Pl} {e : Pl} (h : ∀ k ∈ ks, k ≠ []) (he : e ≠ []) : ∀ k ∈ (if e ∈ ks then ks else ks ++ [e]), k ≠ [] := by
  by_cases m : e ∈ ks
  · rw [if_pos m]
    exact h
  · rw [if_neg m]
    intro k hk
    rcases List.mem_append.mp hk with hk | hk
    · exact h k hk
    · rw [List.mem_singleton.mp hk]
      exact he
theorem put_keys_len {ks : List Pl} {e : Pl} {i : Nat} (h : ks.length ≤ i) : (if e ∈ ks then ks else ks ++ [e]).length ≤ i + 1 := by
  by_cases m : e ∈ ks
  · rw [if_pos m]
    omega
  · rw [if_neg m, List.length_append, List.length_singleton]
    omega
theorem Ents.updD {H : Hp} {D : Addr} {l l' : List (List Key × V)} {vs : List V} {es : List Ent} (hD : H D = some (.dT l)) (h : Ents H vs es) : Ents (upd H D (.dT l')) vs es := by
  have ne : ∀ {a : Addr} {xs : List V}, H a = some (.tup xs) → a ≠ D := fun {a xs} h e => by
    rw [e, hD] at h
    cases h
  induction h with
  | nil => exact .nil
  | cons h1 _ ih =>
    obtain ⟨t, p, rfl, h1, h2⟩ := h1
    exact .cons ⟨t, p, rfl, by rw [upd_ne (ne h1)]; exact h1, by rw [upd_ne (ne h2)]; exact h2⟩ ih
theorem seq_upd {H : Hp} {D a : Addr} {o : HO} {xs : List V} (h : SqL K H a xs) (ne : a ≠ D) : SqL K (upd H D o) a xs := by
  rcases h with (h | ⟨o', h⟩) | h
  · exact .inl (.inl (by rw [upd_ne ne]; exact h))
  · exact .inl (.inr ⟨o', by rw [upd_ne ne]; exact h⟩)
  · exact .inr h
/-- what a list of entries asks -/
structure InEnts (K : PySem.W.Frag) (H : Hp) (a : Addr) (vs : List V) (es : List Ent) : Prop where
  l : SqL K H a vs
  e : Ents H vs es
  z : es.length < sizeLine
theorem InEnts.mono {H H' : Hp} {a : Addr} {vs : List V} {es : List Ent} (s : Same H H') (h : InEnts K H a vs es) : InEnts K H' a vs es := ⟨s.seq h.l, h.e.mono s, h.z⟩
def spGather (K : PySem.W.Frag) : Sp := fun vs H Q _ => ∃ (a : Addr) (xs : List V) (es : List Ent), vs = [.ref a] ∧ InEnts K H a xs es ∧ (∀ e ∈ es, e.1 ≠ []) ∧ wantRow H es Q
theorem c__law_row {f : Addr} {fd : FuncData} (D : C8.Def K mg "_law_row" s__law_row f fd) (b : Binds K fd ["_law_pairs"] []) (T : Bi mg) : C8.Cal P w K mg base 1 "_law_row" (spGather K) [] := by
  refine C8.cal0 D b .nil sc__law_row (fun vs H Q E h => ?_) (fun cdv A outer s H vs Q E hr h => ?_)
  · obtain ⟨a, xs, es, rfl, _⟩ := h
    rfl
  · obtain ⟨a, xs, es, rfl, hE, hne, q⟩ := h
    refine ⟨_, (pss_cons (ps_set (i := 1) sc__law_row.nd rfl (Or.inr rfl) pe_dnewT)
  (pss_cons (ps_for PassesOwn.never rfl (pi_list (pv 0)) (pg_tup rfl (pgs_cons (pg_name (i := 2) sc__law_row.nd rfl (Or.inl rfl)) (pgs_cons (pg_name (i := 3) sc__law_row.nd rfl (Or.inl rfl)) pgs_nil))) (pss_one (ps_dput (hu_of hr) (pv 1) (pv 2) (pe_op op_add (pe_dget2 (hu_of hr) (pv 1) (pv 2) pe_int ⟨rfl, rfl, rfl, rfl⟩) (pv 3)) rfl)))
  (pss_one (ps_ret (pe_lc (own := [("_law_place", 2)]) (g := (gName 2)) rfl sc__law_row.nd (pi_list (pe_callB (cr_sortedDT rfl) (by rfl) T.n_sorted OT.b_sorted (pa_cons (pv 1) pa_nil))) (blkOk_by (N := ["_law_pairs", "_law_sums", "_law_place", "_law_number"]) (sc := C8.fnScope s__law_row) (by decide +kernel)) (fun _ _ _ _ _ => (pg_name (i := 2) sc__law_row.nd rfl (Or.inl rfl))) (fun _ _ _ _ _ => (pts_one (pt_cmpR op_ne (pe_dget (hu_of hr) (pv 1) (pv 2) (fun _ _ => rfl)) pe_int (nomark _)))) (fun _ _ _ _ _ => (pe_tup (pa_cons (pv 2) (pa_cons (pe_dget (hu_of hr) (pv 1) (pv 2) (fun _ _ => rfl)) pa_nil))))))))), ?_⟩
    refine fun d nd => ?_
    have s1 : Same H (upd H d (.dT [])) := same_upd nd
    refine ⟨_, rfl, a, rfl, ⟨xs, s1.seq hE.l⟩, ?_⟩
    refine for_list (K := K) (xs := xs) (fun i σ H2 => ∃ (kvs : List (List Key × V)) (ks : List Pl) (y2 y3 : Option V), σ = [some (.ref a), some (.ref d), y2, y3] ∧ Same H H2 ∧ H2 d = some (.dT kvs) ∧ Sums kvs ks (numAt (es.take i)) ∧ (∀ k ∈ ks, k ≠ []) ∧ ks.length ≤ i) ?_ ?_ ?_ ?_
    · exact ⟨[], [], none, none, rfl, s1, upd_same, Sums.nil, fun k hk => (by cases hk), Nat.le_refl _⟩
    · rintro i σ H2 _ ⟨_, _, _, _, _, sm, _⟩
      exact sm.seq hE.l
    · rintro i x σ H2 hx ⟨kvs, ks, y2, y3, rfl, sm, hd, hs, hk, hl⟩
      obtain ⟨e, he, hv⟩ := (hE.e.mono sm).get hx
      obtain ⟨t, p, rfl, ht, hp⟩ := hv
      have hi := (List.getElem?_eq_some_iff.mp he).1
      have hm : e ∈ es := List.mem_of_getElem? he
      have hz := hE.z
      refine ⟨t, _, rfl, .inl (.inl ht), rfl, _, _, rfl, _, _, rfl, rfl, ?_⟩
      refine ⟨_, rfl, d, rfl, .inr ⟨kvs, .inl hd⟩, _, rfl, _, dgetT hd hp rfl, _, rfl, numAt (es.take i) e.1, e.2, hs.getD _, rfl, _, rfl, _, rfl, d, _, rfl, DPut.t hd (k := e.1.map Sum.inl) (by rw [kV_ints]; exact hp) ?_, ?_⟩
      · rw [hs.len]
        omega
      · exact ⟨_, _, _, _, rfl, same_mut sm nd, upd_same, hs.next he, put_keys_ne hk (hne e hm), put_keys_len hl⟩
    · rintro σ H2 ⟨kvs, ks, y2, y3, rfl, sm, hd, hs, hk, hl⟩
      have hz := hE.z
      have hlen := hE.e.len
      rw [hlen, List.take_length] at hs
      have hkz : ks.length < sizeLine := by omega
      refine ⟨_, rfl, d, kvs, ks, rfl, .inl hd, hs.keys, fun _ => hk, fun out p perm pw nod held np => ?_⟩
      refine ⟨p, rfl, ⟨_, .inl (.inl upd_same)⟩, fun D nD => ?_⟩
      have hpD : p ≠ D := ne_of_none upd_same nD
      obtain ⟨hDn, _⟩ := none_of_upd nD
      have hkd : ∀ x ∈ out, x.2 ∈ ks := fun x hx => perm.mem_iff.mp (List.mem_map_of_mem hx)
      refine lc_list (K := K) (a := p) (xs := out.map fun x => V.ref x.1) (fun i H3 => Same H2 H3 ∧ H3 p = some (.lst (out.map fun x => V.ref x.1)) ∧ ∃ ws, H3 D = some (.lst ws) ∧ Ents H3 ws (mkR (numAt es) ((out.take i).map (·.2)))) ?_ ?_ ?_ ?_
      · refine ⟨(same_upd np).trans (same_upd nD), ?_, [], upd_same, .nil⟩
        rw [upd_ne hpD, upd_same]
      · rintro i H3 _ ⟨_, hp, _⟩
        exact .inl (.inl hp)
      · rintro i x H3 hx ⟨sm3, hp, ws, hD, hE3⟩
        obtain ⟨hi, rfl⟩ := getm hx
        have hm := List.getElem_mem hi
        have hk3 := sm3 _ _ (held _ hm)
        have hv := hs.get (hkd _ hm)
        have hd2 := sm3 _ _ hd
        refine ⟨rfl, _, rfl, _, rfl, d, _, rfl, dgetT hd2 hk3 hv, ?_⟩
        refine ⟨rfl, _, rfl, ?_⟩
        have htk : (out.take (i + 1)).map (·.2) = (out.take i).map (·.2) ++ [out[i].2] := take_map_succ (·.2) hi
        rw [htk, mkR_snoc]
        refine iteND (fun hn => ?_) (fun h0 => ?_)
        · have hn0 : numAt es out[i].2 ≠ 0 := fun z => hn (by rw [z])
          rw [if_neg hn0]
          refine ⟨_, rfl, _, rfl, _, rfl, d, _, rfl, dgetT hd2 hk3 hv, (by show 2 ≤ sizeLine; decide), fun t nt => ?_⟩
          have ntD : D ≠ t := ne_of_none hD nt
          have smt : Same H3 (upd H3 t (.tup [.ref out[i].1, .int (numAt es out[i].2)])) := same_upd nt
          have hD3 := smt _ _ hD
          refine ⟨ws, hD3, ?_, same_mut (sm3.trans smt) hDn, ?_, ws ++ [.ref t], upd_same, ?_⟩
          · have h1 := hE3.len
            have h2 := mkR_len (numAt es) ((out.take i).map (·.2))
            have h3 := perm.length_eq
            rw [List.length_map] at h2 h3
            rw [List.length_take] at h2
            omega
          · rw [upd_ne hpD]
            exact smt _ _ hp
          · refine ((hE3.mono smt).updL hD3).app (.cons (EntAt.updL hD3 ⟨t, _, rfl, upd_same, ?_⟩) .nil)
            exact smt _ _ hk3
        · have h0' : numAt es out[i].2 = 0 := V.int.inj h0
          rw [if_pos h0', List.append_nil]
          exact ⟨sm3, hp, ws, hD, hE3⟩
      · rintro H3 ⟨sm3, hp, ws, hD, hE3⟩
        rw [List.length_map, List.take_length] at hE3
        refine q _ D ws H3 (row_sorted perm pw nod hs.out) (sm.trans sm3) ?_ hD hE3
        cases z : H D with
        | none => rfl
        | some o =>
          rw [sm _ _ z] at hDn
          cases hDn
end
end OT

set_option Elab.async false
set_option linter.all false
set_option maxRecDepth 100000
set_option maxHeartbeats 2000000
namespace OT
open PySem PySem.Spec PyProof.Rows L2
section
variable {P : Program} {w : World} {K : PySem.W.Frag} {mg : Str → Option Value} {base : Heap}
/-- a row of places of n coordinates -/
structure RowN (n : Nat) (r : List Ent) : Prop where
  v : Valid r
  n1 : 1 ≤ n
  n3 : n ≤ 3
  at_ : ∀ e ∈ r, e.1.length = n
theorem asc_get {r : List Ent} (h : Valid r) {i j : Nat} (hi : i < r.length) (hj : j < r.length) (hij : i < j) : HT.lexLt r[i].1 r[j].1 = true := List.pairwise_iff_getElem.mp h.asc i j hi hj hij
def spIsRow (K : PySem.W.Frag) : Sp := fun vs H Q _ => ∃ (a : Addr) (ws : List V) (r : List Ent) (n : Nat), vs = [.ref a] ∧ H a = some (.lst ws) ∧ Ents H ws r ∧ RowN n r ∧ r.length ≤ 100000 ∧ Q (.bl true) H
theorem c__law_is_row {f : Addr} {fd : FuncData} (D : C8.Def K mg "_law_is_row" s__law_is_row f fd) (b : Binds K fd ["_law_actual"] []) (T : Bi mg) (c__law_is_place : C8.Cal P w K mg base 2 "_law_is_place" (spIsPlace K) []) (c__law_is_integer : C8.Cal P w K mg base 1 "_law_is_integer" spIsInt []) :
    C8.Cal P w K mg base 3 "_law_is_row" (spIsRow K) [] := by
  refine C8.cal0 D b .nil sc__law_is_row (fun vs H Q E h => ?_) (fun cdv A outer s H vs Q E hr h => ?_)
  · obtain ⟨a, ws, r, n, rfl, _⟩ := h
    rfl
  · obtain ⟨a, ws, r, n, rfl, ha, hE, hN, hz, q⟩ := h
    have hS : SqL K H a ws := .inl (.inl ha)
    refine ⟨_, (pss_cons (ps_if (pt_not (pt_val (pe_callB call_isi (by rfl) T.n_isinstance OT.b_isinstance (pa_cons (pv 0) (pa_cons (pe_bltn (v := .ty "list") (by rfl) T.n_list OT.b_list rfl) pa_nil))))) (pss_one (ps_ret pe_bl)) pss_nil)
  (pss_cons (ps_for PassesOwn.never rfl (pi_range1 rfl T.n_range (pa_cons (pe_callB call_len_seq (by rfl) T.n_len OT.b_len (pa_cons (pv 0) pa_nil)) pa_nil)) (pg_name (i := 1) sc__law_is_row.nd rfl (Or.inl rfl)) (pss_cons (ps_set (i := 2) sc__law_is_row.nd rfl (Or.inl rfl) (pe_ix ix_list (pv 0) (pv 1) (fun _ _ => rfl)))
  (pss_cons (ps_if (PW.pt (pw_or (pt_not (pt_val (pe_callB call_isi (by rfl) T.n_isinstance OT.b_isinstance (pa_cons (pv 2) (pa_cons (pe_bltn (v := .ty "tuple") (by rfl) T.n_tuple OT.b_tuple rfl) pa_nil))))) (pw_or1 (pt_cmpR op_ne (pe_callB call_len_seq (by rfl) T.n_len OT.b_len (pa_cons (pv 2) pa_nil)) pe_int (nomark _))))) (pss_one (ps_ret pe_bl)) pss_nil)
  (pss_cons (ps_if (PW.pt (pw_or (pt_not (pt_val (C8.pe_c c__law_is_place hr (by decide) (by rfl) (pa_cons (pe_ix ix_tup (pv 2) pe_int (fun _ _ => rfl)) pa_nil)))) (pw_or (pt_not (pt_val (C8.pe_c c__law_is_integer hr (by decide) (by rfl) (pa_cons (pe_ix ix_tup (pv 2) pe_int (fun _ _ => rfl)) pa_nil)))) (pw_or1 (pt_cmpR op_eq (pe_ix ix_tup (pv 2) pe_int (fun _ _ => rfl)) pe_int (nomark _)))))) (pss_one (ps_ret pe_bl)) pss_nil)
  (pss_cons (ps_if (pt_cmpR op_ne (pe_callB call_len_seq (by rfl) T.n_len OT.b_len (pa_cons (pe_ix ix_tup (pv 2) pe_int (fun _ _ => rfl)) pa_nil)) (pe_callB call_len_seq (by rfl) T.n_len OT.b_len (pa_cons (pe_ix ix_tup (pe_ix ix_list (pv 0) pe_int (fun _ _ => rfl)) pe_int (fun _ _ => rfl)) pa_nil)) (nomark _)) (pss_one (ps_ret pe_bl)) pss_nil)
  (pss_one (ps_if (PW.pt (pw_and (pt_cmpR op_gt (pv 1) pe_int (nomark _)) (pw_and1 (pt_not (pt_cmpR (op_ltT hr.units0) (pe_ix ix_tup (pe_ix ix_list (pv 0) (pe_op op_sub (pv 1) pe_int) (fun _ _ => rfl)) pe_int (fun _ _ => rfl)) (pe_ix ix_tup (pv 2) pe_int (fun _ _ => rfl)) (nomark _)))))) (pss_one (ps_ret pe_bl)) pss_nil)))))))
  (pss_one (ps_ret pe_bl)))), ?_⟩
    refine ⟨_, rfl, _, _, _, _, _, rfl, .ty _, .base (.lst ha), kit_ty kb_ll, _, rfl, ?_⟩
    refine iteF ?_
    refine ⟨_, rfl, a, _, rfl, .inl hS, _, rfl, ?_, ?_, ?_⟩
    · omega
    · have h2 := hE.len
      have : (2 : Int) ^ 62 = 4611686018427387904 := by decide
      omega
    rw [Int.toNat_natCast, hE.len]
    refine for_range (fun i σ H2 => ∃ y1 y2, σ = [some (.ref a), y1, y2] ∧ H2 = H) ⟨none, none, rfl, rfl⟩ ?_ ?_
    · rintro i σ H2 hi ⟨y1, y2, rfl, rfl⟩
      obtain ⟨v, hv, t, p, rfl, ht, hp⟩ := hE.at hi
      obtain ⟨v0, hv0, t0, p0, rfl, ht0, hp0⟩ := hE.at (i := 0) (by omega)
      have hm := List.getElem_mem hi
      have hm0 := List.getElem_mem (show 0 < r.length by omega)
      have hT : SqT K H2 t [.ref p, .int r[i].2] := .inl (.inl ht)
      have hT0 : SqT K H2 t0 [.ref p0, .int (r[0]'(by omega)).2] := .inl (.inl ht0)
      have hP : SqT K H2 p (r[i].1.map V.int) := .inl (.inl hp)
      have hP0 : SqT K H2 p0 ((r[0]'(by omega)).1.map V.int) := .inl (.inl hp0)
      refine ⟨_, rfl, _, rfl, a, _, _, .ref t, rfl, rfl, hS, by rw [Int.zero_add]; exact atI_nat hv, ?_⟩
      refine ⟨_, rfl, _, _, _, _, _, rfl, .ty _, .base (.tup ht), kit_ty kb_tt, _, rfl, ?_⟩
      refine iteF ?_
      refine ⟨_, rfl, t, _, rfl, .inr hT, rfl, _, rfl, ?_⟩
      refine iteF ?_
      refine ⟨_, rfl, t, _, 0, _, rfl, rfl, hT, atI_nat (j := 0) rfl, p, _, rfl, hp, by rw [hN.at_ _ hm]; exact hN.n1, by rw [hN.at_ _ hm]; exact hN.n3, _, rfl, ?_⟩
      refine iteF ?_
      refine ⟨_, rfl, t, _, 1, _, rfl, rfl, hT, atI_nat (j := 1) rfl, _, rfl, _, rfl, ?_⟩
      refine iteF ?_
      refine ⟨_, rfl, t, _, 1, _, rfl, rfl, hT, atI_nat (j := 1) rfl, rfl, _, rfl, iteD (fun z => absurd (V.int.inj z) (hN.v.nz _ hm)) (fun _ => ?_)⟩
      refine ⟨_, rfl, t, _, 0, _, rfl, rfl, hT, atI_nat (j := 0) rfl, p, _, rfl, .inr hP, _, rfl, a, _, 0, _, rfl, rfl, hS, atI_nat (j := 0) hv0, t0, _, 0, _, rfl, rfl, hT0, atI_nat (j := 0) rfl, p0, _, rfl, .inr hP0, rfl, _, rfl, iteND (fun z => ?_) (fun _ => ?_)⟩
      · rw [List.length_map, List.length_map, hN.at_ _ hm, hN.at_ _ hm0] at z
        exact absurd rfl z
      refine ⟨_, rfl, _, _, rfl, rfl, _, rfl, iteD (fun hk => ?_) (fun _ => ?_)⟩
      · have hi1 : i - 1 < r.length := by omega
        obtain ⟨v1, hv1, t1, p1, rfl, ht1, hp1⟩ := hE.at (i := i - 1) hi1
        have hT1 : SqT K H2 t1 [.ref p1, .int (r[i - 1]'hi1).2] := .inl (.inl ht1)
        refine ⟨_, rfl, _, rfl, _, _, rfl, rfl, a, _, _, _, rfl, rfl, hS, ?_, t1, _, 0, _, rfl, rfl, hT1, atI_nat (j := 0) rfl, _, rfl, t, _, 0, _, rfl, rfl, hT, atI_nat (j := 0) rfl, p1, p, _, _, rfl, rfl, .inl (.inl hp1), hP, _, rfl, ?_⟩
        · rw [show (0 : Int) + (i : Int) - 1 = ((i - 1 : Nat) : Int) by omega]
          exact atI_nat hv1
        · rw [asc_get hN.v hi1 hi (by omega)]
          refine iteF ?_
          exact ⟨_, _, rfl, rfl⟩
      · exact ⟨_, _, rfl, rfl⟩
    · rintro σ H2 ⟨y1, y2, rfl, rfl⟩
      exact q
def spSame (K : PySem.W.Frag) : Sp := fun vs H Q _ => ∃ (a c : Addr) (ws us : List V) (r : List Ent) (n : Nat), vs = [.ref a, .ref c] ∧ H a = some (.lst ws) ∧ Ents H ws r ∧ H c = some (.lst us) ∧ Ents H us r ∧ RowN n r ∧ r.length ≤ 100000 ∧ Q (.bl true) H
theorem c__law_same {f : Addr} {fd : FuncData} (D : C8.Def K mg "_law_same" s__law_same f fd) (b : Binds K fd ["_law_actual", "_law_expected"] []) (T : Bi mg) (c__law_is_row : C8.Cal P w K mg base 3 "_law_is_row" (spIsRow K) []) :
    C8.Cal P w K mg base 4 "_law_same" (spSame K) [] := by
  refine C8.cal0 D b .nil sc__law_same (fun vs H Q E h => ?_) (fun cdv A outer s H vs Q E hr h => ?_)
  · obtain ⟨a, c, ws, us, r, n, rfl, _⟩ := h
    rfl
  · obtain ⟨a, c, ws, us, r, n, rfl, ha, hE, hc, hF, hN, hz, q⟩ := h
    refine ⟨_, (pss_one (ps_ret (pe_and (C8.pe_c c__law_is_row hr (by decide) (by rfl) (pa_cons (pv 0) pa_nil)) (pe_one (pe_cmpR (op_eqD hr.units) (pv 0) (pv 1) (nomark _)))))), ?_⟩
    refine ⟨_, rfl, a, ws, r, n, rfl, ha, hE, hN, hz, _, rfl, ?_⟩
    refine iteT ?_
    refine ⟨_, rfl, _, rfl, dRow r, dRow r, hE.dp (.inl (.inl ha)), hF.dp (.inl (.inl hc)), shaped_row r, shaped_row r, ?_⟩
    rw [SeqAt.eqv_refl _ (SeqAt.canLay_of_shaped (shaped_row r))]
    exact q
end
end OT

set_option Elab.async false
set_option linter.all false
set_option maxRecDepth 100000
set_option maxHeartbeats 2000000
namespace OT
open PySem PySem.Spec PyProof.Rows L2
/-! ### places -/
def plusP (k l : Pl) : Pl := List.zipWith (· + ·) k l
theorem plusP_len {k l : Pl} (h : k.length ≤ l.length) : (plusP k l).length = k.length := by
  unfold plusP
  rw [List.length_zipWith, Nat.min_eq_left h]
theorem plusP_get {k l : Pl} {i : Nat} (h : i < (plusP k l).length) (h1 : i < k.length) (h2 : i < l.length) : (plusP k l)[i] = k[i] + l[i] := by
  unfold plusP
  exact List.getElem_zipWith ..
theorem plusP_mem {k l : Pl} {x : Int} (h : x ∈ plusP k l) : ∃ a ∈ k, ∃ b ∈ l, x = a + b := by
  obtain ⟨i, hi, rfl⟩ := List.getElem_of_mem h
  have hk : i < k.length := by
    unfold plusP at hi
    rw [List.length_zipWith] at hi
    omega
  have hl : i < l.length := by
    unfold plusP at hi
    rw [List.length_zipWith] at hi
    omega
  exact ⟨_, List.getElem_mem hk, _, List.getElem_mem hl, plusP_get hi hk hl⟩
theorem plusP_lt : ∀ {a b l : Pl}, a.length ≤ l.length → b.length ≤ l.length → HT.lexLt (plusP a l) (plusP b l) = HT.lexLt a b
  | [], [], _, _, _ => rfl
  | [], _ :: _, _ :: _, _, _ => rfl
  | _ :: _, [], _ :: _, _, _ => rfl
  | x :: a, y :: b, z :: l, h1, h2 => by
    show (if x + z = y + z then HT.lexLt (plusP a l) (plusP b l) else decide (x + z < y + z)) = if x = y then HT.lexLt a b else decide (x < y)
    rw [plusP_lt (Nat.le_of_succ_le_succ h1) (Nat.le_of_succ_le_succ h2)]
    by_cases e : x = y
    · rw [if_pos e, if_pos (by rw [e])]
    · rw [if_neg e, if_neg (by omega)]
      by_cases h : x < y
      · rw [decide_eq_true h, decide_eq_true (by omega)]
      · rw [decide_eq_false h, decide_eq_false (by omega)]
def movL (es : List Ent) (l : Pl) : List Ent := es.map fun e => (plusP e.1 l, e.2)
theorem movL_valid {es : List Ent} {l : Pl} (h : Valid es) (hl : ∀ e ∈ es, e.1.length ≤ l.length) : Valid (movL es l) := by
  refine ⟨?_, fun e he => ?_⟩
  · unfold movL
    rw [List.pairwise_map]
    refine List.Pairwise.imp_of_mem (fun {x y} hx hy q => ?_) h.asc
    rw [plusP_lt (hl x hx) (hl y hy)]
    exact q
  · obtain ⟨x, hx, rfl⟩ := List.mem_map.mp he
    exact h.nz x hx
theorem numAt_bound {es : List Ent} {m : Nat} (h : ∀ e ∈ es, e.2.natAbs ≤ m) (q : Pl) : (numAt es q).natAbs ≤ es.length * m := by
  induction es with
  | nil => exact Nat.zero_le _
  | cons e r ih =>
    have h1 := h e List.mem_cons_self
    have h2 := ih fun x hx => h x (List.mem_cons_of_mem _ hx)
    show ((if e.1 = q then e.2 else 0) + numAt r q).natAbs ≤ (r.length + 1) * m
    rw [Nat.succ_mul]
    by_cases c : e.1 = q
    · rw [if_pos c]
      omega
    · rw [if_neg c]
      omega
theorem RowIs.bound {r es : List Ent} {m : Nat} (h : RowIs r es) (hb : ∀ e ∈ es, e.2.natAbs ≤ m) : ∀ e ∈ r, e.2.natAbs ≤ es.length * m := fun e he => by
  have h1 := h.v.at e he
  rw [h.s] at h1
  rw [← h1]
  exact numAt_bound hb _
/-- tuples of ints, in turn -/
inductive Pls (H : Hp) : List V → List Pl → Prop
  | nil : Pls H [] []
  | cons {p : Addr} {k : Pl} {vs : List V} {ks : List Pl} : H p = some (.tup (k.map V.int)) → Pls H vs ks → Pls H (.ref p :: vs) (k :: ks)
theorem Pls.len {H : Hp} {vs : List V} {ks : List Pl} (h : Pls H vs ks) : vs.length = ks.length := by
  induction h with
  | nil => rfl
  | cons _ _ ih => rw [List.length_cons, List.length_cons, ih]
theorem Pls.mono {H H' : Hp} {vs : List V} {ks : List Pl} (s : ∀ b o, H b = some o → H' b = some o) (h : Pls H vs ks) : Pls H' vs ks := by
  induction h with
  | nil => exact .nil
  | cons h1 _ ih => exact .cons (s _ _ h1) ih
theorem Pls.app {H : Hp} {vs ws : List V} {ks ls : List Pl} (h : Pls H vs ks) (g : Pls H ws ls) : Pls H (vs ++ ws) (ks ++ ls) := by
  induction h with
  | nil => exact g
  | cons h1 _ ih => exact .cons h1 ih
theorem Pls.updL {H : Hp} {D : Addr} {l l' : List V} {vs : List V} {ks : List Pl} (hD : H D = some (.lst l)) (h : Pls H vs ks) : Pls (upd H D (.lst l')) vs ks := by
  induction h with
  | nil => exact .nil
  | cons h1 _ ih => exact .cons (by rw [upd_ne (ne_lst h1 hD)]; exact h1) ih
theorem Pls.get {H : Hp} {vs : List V} {ks : List Pl} (h : Pls H vs ks) : ∀ {i : Nat} {v : V}, vs[i]? = some v → ∃ p k, v = .ref p ∧ ks[i]? = some k ∧ H p = some (.tup (k.map V.int)) := by
  induction h with
  | nil => intro i v h; simp at h
  | cons h1 _ ih =>
    intro i v hv
    cases i with
    | zero =>
      cases hv
      exact ⟨_, _, rfl, rfl, h1⟩
    | succ i => exact ih (i := i) hv
section
variable {P : Program} {w : World} {K : PySem.W.Frag} {mg : Str → Option Value} {base : Heap}
theorem small100k {n : Nat} (h : n ≤ 100000) : n < sizeLine := Nat.lt_of_le_of_lt h (by decide)
theorem b62 {n : Nat} (h : n ≤ 100000) : (n : Int) < 2 ^ 62 := by
  have : (2 : Int) ^ 62 = 4611686018427387904 := by decide
  omega
def spPlus (K : PySem.W.Frag) : Sp := fun vs H Q _ => ∃ (a b : Addr) (k l : Pl), vs = [.ref a, .ref b] ∧ SqT K H a (k.map V.int) ∧ SqT K H b (l.map V.int) ∧ k.length ≤ l.length ∧ k.length ≤ 1000 ∧ ∀ p H', Same H H' → H' p = some (.tup ((plusP k l).map V.int)) → Q (.ref p) H'
theorem c__law_plus {f : Addr} {fd : FuncData} (D : C8.Def K mg "_law_plus" s__law_plus f fd) (b : Binds K fd ["_law_place", "_law_other"] []) (T : Bi mg) : C8.Cal P w K mg base 1 "_law_plus" (spPlus K) [] := by
  refine C8.cal0 D b .nil sc__law_plus (fun vs H Q E h => ?_) (fun cdv A outer s H vs Q E hr h => ?_)
  · obtain ⟨a, b, k, l, rfl, _⟩ := h
    rfl
  · obtain ⟨a, b, k, l, rfl, hk, hl, hkl, hz, q⟩ := h
    refine ⟨_, (pss_one (ps_ret (pe_callTy call_tuple_of (by rfl) T.n_tuple OT.b_tuple (pa_cons (pe_lc (own := [("_law_k", 2)]) (g := (gName 2)) (tt := tYes) rfl sc__law_plus.nd (pi_range1 rfl T.n_range (pa_cons (pe_callB call_len_seq (by rfl) T.n_len OT.b_len (pa_cons (pv 0) pa_nil)) pa_nil)) (blkOk_by (N := ["_law_place", "_law_other", "_law_k"]) (sc := C8.fnScope s__law_plus) (by decide +kernel)) (fun _ _ _ _ _ => (pg_name (i := 2) sc__law_plus.nd rfl (Or.inl rfl))) (fun _ _ _ _ _ => pts_nil) (fun _ _ _ _ _ => (pe_op op_add (pe_ix (show IxR _ (rIxT K) from ix_tup) (pv 0) (pv 2) (fun _ _ => rfl)) (pe_ix (show IxR _ (rIxT K) from ix_tup) (pv 1) (pv 2) (fun _ _ => rfl))))) pa_nil)))), ?_⟩
    have hpl := plusP_len hkl
    refine ⟨_, rfl, a, _, rfl, .inr hk, _, rfl, by omega, b62 (by rw [List.length_map]; omega), fun p np => ?_⟩
    rw [List.length_map, Int.toNat_natCast]
    refine lc_range (lo := 0) (n := k.length) (fun i H2 => Same H H2 ∧ H2 p = some (.lst (((plusP k l).take i).map V.int))) ⟨same_upd np, upd_same⟩ ?_ ?_
    · rintro i H2 hi ⟨sm, hp⟩
      have hil : i < l.length := by omega
      have hip : i < (plusP k l).length := by omega
      have gk : atI (k.map V.int) ((0 : Int) + (i : Int)) = some (.int k[i]) := by
        rw [Int.zero_add]
        exact atI_nat (by rw [List.getElem?_map, List.getElem?_eq_getElem hi]; rfl)
      have gl : atI (l.map V.int) ((0 : Int) + (i : Int)) = some (.int l[i]) := by
        rw [Int.zero_add]
        exact atI_nat (by rw [List.getElem?_map, List.getElem?_eq_getElem hil]; rfl)
      refine ⟨rfl, tYes_of ?_⟩
      refine ⟨_, rfl, _, rfl, a, _, _, _, rfl, rfl, same_t sm hk, gk, _, rfl, _, rfl, b, _, _, _, rfl, rfl, same_t sm hl, gl, _, _, rfl, rfl, _, hp, ?_, same_mut sm np, ?_⟩
      · rw [List.length_map, List.length_take]
        exact small1000 (by omega)
      · rw [upd_same, take_map_succ V.int hip, plusP_get hip hi hil]
    · rintro H2 ⟨sm, hp⟩
      rw [← hpl, List.take_length] at hp
      exact ⟨p, _, rfl, .inl ⟨.inl (.inl hp), fun t nt => q t _ (sm.trans (same_upd nt)) upd_same⟩⟩
def spMoved (K : PySem.W.Frag) : Sp := fun vs H Q _ => ∃ (a b : Addr) (xs : List V) (es : List Ent) (l : Pl), vs = [.ref a, .ref b] ∧ InEnts K H a xs es ∧ SqT K H b (l.map V.int) ∧ (∀ e ∈ es, e.1.length ≤ l.length) ∧ l.length ≤ 1000 ∧
  ∀ p ws H', Same H H' → H p = none → H' p = some (.lst ws) → Ents H' ws (movL es l) → Q (.ref p) H'
theorem c__law_moved {f : Addr} {fd : FuncData} (D : C8.Def K mg "_law_moved" s__law_moved f fd) (b : Binds K fd ["_law_row_here", "_law_by"] []) (T : Bi mg) (c__law_plus : C8.Cal P w K mg base 1 "_law_plus" (spPlus K) []) : C8.Cal P w K mg base 2 "_law_moved" (spMoved K) [] := by
  refine C8.cal0 D b .nil sc__law_moved (fun vs H Q E h => ?_) (fun cdv A outer s H vs Q E hr h => ?_)
  · obtain ⟨a, b, xs, es, l, rfl, _⟩ := h
    rfl
  · obtain ⟨a, b, xs, es, l, rfl, hE, hl, hle, hz, q⟩ := h
    refine ⟨_, (pss_one (ps_ret (pe_lc (own := [("_law_entry", 2)]) (g := (gName 2)) (tt := tYes) rfl sc__law_moved.nd (pi_list (pv 0)) (blkOk_by (N := ["_law_row_here", "_law_by", "_law_entry"]) (sc := C8.fnScope s__law_moved) (by decide +kernel)) (fun _ _ _ _ _ => (pg_name (i := 2) sc__law_moved.nd rfl (Or.inl rfl))) (fun _ _ _ _ _ => pts_nil) (fun _ _ _ _ _ => (pe_tup (pa_cons (C8.pe_c c__law_plus hr (by decide) (by rfl) (pa_cons (pe_ix (show IxR _ (rIxT K) from ix_tup) (pv 2) pe_int (fun _ _ => rfl)) (pa_cons (pv 1) pa_nil))) (pa_cons (pe_ix (show IxR _ (rIxT K) from ix_tup) (pv 2) pe_int (fun _ _ => rfl)) pa_nil))))))), ?_⟩
    have hx := hE.e.len
    have hez := hE.z
    refine ⟨_, rfl, a, rfl, ⟨_, hE.l⟩, fun p np => ?_⟩
    refine lc_list (K := K) (xs := xs) (fun i H2 => Same H H2 ∧ ∃ ws, H2 p = some (.lst ws) ∧ Ents H2 ws (movL (es.take i) l)) ?_ ?_ ?_ ?_
    · exact ⟨same_upd np, [], upd_same, .nil⟩
    · rintro i H2 _ ⟨sm, _⟩
      exact sm.seq hE.l
    · rintro i x H2 hxi ⟨sm, ws, hp, hW⟩
      obtain ⟨e, he, t, pe, rfl, ht, hpe⟩ := (hE.e.mono sm).get hxi
      obtain ⟨hi, hee⟩ := List.getElem?_eq_some_iff.mp he
      have hm := List.mem_of_getElem? he
      have hT : SqT K H2 t [.ref pe, .int e.2] := .inl (.inl ht)
      refine ⟨rfl, tYes_of ?_⟩
      refine ⟨_, rfl, t, _, 0, _, rfl, rfl, hT, atI_nat (j := 0) rfl, _, rfl, pe, b, e.1, l, rfl, .inl (.inl hpe), same_t sm hl, hle e hm, Nat.le_trans (hle e hm) hz, fun p3 H3 sm3 hp3 => ?_⟩
      refine ⟨_, rfl, t, _, 1, _, rfl, rfl, same_t sm3 hT, atI_nat (j := 1) rfl, (by show 2 ≤ sizeLine; decide), fun t4 nt4 => ?_⟩
      have sm4 : Same H3 (upd H3 t4 (.tup [.ref p3, .int e.2])) := same_upd nt4
      have smA := sm3.trans sm4
      have hv : EntAt (upd H3 t4 (.tup [.ref p3, .int e.2])) (.ref t4) (plusP e.1 l, e.2) := ⟨t4, p3, rfl, upd_same, sm4 _ _ hp3⟩
      have hD := smA _ _ hp
      have hwl := hW.len
      refine ⟨ws, hD, ?_, same_mut (sm.trans smA) np, ws ++ [.ref t4], upd_same, ?_⟩
      · unfold movL at hwl
        rw [List.length_map, List.length_take] at hwl
        omega
      · have ht1 : es.take (i + 1) = es.take i ++ [e] := by
          rw [List.take_add_one, he]
          rfl
        unfold movL
        rw [ht1, List.map_append]
        exact ((hW.mono smA).app (.cons hv .nil)).updL hD
    · rintro H2 ⟨sm, ws, hp, hW⟩
      rw [hx, List.take_length] at hW
      exact q p ws H2 sm np hp hW
def spBox (K : PySem.W.Frag) : Sp := fun vs H Q _ => ∃ (k u : Nat), vs = [.int (k : Int), .int (u : Int)] ∧ k < 3 ∧ ∀ p (bs : List Nat) H', (bs = [u] ∨ bs = [u, 2] ∨ bs = [2, 2, 2]) → bs.length = k + 1 → Same H H' → H' p = some (.lst (bs.map fun (n : Nat) => V.int n)) → Q (.ref p) H'
theorem c__law_box {f : Addr} {fd : FuncData} (D : C8.Def K mg "_law_box" s__law_box f fd) (b : Binds K fd ["_law_kind", "_law_wide"] []) (T : Bi mg) : C8.Cal P w K mg base 1 "_law_box" (spBox K) [] := by
  refine C8.cal0 D b .nil sc__law_box (fun vs H Q E h => ?_) (fun cdv A outer s H vs Q E hr h => ?_)
  · obtain ⟨k, u, rfl, _⟩ := h
    rfl
  · obtain ⟨k, u, rfl, hk, q⟩ := h
    refine ⟨_, (pss_cons (ps_if (pt_cmpR op_eq (pv 0) pe_int (nomark _)) (pss_one (ps_ret (pe_lst (pa_cons (pv 1) pa_nil)))) pss_nil)
  (pss_cons (ps_if (pt_cmpR op_eq (pv 0) pe_int (nomark _)) (pss_one (ps_ret (pe_lst (pa_cons (pv 1) (pa_cons pe_int pa_nil))))) pss_nil)
  (pss_one (ps_ret (pe_lst (pa_cons pe_int (pa_cons pe_int (pa_cons pe_int pa_nil)))))))), ?_⟩
    refine ⟨_, rfl, rfl, _, rfl, iteD (fun h => ?_) (fun h => ?_)⟩
    · refine ⟨_, rfl, (by show 1 ≤ sizeLine; decide), fun p np => ?_⟩
      have h0 := V.int.inj h
      exact q p [u] _ (.inl rfl) (by show 1 = k + 1; omega) (same_upd np) upd_same
    · refine ⟨_, rfl, rfl, _, rfl, iteD (fun h2 => ?_) (fun h2 => ?_)⟩
      · refine ⟨_, rfl, (by show 2 ≤ sizeLine; decide), fun p np => ?_⟩
        have h0 := V.int.inj h2
        exact q p [u, 2] _ (.inr (.inl rfl)) (by show 2 = k + 1; omega) (same_upd np) upd_same
      · refine ⟨(by show 3 ≤ sizeLine; decide), fun p np => ?_⟩
        have h0 : k ≠ 0 := fun e => h (by rw [e]; rfl)
        have h1 : k ≠ 1 := fun e => h2 (by rw [e]; rfl)
        exact q p [2, 2, 2] _ (.inr (.inr rfl)) (by show 3 = k + 1; omega) (same_upd np) upd_same
end
end OT

set_option Elab.async false
set_option linter.all false
set_option maxRecDepth 100000
set_option maxHeartbeats 2000000
namespace OT
open PySem PySem.Spec PyProof.Rows L2
theorem InR.get {ds zs : List Int} (h : InR ds zs) {i : Nat} {z : Int} (hz : zs[i]? = some z) : ∃ d, (ds.map V.int)[i]? = some (.int d) ∧ 0 ≤ d ∧ d < z := by
  have hi : i < ds.length := by
    rw [h.1]
    exact (List.getElem?_eq_some_iff.mp hz).1
  have e : ds[i]? = some ds[i] := List.getElem?_eq_getElem hi
  exact ⟨ds[i], by rw [List.getElem?_map, e]; rfl, h.2 i _ z e hz⟩
theorem ixN_nat {n j : Nat} (h : j < n) : ixN n (j : Int) = some j := by
  unfold ixN
  rw [if_pos (by omega), if_pos (by omega), Int.toNat_natCast]
theorem mod_nat {n : Nat} (h : 0 < n) (z : Int) : ∃ j : Nat, z % (n : Int) = (j : Int) ∧ j < n := by
  have h0 : 0 ≤ z % (n : Int) := Int.emod_nonneg _ (by omega)
  have h1 : z % (n : Int) < n := Int.emod_lt_of_pos _ (by omega)
  obtain ⟨j, hj⟩ := Int.eq_ofNat_of_zero_le h0
  exact ⟨j, hj, by omega⟩
/-- how many places a box has -/
def pr (bs : List Nat) : Nat := bs.foldl (· * ·) 1
theorem pr_snoc (bs : List Nat) (n : Nat) : pr (bs ++ [n]) = pr bs * n := by
  unfold pr
  rw [List.foldl_append]
  rfl
theorem pr_take {bs : List Nat} {i : Nat} (h : i < bs.length) : pr (bs.take (i + 1)) = pr (bs.take i) * bs[i] := by
  rw [List.take_add_one, List.getElem?_eq_getElem h]
  exact pr_snoc _ _
structure PlaceN (n : Nat) (ks : List Pl) : Prop where
  l : ∀ k ∈ ks, k.length = n
  c : ∀ k ∈ ks, ∀ x ∈ k, 0 ≤ x ∧ x < 8
theorem PlaceN.push {n : Nat} {ks : List Pl} {k : Pl} {m : Nat} (h : PlaceN (n + 1) ks) (hl : k.length = n) (hc : ∀ x ∈ k, 0 ≤ x ∧ x < 8) (hm : m < 8) : PlaceN (n + 1) (ks ++ [k ++ [(m : Int)]]) := by
  constructor
  · intro y hy
    rcases List.mem_append.mp hy with hy | hy
    · exact h.l y hy
    · rw [List.mem_singleton.mp hy, List.length_append, hl]
      rfl
  · intro y hy x hx
    rcases List.mem_append.mp hy with hy | hy
    · exact h.c y hy x hx
    · rw [List.mem_singleton.mp hy] at hx
      rcases List.mem_append.mp hx with hx | hx
      · exact hc x hx
      · rw [List.mem_singleton.mp hx]
        omega
section
variable {P : Program} {w : World} {K : PySem.W.Frag} {mg : Str → Option Value} {base : Heap}
/-- a box that is small -/
structure BoxOk (bs : List Nat) : Prop where
  n : bs.length ≤ 3
  w : ∀ n ∈ bs, n ≤ 8
  p : ∀ i, pr (bs.take i) ≤ 1000
def spPlaces (K : PySem.W.Frag) : Sp := fun vs H Q _ => ∃ (b : Addr) (bs : List Nat), vs = [.ref b] ∧ SqL K H b (bs.map fun (n : Nat) => V.int n) ∧ BoxOk bs ∧
  ∀ p ws ks H', Same H H' → H' p = some (.lst ws) → Pls H' ws ks → ks.length = pr bs → PlaceN bs.length ks → Q (.ref p) H'
theorem c__law_places {f : Addr} {fd : FuncData} (D : C8.Def K mg "_law_places" s__law_places f fd) (b : Binds K fd ["_law_box_here"] []) (T : Bi mg) : C8.Cal P w K mg base 1 "_law_places" (spPlaces K) [] := by
  refine C8.cal0 D b .nil sc__law_places (fun vs H Q E h => ?_) (fun cdv A outer s H vs Q E hr h => ?_)
  · obtain ⟨b, bs, rfl, _⟩ := h
    rfl
  · obtain ⟨b, bs, rfl, hB, ok, q⟩ := h
    refine ⟨_, (pss_cons (ps_set (i := 1) sc__law_places.nd rfl (Or.inl rfl) (pe_lst (pa_cons (pe_tup pa_nil) pa_nil)))
  (pss_cons (ps_for PassesOwn.never rfl (pi_list (pv 0)) (pg_name (i := 2) sc__law_places.nd rfl (Or.inl rfl)) (pss_cons (ps_set (i := 3) sc__law_places.nd rfl (Or.inl rfl) (pe_lst pa_nil))
  (pss_cons (ps_for PassesOwn.never rfl (pi_list (pe_callTy call_list_of (by rfl) T.n_list OT.b_list (pa_cons (pv 1) pa_nil))) (pg_name (i := 4) sc__law_places.nd rfl (Or.inl rfl)) (pss_one (ps_for PassesOwn.never rfl (pi_range1 rfl T.n_range (pa_cons (pv 2) pa_nil)) (pg_name (i := 5) sc__law_places.nd rfl (Or.inl rfl)) (pss_one (ps_expr (pe_bm PySem.F.plainAttrs_list PySem.F.slot_list_append PySem.F.type_list_append mt_append (pv 3) (pa_cons (pe_op op_catA (pv 4) (pe_tup (pa_cons (pv 5) pa_nil))) pa_nil)))))))
  (pss_one (ps_set (i := 1) sc__law_places.nd rfl (Or.inl rfl) (pv 3))))))
  (pss_one (ps_ret (pv 1))))), ?_⟩
    refine ⟨(by show 0 ≤ sizeLine; decide), fun t0 nt0 => ⟨(by show 1 ≤ sizeLine; decide), fun p0 np0 => ?_⟩⟩
    have s0 : Same H (upd H t0 (.tup [])) := same_upd nt0
    have s1 : Same (upd H t0 (.tup [])) (upd (upd H t0 (.tup [])) p0 (.lst [.ref t0])) := same_upd np0
    refine ⟨_, rfl, b, rfl, ⟨_, (s0.trans s1).seq hB⟩, ?_⟩
    refine for_list (K := K) (xs := bs.map fun (n : Nat) => V.int n) (fun i σ H2 => ∃ (p : Addr) (ws : List V) (ks : List Pl) (y2 y3 y4 y5 : Option V), σ = [some (.ref b), some (.ref p), y2, y3, y4, y5] ∧ Same H H2 ∧ H2 p = some (.lst ws) ∧ Pls H2 ws ks ∧ ks.length = pr (bs.take i) ∧ PlaceN i ks) ?_ ?_ ?_ ?_
    · refine ⟨p0, _, [[]], none, none, none, none, rfl, s0.trans s1, upd_same, .cons (s1 _ _ upd_same) .nil, rfl, ⟨fun k hk => ?_, fun k hk x hx => ?_⟩⟩
      · rw [List.mem_singleton.mp hk]
        rfl
      · rw [List.mem_singleton.mp hk] at hx
        cases hx
    · rintro i σ H2 _ ⟨_, _, _, _, _, _, _, _, sm, _⟩
      exact sm.seq hB
    · rintro i x σ H2 hx ⟨p, ws, ks, y2, y3, y4, y5, rfl, sm, hp, hW, hkl, hN⟩
      obtain ⟨hi, rfl⟩ := getm hx
      have hwi := ok.w _ (List.getElem_mem hi)
      have hpi := ok.p i
      have hpi1 := ok.p (i + 1)
      rw [pr_take hi] at hpi1
      generalize hbn : bs[i] = n at hwi hpi1 ⊢
      rw [← hkl] at hpi hpi1
      have hwl := hW.len
      refine ⟨Nat.zero_le _, fun D nD => ?_⟩
      have s2 : Same H2 (upd H2 D (.lst [])) := same_upd nD
      refine ⟨_, rfl, p, _, rfl, .inl (.inl (.inl (s2 _ _ hp))), fun l nl => ?_⟩
      have s3 : Same (upd H2 D (.lst [])) (upd (upd H2 D (.lst [])) l (.lst ws)) := same_upd nl
      refine ⟨l, rfl, ⟨_, .inl (.inl upd_same)⟩, ?_⟩
      have nDl : D ≠ l := ne_of_none upd_same nl
      refine for_list (K := K) (a := l) (xs := ws) (fun j σ H3 => ∃ (us : List V) (ls : List Pl) (z4 z5 : Option V), σ = [some (.ref b), some (.ref p), some (.int (n : Int)), some (.ref D), z4, z5] ∧ Same H2 H3 ∧ H3 l = some (.lst ws) ∧ H3 D = some (.lst us) ∧ Pls H3 us ls ∧ ls.length = j * n ∧ PlaceN (i + 1) ls) ?_ ?_ ?_ ?_
      · exact ⟨[], [], y4, y5, rfl, s2.trans s3, upd_same, s3 _ _ upd_same, .nil, by rw [Nat.zero_mul]; rfl, ⟨fun k hk => (by cases hk), fun k hk => (by cases hk)⟩⟩
      · rintro j σ H3 _ ⟨_, _, _, _, _, _, hl, _⟩
        exact .inl (.inl hl)
      · rintro j x σ H3 hxj ⟨us, ls, z4, z5, rfl, sm3, hl, hD, hU, hll, hN3⟩
        obtain ⟨a, k, rfl, hkk, hak⟩ := (hW.mono sm3).get hxj
        have hj := (List.getElem?_eq_some_iff.mp hkk).1
        have hkm := List.mem_of_getElem? hkk
        have hjn : (j + 1) * n ≤ ks.length * n := Nat.mul_le_mul_right _ hj
        rw [Nat.succ_mul] at hjn
        refine ⟨_, rfl, _, rfl, by omega, b62 (by omega), ?_⟩
        rw [Int.toNat_natCast]
        refine for_range (lo := 0) (n := n) (fun m σ H4 => ∃ (us : List V) (ls : List Pl) (z5 : Option V), σ = [some (.ref b), some (.ref p), some (.int (n : Int)), some (.ref D), some (.ref a), z5] ∧ Same H2 H4 ∧ H4 l = some (.lst ws) ∧ H4 D = some (.lst us) ∧ Pls H4 us ls ∧ ls.length = j * n + m ∧ PlaceN (i + 1) ls) ⟨us, ls, z5, rfl, sm3, hl, hD, hU, hll, hN3⟩ ?_ ?_
        · rintro m σ H4 hm ⟨us, ls, z5, rfl, sm4, hl4, hD4, hU4, hll4, hN4⟩
          have hak4 : H4 a = some (.tup (k.map V.int)) := by
            obtain ⟨a2, k2, e1, e2, e3⟩ := (hW.mono sm4).get hxj
            cases e1
            rw [hkk] at e2
            cases e2
            exact e3
          have hul := hU4.len
          have nl4 : ∀ {o : HO}, upd H4 D o l = H4 l := fun {o} => upd_ne (Ne.symm nDl)
          refine ⟨_, rfl, .inl ⟨rfl, _, .inl (.inl hD4)⟩, _, rfl, _, rfl, (by show 1 ≤ sizeLine; decide), fun t nt => ?_⟩
          have sm5 : Same H4 (upd H4 t (.tup [.int ((0 : Int) + (m : Int))])) := same_upd nt
          have hN5 := hN4.push (hN.l k hkm) (hN.c k hkm) (show m < 8 by omega)
          have hlen5 : (ls ++ [k ++ [(m : Int)]]).length = j * n + (m + 1) := by
            rw [List.length_append, hll4]
            rfl
          refine ⟨a, t, _, _, rfl, rfl, .inl (.inl (sm5 _ _ hak4)), .inl (.inl upd_same), ?_, fun h0 => ?_, fun _ h => (by cases h), fun _ _ u nu => ?_⟩
          · rw [List.length_map, hN.l k hkm]
            exact Nat.le_of_lt (small1000 (by show i + 1 ≤ 1000; have := ok.n; omega))
          · have hk0 : k = [] := List.map_eq_nil_iff.mp h0
            have hD5 := sm5 _ _ hD4
            refine ⟨D, us, _, rfl, rfl, hD5, small100k (by omega), ?_⟩
            refine ⟨us ++ [.ref t], ls ++ [k ++ [(m : Int)]], _, rfl, same_mut (sm4.trans sm5) nD, ?_, upd_same, ((hU4.mono sm5).app (.cons ?_ .nil)).updL hD5, hlen5, hN5⟩
            · rw [upd_ne (Ne.symm nDl)]
              exact sm5 _ _ hl4
            · rw [upd_same, hk0, Int.zero_add]
              rfl
          · have sm6 : Same (upd H4 t (.tup [.int ((0 : Int) + (m : Int))])) (upd (upd H4 t (.tup [.int ((0 : Int) + (m : Int))])) u (.tup (k.map V.int ++ [.int ((0 : Int) + (m : Int))]))) := same_upd nu
            have sm7 := sm5.trans sm6
            have hD5 := sm7 _ _ hD4
            refine ⟨D, us, _, rfl, rfl, hD5, small100k (by omega), ?_⟩
            refine ⟨us ++ [.ref u], ls ++ [k ++ [(m : Int)]], _, rfl, same_mut (sm4.trans sm7) nD, ?_, upd_same, ((hU4.mono sm7).app (.cons ?_ .nil)).updL hD5, hlen5, hN5⟩
            · rw [upd_ne (Ne.symm nDl)]
              exact sm7 _ _ hl4
            · rw [upd_same, List.map_append, Int.zero_add]
              rfl
        · rintro σ H4 ⟨us, ls, z5, rfl, sm4, hl4, hD4, hU4, hll4, hN4⟩
          exact ⟨us, ls, _, _, rfl, sm4, hl4, hD4, hU4, by rw [hll4, Nat.succ_mul], hN4⟩
      · rintro σ H3 ⟨us, ls, z4, z5, rfl, sm3, hl, hD, hU, hll, hN3⟩
        refine ⟨_, rfl, D, us, ls, _, _, _, _, rfl, sm.trans sm3, hD, hU, ?_, hN3⟩
        rw [hll, hwl, hkl, pr_take hi, hbn]
    · rintro σ H2 ⟨p, ws, ks, y2, y3, y4, y5, rfl, sm, hp, hW, hkl, hN⟩
      rw [List.length_map] at hkl hN
      rw [List.take_length] at hkl
      exact ⟨_, rfl, q p ws ks H2 sm hp hW hkl hN⟩
end
end OT

set_option Elab.async false
set_option linter.all false
set_option maxRecDepth 100000
set_option maxHeartbeats 2000000
namespace OT
open PySem PySem.Spec PyProof.Rows L2
/-- a row that is drawn: at most m places of n coordinates -/
structure DrawnR (n m c u : Nat) (r : List Ent) : Prop where
  v : Valid r
  m : r.length ≤ m
  n : ∀ e ∈ r, e.1.length = n
  c : ∀ e ∈ r, ∀ x ∈ e.1, x.natAbs ≤ c
  u : ∀ e ∈ r, e.2.natAbs ≤ u
section
variable {P : Program} {w : World} {K : PySem.W.Frag} {mg : Str → Option Value} {base : Heap}
def spDrawn (K : PySem.W.Frag) : Sp := fun vs H Q _ => ∃ (c : Int) (b : Addr) (bs : List Nat) (rc mv : Nat), vs = [.int c, .ref b, .int (rc : Int), .int (mv : Int)] ∧ SqL K H b (bs.map fun (n : Nat) => V.int n) ∧ BoxOk bs ∧ 1 ≤ bs.length ∧ pr bs ≤ 900 ∧ rc ≤ 1000 ∧ mv ≤ 100000 ∧
  ∀ p ws r H', Same H H' → H p = none → H' p = some (.lst ws) → Ents H' ws r → DrawnR bs.length (pr bs) (8 + mv) (pr bs * rc) r → Q (.ref p) H'
theorem rep_get {n : Nat} {z : Int} {i : Nat} (h : i < n) (ys : List Int) : (List.replicate n z ++ ys)[i]? = some z := by
  rw [List.getElem?_append_left (by rw [List.length_replicate]; exact h), List.getElem?_replicate, if_pos h]
theorem rep_get2 {n m : Nat} {y z : Int} {i : Nat} (h : i < m) : (List.replicate n y ++ List.replicate m z)[n + i]? = some z := by
  rw [List.getElem?_append_right (by rw [List.length_replicate]; exact Nat.le_add_right _ _), List.length_replicate, Nat.add_sub_cancel_left, List.getElem?_replicate, if_pos h]
theorem c__law_drawn {f : Addr} {fd : FuncData} (D : C8.Def K mg "_law_drawn" s__law_drawn f fd) (b : Binds K fd ["_law_cell_here", "_law_box_here", "_law_reach", "_law_moves"] []) (T : Bi mg) (c__law_places : C8.Cal P w K mg base 1 "_law_places" (spPlaces K) []) (c__law_draws : C8.Cal P w K mg base 1 "_law_draws" (spDraws K) [])
    (c__law_row : C8.Cal P w K mg base 1 "_law_row" (spGather K) []) (c__law_moved : C8.Cal P w K mg base 2 "_law_moved" (spMoved K) []) : C8.Cal P w K mg base 3 "_law_drawn" (spDrawn K) [] := by
  refine C8.cal0 D b .nil sc__law_drawn (fun vs H Q E h => ?_) (fun cdv A outer s H vs Q E hr h => ?_)
  · obtain ⟨c, b, bs, rc, mv, rfl, _⟩ := h
    rfl
  · obtain ⟨c, b, bs, rc, mv, rfl, hB, ok, hb1, hpr, hrc, hmv, q⟩ := h
    refine ⟨_, (pss_cons (ps_set (i := 4) sc__law_drawn.nd rfl (Or.inr rfl) (C8.pe_c c__law_places hr (by decide) (by rfl) (pa_cons (pv 1) pa_nil)))
  (pss_cons (ps_set (i := 5) sc__law_drawn.nd rfl (Or.inr rfl) (C8.pe_c c__law_draws hr (by decide) (by rfl) (pa_cons (pv 0) (pa_cons (pe_op op_cat (pe_lc (own := [("_law_k", 7)]) (g := (gName 7)) (tt := tYes) rfl sc__law_drawn.nd (pi_list (pv 4)) (blkOk_by (N := ["_law_cell_here", "_law_box_here", "_law_reach", "_law_moves", "_law_places_here", "_law_draws_here", "_law_by", "_law_k"]) (sc := C8.fnScope s__law_drawn) (by decide +kernel)) (fun _ _ _ _ _ => (pg_name (i := 7) sc__law_drawn.nd rfl (Or.inl rfl))) (fun _ _ _ _ _ => pts_nil) (fun _ _ _ _ _ => (pe_op op_add (pe_op op_mul pe_int (pv 2)) pe_int))) (pe_lc (own := [("_law_k", 7)]) (g := (gName 7)) (tt := tYes) rfl sc__law_drawn.nd (pi_list (pv 1)) (blkOk_by (N := ["_law_cell_here", "_law_box_here", "_law_reach", "_law_moves", "_law_places_here", "_law_draws_here", "_law_by", "_law_k"]) (sc := C8.fnScope s__law_drawn) (by decide +kernel)) (fun _ _ _ _ _ => (pg_name (i := 7) sc__law_drawn.nd rfl (Or.inl rfl))) (fun _ _ _ _ _ => pts_nil) (fun _ _ _ _ _ => (pe_op op_add (pe_op op_mul pe_int (pv 3)) pe_int)))) pa_nil))))
  (pss_cons (ps_set (i := 6) sc__law_drawn.nd rfl (Or.inl rfl) (pe_callTy call_tuple_of (by rfl) T.n_tuple OT.b_tuple (pa_cons (pe_lc (own := [("_law_k", 7)]) (g := (gName 7)) (tt := tYes) rfl sc__law_drawn.nd (pi_range1 rfl T.n_range (pa_cons (pe_callB call_len_seq (by rfl) T.n_len OT.b_len (pa_cons (pv 1) pa_nil)) pa_nil)) (blkOk_by (N := ["_law_cell_here", "_law_box_here", "_law_reach", "_law_moves", "_law_places_here", "_law_draws_here", "_law_by", "_law_k"]) (sc := C8.fnScope s__law_drawn) (by decide +kernel)) (fun _ _ _ _ _ => (pg_name (i := 7) sc__law_drawn.nd rfl (Or.inl rfl))) (fun _ _ _ _ _ => pts_nil) (fun _ _ _ _ _ => (pe_op op_sub (pe_ix (show IxR _ (rIxL K) from ix_list) (pv 5) (pe_op op_add (pe_callB (show CallR _ _ (Evl.rLenS K) from call_len_seq) (by rfl) T.n_len OT.b_len (pa_cons (pv 4) pa_nil)) (pv 7)) (fun _ _ => rfl)) (pv 3)))) pa_nil)))
  (pss_one (ps_ret (C8.pe_c c__law_moved hr (by decide) (by rfl) (pa_cons (C8.pe_c c__law_row hr (by decide) (by rfl) (pa_cons (pe_lc (own := [("_law_k", 7)]) (g := (gName 7)) (tt := tYes) rfl sc__law_drawn.nd (pi_range1 rfl T.n_range (pa_cons (pe_callB call_len_seq (by rfl) T.n_len OT.b_len (pa_cons (pv 4) pa_nil)) pa_nil)) (blkOk_by (N := ["_law_cell_here", "_law_box_here", "_law_reach", "_law_moves", "_law_places_here", "_law_draws_here", "_law_by", "_law_k"]) (sc := C8.fnScope s__law_drawn) (by decide +kernel)) (fun _ _ _ _ _ => (pg_name (i := 7) sc__law_drawn.nd rfl (Or.inl rfl))) (fun _ _ _ _ _ => pts_nil) (fun _ _ _ _ _ => (pe_tup (pa_cons (pe_ix (show IxR _ (rIxL K) from ix_list) (pv 4) (pv 7) (fun _ _ => rfl)) (pa_cons (pe_op op_sub (pe_ix (show IxR _ (rIxL K) from ix_list) (pv 5) (pv 7) (fun _ _ => rfl)) (pv 2)) pa_nil))))) pa_nil)) (pa_cons (pv 6) pa_nil)))))))), ?_⟩
    refine ⟨_, rfl, b, bs, rfl, hB, ok, fun p ws ks H1 sm1 hp hW hkl hN => ?_⟩
    have hS : SqL K H1 p ws := .inl (.inl hp)
    have hwl := hW.len
    have hbn := ok.n
    refine ⟨_, rfl, _, rfl, p, rfl, ⟨_, hS⟩, fun D1 nD1 => ?_⟩
    refine lc_list (K := K) (xs := ws) (fun i H2 => Same H1 H2 ∧ H2 D1 = some (.lst (List.replicate i (V.int (2 * (rc : Int) + 1))))) ⟨same_upd nD1, upd_same⟩ ?_ ?_ ?_
    · rintro i H2 _ ⟨sm, _⟩
      exact sm.seq hS
    · rintro i x H2 hx ⟨sm, hD⟩
      have hi := (List.getElem?_eq_some_iff.mp hx).1
      refine ⟨rfl, tYes_of ?_⟩
      refine ⟨_, rfl, _, _, rfl, rfl, .inl ⟨by decide, by decide⟩, _, _, rfl, rfl, _, hD, ?_, same_mut sm nD1, ?_⟩
      · rw [List.length_replicate]
        exact small1000 (by omega)
      · rw [upd_same, List.replicate_succ']
    rintro H2 ⟨sm2, hD1⟩
    have sA := sm1.trans sm2
    refine ⟨_, rfl, b, rfl, ⟨_, sA.seq hB⟩, fun D2 nD2 => ?_⟩
    refine lc_list (K := K) (xs := bs.map fun (n : Nat) => V.int n) (fun i H3 => Same H2 H3 ∧ H3 D2 = some (.lst (List.replicate i (V.int (2 * (mv : Int) + 1))))) ⟨same_upd nD2, upd_same⟩ ?_ ?_ ?_
    · rintro i H3 _ ⟨sm, _⟩
      exact (sA.trans sm).seq hB
    · rintro i x H3 hx ⟨sm, hD⟩
      have hi := (List.getElem?_eq_some_iff.mp hx).1
      rw [List.length_map] at hi
      refine ⟨rfl, tYes_of ?_⟩
      refine ⟨_, rfl, _, _, rfl, rfl, .inl ⟨by decide, by decide⟩, _, _, rfl, rfl, _, hD, ?_, same_mut sm nD2, ?_⟩
      · rw [List.length_replicate]
        exact small1000 (by omega)
      · rw [upd_same, List.replicate_succ']
    rintro H3 ⟨sm3, hD2⟩
    rw [List.length_map] at hD2
    refine ⟨D1, D2, _, _, rfl, rfl, sm3 _ _ hD1, hD2, ?_, fun p3 np3 => ?_⟩
    · rw [List.length_replicate, List.length_replicate]
      exact Nat.le_of_lt (small1000 (by omega))
    let zs : List Int := List.replicate ws.length (2 * (rc : Int) + 1) ++ List.replicate bs.length (2 * (mv : Int) + 1)
    have hzl : zs.length = ws.length + bs.length := by
      show (_ ++ _ : List Int).length = _
      rw [List.length_append, List.length_replicate, List.length_replicate]
    have hzm : zs.map V.int = List.replicate ws.length (V.int (2 * (rc : Int) + 1)) ++ List.replicate bs.length (V.int (2 * (mv : Int) + 1)) := by
      show (_ ++ _ : List Int).map V.int = _
      rw [List.map_append, List.map_replicate, List.map_replicate]
    have sB := (sA.trans sm3).trans (same_upd (o := .lst (List.replicate ws.length (V.int (2 * (rc : Int) + 1)) ++ List.replicate bs.length (V.int (2 * (mv : Int) + 1)))) np3)
    have sB1 := (sm2.trans sm3).trans (same_upd (o := .lst (List.replicate ws.length (V.int (2 * (rc : Int) + 1)) ++ List.replicate bs.length (V.int (2 * (mv : Int) + 1)))) np3)
    refine ⟨p3, zs, c, rfl, .inl (.inl ?_), by omega, fun z hz => ?_, fun ds H4 p4 hin sm4 np4 hp4 => ?_⟩
    · rw [upd_same, hzm]
    · rcases List.mem_append.mp hz with hz | hz
      · rw [(List.mem_replicate.mp hz).2]
        omega
      · rw [(List.mem_replicate.mp hz).2]
        omega
    have sC := sB.trans sm4
    have sC1 := sB1.trans sm4
    have L4 : SqL K H4 p4 (ds.map V.int) := .inl (.inl hp4)
    refine ⟨_, rfl, b, _, rfl, .inl (sC.seq hB), _, rfl, by omega, b62 (by rw [List.length_map]; omega), fun p5 np5 => ?_⟩
    rw [List.length_map, Int.toNat_natCast]
    refine lc_range (lo := 0) (n := bs.length) (fun i H5 => ∃ ys : List Int, ys.length = i ∧ (∀ y ∈ ys, y.natAbs ≤ mv) ∧ Same H4 H5 ∧ H5 p5 = some (.lst (ys.map V.int))) ⟨[], rfl, fun y hy => (by cases hy), same_upd np5, upd_same⟩ ?_ ?_
    · rintro i H5 hi ⟨ys, hyl, hyb, sm5, hp5⟩
      obtain ⟨d, gd, gda, gdb⟩ := hin.get (i := ws.length + i) (rep_get2 hi)
      refine ⟨rfl, tYes_of ?_⟩
      have hix : atI (ds.map V.int) (((ws.length : Nat) : Int) + ((0 : Int) + (i : Int))) = some (.int d) := by
        rw [show ((ws.length : Nat) : Int) + ((0 : Int) + (i : Int)) = ((ws.length + i : Nat) : Int) by omega]
        exact atI_nat gd
      refine ⟨_, rfl, _, rfl, p, _, rfl, .inl ((sC1.trans sm5).seq hS), _, rfl, _, _, rfl, rfl, p4, _, _, _, rfl, rfl, sm5.seq L4, hix, ?_⟩
      refine ⟨_, rfl, _, _, rfl, rfl, ?_⟩
      refine ⟨_, hp5, ?_, ys ++ [d - (mv : Int)], by rw [List.length_append, hyl]; rfl, fun y hy => ?_, same_mut sm5 np5, ?_⟩
      · rw [List.length_map]
        exact small1000 (by omega)
      · rcases List.mem_append.mp hy with hy | hy
        · exact hyb y hy
        · rw [List.mem_singleton.mp hy]
          omega
      · rw [upd_same, List.map_append]
        rfl
    rintro H5 ⟨ys, hyl, hyb, sm5, hp5⟩
    refine ⟨p5, _, rfl, .inl ⟨.inl (.inl hp5), fun bt nbt => ?_⟩⟩
    have sm6 := sm5.trans (same_upd (o := .tup (ys.map V.int)) nbt)
    have hbt : (upd H5 bt (.tup (ys.map V.int))) bt = some (.tup (ys.map V.int)) := upd_same
    generalize upd H5 bt (.tup (ys.map V.int)) = H6 at sm6 hbt ⊢
    have sD := sC.trans sm6
    have sD1 := sC1.trans sm6
    refine ⟨_, rfl, p, _, rfl, .inl (sD1.seq hS), _, rfl, by omega, b62 (by omega), fun p7 np7 => ?_⟩
    rw [Int.toNat_natCast]
    refine lc_range (lo := 0) (n := ws.length) (fun i H7 => ∃ (us : List V) (es : List Ent), es.length = i ∧ Same H6 H7 ∧ H7 p7 = some (.lst us) ∧ Ents H7 us es ∧ (∀ e ∈ es, e.1 ∈ ks) ∧ ∀ e ∈ es, e.2.natAbs ≤ rc) ⟨[], [], rfl, same_upd np7, upd_same, .nil, fun e he => (by cases he), fun e he => (by cases he)⟩ ?_ ?_
    · rintro i H7 hi ⟨us, es, hel, sm7, hp7, hU, hek, hen⟩
      obtain ⟨d, gd, gda, gdb⟩ := hin.get (i := i) (rep_get hi _)
      have hWs := hW.mono (sD1.trans sm7)
      obtain ⟨a, k, ea, hk, hak⟩ := hWs.get (List.getElem?_eq_getElem hi)
      have hix : atI ws ((0 : Int) + (i : Int)) = some (.ref a) := by
        rw [Int.zero_add, ← ea]
        exact atI_nat (List.getElem?_eq_getElem hi)
      have hid : atI (ds.map V.int) ((0 : Int) + (i : Int)) = some (.int d) := by
        rw [Int.zero_add]
        exact atI_nat gd
      refine ⟨rfl, tYes_of ?_⟩
      refine ⟨_, rfl, _, rfl, p, _, _, _, rfl, rfl, (sD1.trans sm7).seq hS, hix, _, rfl, _, rfl, p4, _, _, _, rfl, rfl, (sm6.trans sm7).seq L4, hid, _, rfl, _, _, rfl, rfl, (by show 2 ≤ sizeLine; decide), fun t nt => ?_⟩
      have smt : Same H7 (upd H7 t (.tup [.ref a, .int (d - (rc : Int))])) := same_upd nt
      have hv : EntAt (upd H7 t (.tup [.ref a, .int (d - (rc : Int))])) (.ref t) (k, d - (rc : Int)) := ⟨t, a, rfl, upd_same, smt _ _ hak⟩
      have hul := hU.len
      refine ⟨us, smt _ _ hp7, small1000 (by omega), us ++ [.ref t], es ++ [(k, d - (rc : Int))], by rw [List.length_append, hel]; rfl, same_mut (sm7.trans smt) np7, upd_same, ((hU.mono smt).app (.cons hv .nil)).updL (smt _ _ hp7), fun e he => ?_, fun e he => ?_⟩
      · rcases List.mem_append.mp he with he | he
        · exact hek e he
        · rw [List.mem_singleton.mp he]
          exact List.mem_of_getElem? hk
      · rcases List.mem_append.mp he with he | he
        · exact hen e he
        · rw [List.mem_singleton.mp he]
          show (d - (rc : Int)).natAbs ≤ rc
          omega
    rintro H7 ⟨us, es, hel, sm7, hp7, hU, hek, hen⟩
    have hel2 : es.length ≤ pr bs := by omega
    refine ⟨p7, us, es, rfl, ⟨.inl (.inl hp7), hU, small1000 (by omega)⟩, fun e he z => ?_, fun r p8 rws H8 hr sm8 np8 hp8 he8 => ?_⟩
    · have := hN.l e.1 (hek e he)
      rw [z] at this
      have h0 : (0 : Nat) = bs.length := this
      omega
    have hrl := hr.len
    have hrk : ∀ e ∈ r, e.1 ∈ ks := fun e he => by
      obtain ⟨x, hx, ex⟩ := hr.mem he
      rw [← ex]
      exact hek x hx
    have hrn := hr.bound hen
    have hle : ∀ e ∈ r, e.1.length ≤ ys.length := fun e he => by
      rw [hN.l _ (hrk e he), hyl]
      exact Nat.le_refl _
    refine ⟨_, rfl, p8, bt, rws, r, ys, rfl, ⟨.inl (.inl hp8), he8, small1000 (by omega)⟩, .inl (.inl ((sm7.trans sm8) _ _ hbt)), hle, by omega, fun p9 ws9 H9 sm9 np9 hp9 he9 => ?_⟩
    have sZ := sD.trans (sm7.trans sm8)
    refine q p9 ws9 (movL r ys) H9 (sZ.trans sm9) ?_ hp9 he9 ⟨movL_valid hr.v hle, ?_, fun e he => ?_, fun e he x hx => ?_, fun e he => ?_⟩
    · cases z : H p9 with
      | none => rfl
      | some o =>
        rw [sZ _ _ z] at np9
        cases np9
    · unfold movL
      rw [List.length_map]
      omega
    · obtain ⟨y, hy, rfl⟩ := List.mem_map.mp he
      show (plusP y.1 ys).length = _
      rw [plusP_len (hle y hy)]
      exact hN.l _ (hrk y hy)
    · obtain ⟨y, hy, rfl⟩ := List.mem_map.mp he
      obtain ⟨a, ha, b2, hb2, rfl⟩ := plusP_mem hx
      have h1 := hN.c _ (hrk y hy) a ha
      have h2 := hyb b2 hb2
      omega
    · obtain ⟨y, hy, rfl⟩ := List.mem_map.mp he
      exact Nat.le_trans (hrn y hy) (Nat.mul_le_mul_right _ hel2)
end
end OT

set_option Elab.async false
set_option linter.all false
set_option maxRecDepth 100000
set_option maxHeartbeats 2000000
namespace OT
open PySem PySem.Spec PyProof.Rows L2
def negP (k : Pl) : Pl := k.map fun x => -x
theorem negP_len (k : Pl) : (negP k).length = k.length := List.length_map _
def scaleL (es : List Ent) (f : Int) : List Ent := es.map fun e => (e.1, e.2 * f)
def mirL (es : List Ent) : List Ent := es.map fun e => (negP e.1, e.2)
section
variable {P : Program} {w : World} {K : PySem.W.Frag} {mg : Str → Option Value} {base : Heap}
def spBack (K : PySem.W.Frag) : Sp := fun vs H Q _ => ∃ (a : Addr) (ns : Pl), vs = [.ref a] ∧ SqT K H a (ns.map V.int) ∧ ns.length ≤ 1000 ∧ ∀ p H', Same H H' → H' p = some (.tup ((negP ns).map V.int)) → Q (.ref p) H'
theorem c__law_back {f : Addr} {fd : FuncData} (D : C8.Def K mg "_law_back" s__law_back f fd) (b : Binds K fd ["_law_place"] []) (T : Bi mg) : C8.Cal P w K mg base 1 "_law_back" (spBack K) [] := by
  refine C8.cal0 D b .nil sc__law_back (fun vs H Q E h => ?_) (fun cdv A outer s H vs Q E hr h => ?_)
  · obtain ⟨a, ns, rfl, _⟩ := h
    rfl
  · obtain ⟨a, ns, rfl, hS, hl, q⟩ := h
    refine ⟨_, (pss_one (ps_ret (pe_callTy call_tuple_of (by rfl) T.n_tuple OT.b_tuple (pa_cons (pe_lc (own := [("_law_x", 1)]) (g := (gName 1)) (tt := tYes) rfl sc__law_back.nd (pi_tup (pv 0)) (blkOk_by (N := ["_law_place", "_law_x"]) (sc := C8.fnScope s__law_back) (by decide +kernel)) (fun _ _ _ _ _ => (pg_name (i := 1) sc__law_back.nd rfl (Or.inl rfl))) (fun _ _ _ _ _ => pts_nil) (fun _ _ _ _ _ => (pe_un un_neg (pv 1)))) pa_nil)))), ?_⟩
    refine ⟨_, rfl, a, rfl, ⟨_, hS⟩, fun p np => ?_⟩
    refine lc_tup (K := K) (xs := ns.map V.int) (fun i H2 => Same H H2 ∧ H2 p = some (.lst ((ns.take i).map fun n => V.int (-n)))) ?_ ?_ ?_ ?_
    · exact ⟨same_upd np, upd_same⟩
    · rintro i H2 _ ⟨sm, _⟩
      exact same_t sm hS
    · rintro i x H2 hx ⟨sm, hp⟩
      obtain ⟨hi, rfl⟩ := getm hx
      refine ⟨rfl, tYes_of ?_⟩
      refine ⟨_, rfl, _, rfl, _, hp, ?_, same_mut sm np, ?_⟩
      · rw [List.length_map, List.length_take]
        exact small1000 (by omega)
      · rw [upd_same, take_map_succ (fun n => V.int (-n)) hi]
    · rintro H2 ⟨sm, hp⟩
      rw [List.length_map, List.take_length] at hp
      refine ⟨p, _, rfl, .inl ⟨.inl (.inl hp), fun l nl => ?_⟩⟩
      refine q l _ (sm.trans (same_upd nl)) ?_
      rw [upd_same]
      unfold negP
      rw [List.map_map]
      rfl
/-- a list of entries of places that are not empty -/
structure Lst (H : Hp) (a : Addr) (xs : List V) (es : List Ent) : Prop where
  l : H a = some (.lst xs)
  e : Ents H xs es
  z : es.length ≤ 1000
  p : ∀ e ∈ es, e.1 ≠ []
theorem Lst.mono {H H' : Hp} {a : Addr} {xs : List V} {es : List Ent} (s : Same H H') (h : Lst H a xs es) : Lst H' a xs es := ⟨s _ _ h.l, h.e.mono s, h.z, h.p⟩
theorem wantRow.mono {H H2 : Hp} {es : List Ent} {Q : VK} (sm : Same H H2) (q : wantRow H es Q) : wantRow H2 es Q := by
  intro r p ws H3 hr sm3 np hp he
  refine q r p ws H3 hr (sm.trans sm3) ?_ hp he
  cases z : H p with
  | none => rfl
  | some o =>
    rw [sm _ _ z] at np
    cases np
def spAdd : Sp := fun vs H Q _ => ∃ (a b : Addr) (xs ys : List V) (es fs : List Ent), vs = [.ref a, .ref b] ∧ Lst H a xs es ∧ Lst H b ys fs ∧ wantRow H (es ++ fs) Q
theorem c__law_add {f : Addr} {fd : FuncData} (D : C8.Def K mg "_law_add" s__law_add f fd) (b : Binds K fd ["_law_first_here", "_law_second_here"] []) (T : Bi mg) (c__law_row : C8.Cal P w K mg base 1 "_law_row" (spGather K) []) : C8.Cal P w K mg base 2 "_law_add" spAdd [] := by
  refine C8.cal0 D b .nil sc__law_add (fun vs H Q E h => ?_) (fun cdv A outer s H vs Q E hr h => ?_)
  · obtain ⟨a, b, xs, ys, es, fs, rfl, _⟩ := h
    rfl
  · obtain ⟨a, b, xs, ys, es, fs, rfl, hA, hB, q⟩ := h
    refine ⟨_, (pss_one (ps_ret (C8.pe_c c__law_row hr (by decide) (by rfl) (pa_cons (pe_op op_cat (pv 0) (pv 1)) pa_nil)))), ?_⟩
    have h1 := hA.e.len
    have h2 := hB.e.len
    have z1 := hA.z
    have z2 := hB.z
    refine ⟨_, rfl, _, rfl, a, b, _, _, rfl, rfl, hA.l, hB.l, Nat.le_of_lt (small100k (by omega)), fun p np => ?_⟩
    have s1 : Same H (upd H p (.lst (xs ++ ys))) := same_upd np
    refine ⟨p, xs ++ ys, es ++ fs, rfl, ⟨.inl (.inl upd_same), (hA.e.app hB.e).mono s1, by rw [List.length_append]; exact small100k (by omega)⟩, fun e he => ?_, q.mono s1⟩
    rcases List.mem_append.mp he with he | he
    · exact hA.p e he
    · exact hB.p e he
def spScaled : Sp := fun vs H Q _ => ∃ (a : Addr) (xs : List V) (es : List Ent) (m : Int), vs = [.ref a, .int m] ∧ Lst H a xs es ∧ (-(2 ^ 64) < m ∧ m < 2 ^ 64) ∧ wantRow H (scaleL es m) Q
theorem take_snoc {es : List Ent} {i : Nat} {e : Ent} (h : es[i]? = some e) : es.take (i + 1) = es.take i ++ [e] := by
  rw [List.take_add_one, h]
  rfl
theorem c__law_scaled {f : Addr} {fd : FuncData} (D : C8.Def K mg "_law_scaled" s__law_scaled f fd) (b : Binds K fd ["_law_row_here", "_law_factor"] []) (T : Bi mg) (c__law_row : C8.Cal P w K mg base 1 "_law_row" (spGather K) []) : C8.Cal P w K mg base 2 "_law_scaled" spScaled [] := by
  refine C8.cal0 D b .nil sc__law_scaled (fun vs H Q E h => ?_) (fun cdv A outer s H vs Q E hr h => ?_)
  · obtain ⟨a, xs, es, m, rfl, _⟩ := h
    rfl
  · obtain ⟨a, xs, es, m, rfl, hA, hm, q⟩ := h
    refine ⟨_, (pss_one (ps_ret (C8.pe_c c__law_row hr (by decide) (by rfl) (pa_cons (pe_lc (own := [("_law_entry", 2)]) (g := (gName 2)) (tt := tYes) rfl sc__law_scaled.nd (pi_list (pv 0)) (blkOk_by (N := ["_law_row_here", "_law_factor", "_law_entry"]) (sc := C8.fnScope s__law_scaled) (by decide +kernel)) (fun _ _ _ _ _ => (pg_name (i := 2) sc__law_scaled.nd rfl (Or.inl rfl))) (fun _ _ _ _ _ => pts_nil) (fun _ _ _ _ _ => (pe_tup (pa_cons (pe_ix (show IxR _ (rIxT K) from ix_tup) (pv 2) pe_int (fun _ _ => rfl)) (pa_cons (pe_op op_mul (pe_ix (show IxR _ (rIxT K) from ix_tup) (pv 2) pe_int (fun _ _ => rfl)) (pv 1)) pa_nil))))) pa_nil)))), ?_⟩
    have hS : SqL K H a xs := .inl (.inl hA.l)
    have hx := hA.e.len
    have hz := hA.z
    refine ⟨_, rfl, a, rfl, ⟨_, hS⟩, fun p np => ?_⟩
    refine lc_list (K := K) (xs := xs) (fun i H2 => Same H H2 ∧ ∃ ws, H2 p = some (.lst ws) ∧ Ents H2 ws (scaleL (es.take i) m)) ?_ ?_ ?_ ?_
    · exact ⟨same_upd np, [], upd_same, .nil⟩
    · rintro i H2 _ ⟨sm, _⟩
      exact sm.seq hS
    · rintro i x H2 hxi ⟨sm, ws, hp, hW⟩
      obtain ⟨e, he, t, pe, rfl, ht, hpe⟩ := (hA.e.mono sm).get hxi
      obtain ⟨hi, hee⟩ := List.getElem?_eq_some_iff.mp he
      have hT : SqT K H2 t [.ref pe, .int e.2] := .inl (.inl ht)
      refine ⟨rfl, tYes_of ?_⟩
      refine ⟨_, rfl, t, _, 0, _, rfl, rfl, hT, atI_nat (j := 0) rfl, _, rfl, t, _, 1, _, rfl, rfl, hT, atI_nat (j := 1) rfl, _, rfl, _, _, rfl, rfl, .inr hm, (by show 2 ≤ sizeLine; decide), fun t4 nt4 => ?_⟩
      have sm4 : Same H2 (upd H2 t4 (.tup [.ref pe, .int (e.2 * m)])) := same_upd nt4
      have hv : EntAt (upd H2 t4 (.tup [.ref pe, .int (e.2 * m)])) (.ref t4) (e.1, e.2 * m) := ⟨t4, pe, rfl, upd_same, sm4 _ _ hpe⟩
      have hD := sm4 _ _ hp
      have hwl := hW.len
      refine ⟨ws, hD, ?_, same_mut (sm.trans sm4) np, ws ++ [.ref t4], upd_same, ?_⟩
      · unfold scaleL at hwl
        rw [List.length_map, List.length_take] at hwl
        exact small100k (by omega)
      · unfold scaleL
        rw [take_snoc he, List.map_append]
        exact ((hW.mono sm4).app (.cons hv .nil)).updL hD
    · rintro H2 ⟨sm, ws, hp, hW⟩
      rw [hx, List.take_length] at hW
      refine ⟨p, ws, scaleL es m, rfl, ⟨.inl (.inl hp), hW, by unfold scaleL; rw [List.length_map]; exact small100k (by omega)⟩, fun e he => ?_, q.mono sm⟩
      obtain ⟨y, hy, rfl⟩ := List.mem_map.mp he
      exact hA.p y hy
def spMinus : Sp := fun vs H Q _ => ∃ (a b : Addr) (xs ys : List V) (es fs : List Ent), vs = [.ref a, .ref b] ∧ Lst H a xs es ∧ Lst H b ys fs ∧ ∀ g, RowIs g (scaleL fs (-1)) → ∀ H2, Same H H2 → wantRow H2 (es ++ g) Q
theorem c__law_minus {f : Addr} {fd : FuncData} (D : C8.Def K mg "_law_minus" s__law_minus f fd) (b : Binds K fd ["_law_first_here", "_law_second_here"] []) (T : Bi mg) (c__law_row : C8.Cal P w K mg base 1 "_law_row" (spGather K) []) (c__law_scaled : C8.Cal P w K mg base 2 "_law_scaled" spScaled []) : C8.Cal P w K mg base 3 "_law_minus" spMinus [] := by
  refine C8.cal0 D b .nil sc__law_minus (fun vs H Q E h => ?_) (fun cdv A outer s H vs Q E hr h => ?_)
  · obtain ⟨a, b, xs, ys, es, fs, rfl, _⟩ := h
    rfl
  · obtain ⟨a, b, xs, ys, es, fs, rfl, hA, hB, q⟩ := h
    refine ⟨_, (pss_one (ps_ret (C8.pe_c c__law_row hr (by decide) (by rfl) (pa_cons (pe_op op_cat (pv 0) (C8.pe_c c__law_scaled hr (by decide) (by rfl) (pa_cons (pv 1) (pa_cons (pe_un un_neg pe_int) pa_nil)))) pa_nil)))), ?_⟩
    have z1 := hA.z
    have z2 := hB.z
    refine ⟨_, rfl, _, rfl, 1, rfl, b, ys, fs, -1, rfl, hB, ⟨by decide, by decide⟩, fun g p ws H2 hg sm np hp he => ?_⟩
    have hgl := hg.len
    unfold scaleL at hgl
    rw [List.length_map] at hgl
    have h1 := hA.e.len
    have h2 := he.len
    refine ⟨a, p, _, _, rfl, rfl, sm _ _ hA.l, hp, Nat.le_of_lt (small100k (by omega)), fun p3 np3 => ?_⟩
    have s3 : Same H2 (upd H2 p3 (.lst (xs ++ ws))) := same_upd np3
    refine ⟨p3, xs ++ ws, es ++ g, rfl, ⟨.inl (.inl upd_same), ((hA.e.mono sm).app he).mono s3, by rw [List.length_append]; exact small100k (by omega)⟩, fun e he2 => ?_, (q g hg H2 sm).mono s3⟩
    rcases List.mem_append.mp he2 with he2 | he2
    · exact hA.p e he2
    · obtain ⟨y, hy, ey⟩ := hg.mem he2
      obtain ⟨u, hu, rfl⟩ := List.mem_map.mp hy
      rw [← ey]
      exact hB.p u hu
def spMir : Sp := fun vs H Q _ => ∃ (a : Addr) (xs : List V) (es : List Ent), vs = [.ref a] ∧ Lst H a xs es ∧ (∀ e ∈ es, e.1.length ≤ 1000) ∧ wantRow H (mirL es) Q
theorem c__law_mirror {f : Addr} {fd : FuncData} (D : C8.Def K mg "_law_mirror" s__law_mirror f fd) (b : Binds K fd ["_law_row_here"] []) (T : Bi mg) (c__law_row : C8.Cal P w K mg base 1 "_law_row" (spGather K) []) (c__law_back : C8.Cal P w K mg base 1 "_law_back" (spBack K) []) : C8.Cal P w K mg base 2 "_law_mirror" spMir [] := by
  refine C8.cal0 D b .nil sc__law_mirror (fun vs H Q E h => ?_) (fun cdv A outer s H vs Q E hr h => ?_)
  · obtain ⟨a, xs, es, rfl, _⟩ := h
    rfl
  · obtain ⟨a, xs, es, rfl, hA, hle, q⟩ := h
    refine ⟨_, (pss_one (ps_ret (C8.pe_c c__law_row hr (by decide) (by rfl) (pa_cons (pe_lc (own := [("_law_entry", 1)]) (g := (gName 1)) (tt := tYes) rfl sc__law_mirror.nd (pi_list (pv 0)) (blkOk_by (N := ["_law_row_here", "_law_entry"]) (sc := C8.fnScope s__law_mirror) (by decide +kernel)) (fun _ _ _ _ _ => (pg_name (i := 1) sc__law_mirror.nd rfl (Or.inl rfl))) (fun _ _ _ _ _ => pts_nil) (fun _ _ _ _ _ => (pe_tup (pa_cons (C8.pe_c c__law_back hr (by decide) (by rfl) (pa_cons (pe_ix (show IxR _ (rIxT K) from ix_tup) (pv 1) pe_int (fun _ _ => rfl)) pa_nil)) (pa_cons (pe_ix (show IxR _ (rIxT K) from ix_tup) (pv 1) pe_int (fun _ _ => rfl)) pa_nil))))) pa_nil)))), ?_⟩
    have hS : SqL K H a xs := .inl (.inl hA.l)
    have hx := hA.e.len
    have hz := hA.z
    refine ⟨_, rfl, a, rfl, ⟨_, hS⟩, fun p np => ?_⟩
    refine lc_list (K := K) (xs := xs) (fun i H2 => Same H H2 ∧ ∃ ws, H2 p = some (.lst ws) ∧ Ents H2 ws (mirL (es.take i))) ?_ ?_ ?_ ?_
    · exact ⟨same_upd np, [], upd_same, .nil⟩
    · rintro i H2 _ ⟨sm, _⟩
      exact sm.seq hS
    · rintro i x H2 hxi ⟨sm, ws, hp, hW⟩
      obtain ⟨e, he, t, pe, rfl, ht, hpe⟩ := (hA.e.mono sm).get hxi
      obtain ⟨hi, hee⟩ := List.getElem?_eq_some_iff.mp he
      have hm := List.mem_of_getElem? he
      have hT : SqT K H2 t [.ref pe, .int e.2] := .inl (.inl ht)
      refine ⟨rfl, tYes_of ?_⟩
      refine ⟨_, rfl, t, _, 0, _, rfl, rfl, hT, atI_nat (j := 0) rfl, pe, e.1, rfl, .inl (.inl hpe), hle e hm, fun p3 H3 sm3 hp3 => ?_⟩
      refine ⟨_, rfl, t, _, 1, _, rfl, rfl, same_t sm3 hT, atI_nat (j := 1) rfl, (by show 2 ≤ sizeLine; decide), fun t4 nt4 => ?_⟩
      have sm4 : Same H3 (upd H3 t4 (.tup [.ref p3, .int e.2])) := same_upd nt4
      have smA := sm3.trans sm4
      have hv : EntAt (upd H3 t4 (.tup [.ref p3, .int e.2])) (.ref t4) (negP e.1, e.2) := ⟨t4, p3, rfl, upd_same, sm4 _ _ hp3⟩
      have hD := smA _ _ hp
      have hwl := hW.len
      refine ⟨ws, hD, ?_, same_mut (sm.trans smA) np, ws ++ [.ref t4], upd_same, ?_⟩
      · unfold mirL at hwl
        rw [List.length_map, List.length_take] at hwl
        exact small100k (by omega)
      · unfold mirL
        rw [take_snoc he, List.map_append]
        exact ((hW.mono smA).app (.cons hv .nil)).updL hD
    · rintro H2 ⟨sm, ws, hp, hW⟩
      rw [hx, List.take_length] at hW
      refine ⟨p, ws, mirL es, rfl, ⟨.inl (.inl hp), hW, by unfold mirL; rw [List.length_map]; exact small100k (by omega)⟩, fun e he z => ?_, q.mono sm⟩
      obtain ⟨y, hy, rfl⟩ := List.mem_map.mp he
      have z2 : (negP y.1).length = 0 := by
        have z3 : negP y.1 = [] := z
        rw [z3]
        rfl
      rw [negP_len] at z2
      exact hA.p y hy (List.length_eq_zero_iff.mp z2)
end
end OT

set_option Elab.async false
set_option linter.all false
set_option maxRecDepth 100000
set_option maxHeartbeats 2000000
namespace OT
open PySem PySem.Spec PyProof.Rows L2
theorem walk_zipT' {K : PySem.W.Frag} {a b : Addr} {xs ys : List V} : Walk (RZ.ItzT K a b) (min xs.length ys.length) (fun H => SqT K H a xs ∧ SqT K H b ys) (YPair (fun i => xs[i]?) (fun i => ys[i]?)) := by
  refine ⟨fun i _ hi q => ?_, fun _ q => ⟨xs, ys, q.1, q.2, by omega⟩, fun i H v H' _ q y => ?_⟩
  · exact ⟨xs, ys, xs[i]'(by omega), ys[i]'(by omega), q.1, q.2, List.getElem?_eq_getElem _, List.getElem?_eq_getElem _⟩
  · obtain ⟨t, x, z, e, n, h, k1, k2⟩ := y
    exact ⟨t, x, z, e, n, h, k1 xs q.1, k2 ys q.2⟩
section
variable {P : Program} {w : World} {K : PySem.W.Frag} {mg : Str → Option Value} {base : Heap}
theorem c_plus {f : Addr} {fd : FuncData} (D : C8.Def K mg "plus" s_plus f fd) (b : Binds K fd ["first", "second"] []) (T : Bi mg) : C8.Cal P w K mg base 1 "plus" (spPlus K) [] := by
  refine C8.cal0 D b .nil sc_plus (fun vs H Q E h => ?_) (fun cdv A outer s H vs Q E hr h => ?_)
  · obtain ⟨a, b, k, l, rfl, _⟩ := h
    rfl
  · obtain ⟨a, b, k, l, rfl, hk, hl, hkl, hz, q⟩ := h
    refine ⟨_, (pss_one (ps_ret (pe_callTy call_tuple_of (by rfl) T.n_tuple OT.b_tuple (pa_cons (pe_lc (own := [("a", 2), ("b", 3)]) (g := (gTup K 2 (gCons (gName 2) (gCons (gName 3) gNil)))) (tt := tYes) rfl sc_plus.nd (RZ.pi_zipA (by rfl) T.n_zip (pa_cons (pv 0) (pa_cons (pv 1) pa_nil))) (blkOk_by (N := ["first", "second", "a", "b"]) (sc := C8.fnScope s_plus) (by decide +kernel)) (fun _ _ _ _ _ => (pg_tup rfl (pgs_cons (pg_name (i := 2) sc_plus.nd rfl (Or.inl rfl)) (pgs_cons (pg_name (i := 3) sc_plus.nd rfl (Or.inl rfl)) pgs_nil)))) (fun _ _ _ _ _ => pts_nil) (fun _ _ _ _ _ => (pe_op op_add (pv 2) (pv 3)))) pa_nil)))), ?_⟩
    have hpl := plusP_len hkl
    refine ⟨_, rfl, _, rfl, a, b, _, _, rfl, .inr ⟨hk, hl, fun p np => ?_⟩⟩
    refine lc_it (walk_zipT' (xs := k.map V.int) (ys := l.map V.int)) (fun i H2 => Same H H2 ∧ H2 p = some (.lst (((plusP k l).take i).map V.int))) ?_ ?_ ?_ ?_
    · exact ⟨same_upd np, upd_same⟩
    · rintro i H2 _ ⟨sm, _⟩
      exact ⟨same_t sm hk, same_t sm hl⟩
    · rintro i x H2 H3 hi ⟨sm, hp⟩ ⟨t, x1, x2, rfl, nt, rfl, e1, e2⟩
      obtain ⟨hik, rfl⟩ := getm (show (k.map V.int)[i]? = some x1 from e1)
      obtain ⟨hil, rfl⟩ := getm (show (l.map V.int)[i]? = some x2 from e2)
      have smt : Same H2 (upd H2 t (.tup [.int k[i], .int l[i]])) := same_upd nt
      have hip : i < (plusP k l).length := by omega
      refine ⟨t, _, rfl, .inl (.inl upd_same), rfl, _, _, rfl, _, _, rfl, rfl, rfl, tYes_of ?_⟩
      refine ⟨_, rfl, _, rfl, _, _, rfl, rfl, _, smt _ _ hp, ?_, same_mut (sm.trans smt) np, ?_⟩
      · rw [List.length_map, List.length_take]
        exact small1000 (by omega)
      · rw [upd_same, take_map_succ V.int hip, plusP_get hip hik hil]
    · rintro H2 ⟨sm, hp⟩
      have hmin : min (k.map V.int).length (l.map V.int).length = (plusP k l).length := by
        rw [List.length_map, List.length_map, hpl]
        exact Nat.min_eq_left hkl
      rw [hmin, List.take_length] at hp
      exact ⟨p, _, rfl, .inl ⟨.inl (.inl hp), fun t nt => q t _ (sm.trans (same_upd nt)) upd_same⟩⟩
/-- the entries times a factor; none, if it is 0 -/
def scaleP (es : List Ent) (f : Int) : List Ent := if f = 0 then [] else scaleL es f
theorem scaleP_valid {es : List Ent} {f : Int} (h : Valid es) : Valid (scaleP es f) := by
  unfold scaleP
  by_cases z : f = 0
  · rw [if_pos z]
    exact ⟨.nil, fun e he => by cases he⟩
  · rw [if_neg z]
    refine ⟨?_, fun e he => ?_⟩
    · unfold scaleL
      rw [List.pairwise_map]
      exact h.asc
    · obtain ⟨y, hy, rfl⟩ := List.mem_map.mp he
      exact fun c => (Int.mul_eq_zero.mp c).elim (h.nz y hy) z
theorem scaleL_sum (es : List Ent) (f : Int) (q : Pl) : numAt (scaleL es f) q = numAt es q * f := by
  induction es with
  | nil =>
    show (0 : Int) = 0 * f
    rw [Int.zero_mul]
  | cons e r ih =>
    show (if e.1 = q then e.2 * f else 0) + numAt (scaleL r f) q = ((if e.1 = q then e.2 else 0) + numAt r q) * f
    rw [ih, Int.add_mul]
    by_cases c : e.1 = q
    · rw [if_pos c, if_pos c]
    · rw [if_neg c, if_neg c, Int.zero_mul]
theorem scaleP_is {es : List Ent} {f : Int} (h : Valid es) : RowIs (scaleP es f) (scaleL es f) := by
  refine ⟨scaleP_valid h, fun q => ?_⟩
  unfold scaleP
  by_cases z : f = 0
  · rw [if_pos z, scaleL_sum, z, Int.mul_zero]
    rfl
  · rw [if_neg z]
def spScale : Sp := fun vs H Q _ => ∃ (a : Addr) (xs : List V) (es : List Ent) (m : Int), vs = [.ref a, .int m] ∧ H a = some (.lst xs) ∧ Ents H xs es ∧ es.length ≤ 1000 ∧ (-(2 ^ 64) < m ∧ m < 2 ^ 64) ∧ ∀ p ws H', Same H H' → H p = none → H' p = some (.lst ws) → Ents H' ws (scaleP es m) → Q (.ref p) H'
theorem c_scale {f : Addr} {fd : FuncData} (D : C8.Def K mg "scale" s_scale f fd) (b : Binds K fd ["row", "factor"] []) (T : Bi mg) : C8.Cal P w K mg base 1 "scale" spScale [] := by
  refine C8.cal0 D b .nil sc_scale (fun vs H Q E h => ?_) (fun cdv A outer s H vs Q E hr h => ?_)
  · obtain ⟨a, xs, es, m, rfl, _⟩ := h
    rfl
  · obtain ⟨a, xs, es, m, rfl, ha, hE, hz, hm, q⟩ := h
    refine ⟨_, (pss_one (ps_ret (pe_lc (own := [("place", 2), ("number", 3)]) (g := (gTup K 2 (gCons (gName 2) (gCons (gName 3) gNil)))) rfl sc_scale.nd (pi_list (pv 0)) (blkOk_by (N := ["row", "factor", "place", "number"]) (sc := C8.fnScope s_scale) (by decide +kernel)) (fun _ _ _ _ _ => (pg_tup rfl (pgs_cons (pg_name (i := 2) sc_scale.nd rfl (Or.inl rfl)) (pgs_cons (pg_name (i := 3) sc_scale.nd rfl (Or.inl rfl)) pgs_nil)))) (fun _ _ _ _ _ => (pts_one (pt_cmpR op_ne (pv 1) pe_int (nomark _)))) (fun _ _ _ _ _ => (pe_tup (pa_cons (pv 2) (pa_cons (pe_op op_mul (pv 3) (pv 1)) pa_nil))))))), ?_⟩
    have hS : SqL K H a xs := .inl (.inl ha)
    have hx := hE.len
    refine ⟨_, rfl, a, rfl, ⟨_, hS⟩, fun p np => ?_⟩
    refine lc_list (K := K) (xs := xs) (fun i H2 => Same H H2 ∧ ∃ ws, H2 p = some (.lst ws) ∧ Ents H2 ws (scaleP (es.take i) m)) ?_ ?_ ?_ ?_
    · refine ⟨same_upd np, [], upd_same, ?_⟩
      have : scaleP (es.take 0) m = [] := by
        unfold scaleP
        by_cases z : m = 0
        · rw [if_pos z]
        · rw [if_neg z]
          rfl
      rw [this]
      exact .nil
    · rintro i H2 _ ⟨sm, _⟩
      exact sm.seq hS
    · rintro i x H2 hxi ⟨sm, ws, hp, hW⟩
      obtain ⟨e, he, t, pe, rfl, ht, hpe⟩ := (hE.mono sm).get hxi
      obtain ⟨hi, hee⟩ := List.getElem?_eq_some_iff.mp he
      refine ⟨t, _, rfl, .inl (.inl ht), rfl, _, _, rfl, _, _, rfl, rfl, rfl, ?_⟩
      refine ⟨_, rfl, rfl, _, rfl, iteND (fun h0 => ?_) (fun h0 => ?_)⟩
      · have hm0 : m ≠ 0 := fun z => h0 (by rw [z])
        refine ⟨_, rfl, _, rfl, _, rfl, _, _, rfl, rfl, .inr hm, (by show 2 ≤ sizeLine; decide), fun t4 nt4 => ?_⟩
        have sm4 : Same H2 (upd H2 t4 (.tup [.ref pe, .int (e.2 * m)])) := same_upd nt4
        have hv : EntAt (upd H2 t4 (.tup [.ref pe, .int (e.2 * m)])) (.ref t4) (e.1, e.2 * m) := ⟨t4, pe, rfl, upd_same, sm4 _ _ hpe⟩
        have hD := sm4 _ _ hp
        have hwl := hW.len
        unfold scaleP at hW hwl ⊢
        rw [if_neg hm0] at hW hwl ⊢
        refine ⟨ws, hD, ?_, same_mut (sm.trans sm4) np, ws ++ [.ref t4], upd_same, ?_⟩
        · unfold scaleL at hwl
          rw [List.length_map, List.length_take] at hwl
          exact small100k (by omega)
        · unfold scaleL
          rw [take_snoc he, List.map_append]
          exact ((hW.mono sm4).app (.cons hv .nil)).updL hD
      · have hm0 : m = 0 := V.int.inj h0
        refine ⟨sm, ws, hp, ?_⟩
        unfold scaleP at hW ⊢
        rw [if_pos hm0] at hW ⊢
        exact hW
    · rintro H2 ⟨sm, ws, hp, hW⟩
      rw [hx, List.take_length] at hW
      exact q p ws H2 sm np hp hW
end
end OT

set_option Elab.async false
set_option linter.all false
set_option maxRecDepth 100000
set_option maxHeartbeats 2000000
namespace OT
open PySem PySem.Spec PyProof.Rows L2
/-! mirrors and normal rows: the program's road and the law's lead to the same row -/
theorem RowIs.self {r : List Ent} (h : Valid r) : RowIs r r := ⟨h, fun _ => rfl⟩
theorem negP_lt : ∀ {a b : Pl}, a.length = b.length → HT.lexLt (negP b) (negP a) = HT.lexLt a b
  | [], [], _ => rfl
  | x :: a, y :: b, h => by
    show (if -y = -x then HT.lexLt (negP b) (negP a) else decide (-y < -x)) = if x = y then HT.lexLt a b else decide (x < y)
    rw [negP_lt (Nat.succ.inj h)]
    by_cases e : x = y
    · rw [if_pos e, if_pos (by rw [e])]
    · rw [if_neg e, if_neg (by omega)]
      by_cases c : x < y
      · rw [decide_eq_true c, decide_eq_true (by omega)]
      · rw [decide_eq_false c, decide_eq_false (by omega)]
theorem numAt_rev (es : List Ent) (q : Pl) : numAt es.reverse q = numAt es q := by
  induction es with
  | nil => rfl
  | cons e r ih =>
    rw [List.reverse_cons, numAt_app, ih]
    show numAt r q + ((if e.1 = q then e.2 else 0) + 0) = (if e.1 = q then e.2 else 0) + numAt r q
    omega
/-- the program's mirror -/
def mirP (es : List Ent) : List Ent := es.reverse.map fun e => (negP e.1, e.2)
theorem mirP_valid {es : List Ent} {n : Nat} (h : Valid es) (hn : ∀ e ∈ es, e.1.length = n) : Valid (mirP es) := by
  unfold mirP
  refine ⟨?_, fun e he => ?_⟩
  · rw [List.pairwise_map, List.pairwise_reverse]
    refine List.Pairwise.imp_of_mem (fun {x y} hx hy q => ?_) h.asc
    rw [negP_lt ((hn x hx).trans (hn y hy).symm)]
    exact q
  · obtain ⟨y, hy, rfl⟩ := List.mem_map.mp he
    exact h.nz y (List.mem_reverse.mp hy)
theorem mirP_is {es : List Ent} {n : Nat} (h : Valid es) (hn : ∀ e ∈ es, e.1.length = n) : RowIs (mirP es) (mirL es) := by
  refine ⟨mirP_valid h hn, fun q => ?_⟩
  have e : mirP es = (mirL es).reverse := by
    unfold mirP mirL
    rw [List.map_reverse]
  rw [e, numAt_rev]
theorem mov_scale (es : List Ent) (c : Pl) (s : Int) : movL (scaleL es s) c = scaleL (movL es c) s := by
  unfold movL scaleL
  rw [List.map_map, List.map_map]
  rfl
/-- a row times a unit: valid, told by its entries -/
theorem unit_is {es : List Ent} {c : Pl} {s : Int} (h : Valid es) (hl : ∀ e ∈ es, e.1.length ≤ c.length) (hs : s ≠ 0) : RowIs (movL (scaleP es s) c) (scaleL (movL es c) s) := by
  have e : scaleP es s = scaleL es s := by
    unfold scaleP
    exact if_neg hs
  rw [e, mov_scale]
  refine RowIs.self ?_
  have hm := movL_valid h hl
  have := scaleP_valid (f := s) hm
  unfold scaleP at this
  rw [if_neg hs] at this
  exact this
/-- the dimension of a row -/
def dimE : List Ent → Nat
  | [] => 0
  | e :: _ => e.1.length
section
variable {P : Program} {w : World} {K : PySem.W.Frag} {mg : Str → Option Value} {base : Heap}
def spPLen (K : PySem.W.Frag) : Sp := fun vs H Q _ => ∃ (a : Addr) (xs : List V) (es : List Ent), vs = [.ref a] ∧ SqL K H a xs ∧ Ents H xs es ∧ Q (.int (dimE es : Nat)) H
theorem c_places_length {f : Addr} {fd : FuncData} (D : C8.Def K mg "places_length" s_places_length f fd) (b : Binds K fd ["row"] []) (T : Bi mg) : C8.Cal P w K mg base 1 "places_length" (spPLen K) [] := by
  refine C8.cal0 D b .nil sc_places_length (fun vs H Q E h => ?_) (fun cdv A outer s H vs Q E hr h => ?_)
  · obtain ⟨a, xs, es, rfl, _⟩ := h
    rfl
  · obtain ⟨a, xs, es, rfl, hS, hE, q⟩ := h
    refine ⟨_, (pss_one (ps_ret (pe_ifExp (pt_truth (pv 0) (by intro _; rfl)) (pe_callB call_len_seq (by rfl) T.n_len OT.b_len (pa_cons (pe_ix ix_tup (pe_ix ix_list (pv 0) pe_int (fun _ _ => rfl)) pe_int (fun _ _ => rfl)) pa_nil)) pe_int))), ?_⟩
    refine ⟨_, rfl, _, .inl ⟨xs, hS, rfl⟩, ?_⟩
    cases hE with
    | nil =>
      refine iteF ?_
      exact q
    | cons h1 h2 =>
      rename_i v e vs es
      obtain ⟨t, p, rfl, ht, hp⟩ := h1
      refine iteT ?_
      refine ⟨_, rfl, a, _, 0, _, rfl, rfl, hS, atI_nat (j := 0) rfl, t, _, 0, _, rfl, rfl, .inl (.inl ht), atI_nat (j := 0) rfl, p, _, rfl, .inr (.inl (.inl hp)), ?_⟩
      rw [List.length_map]
      exact q
end
end OT

set_option Elab.async false
set_option linter.all false
set_option maxRecDepth 100000
set_option maxHeartbeats 2000000
namespace OT
open PySem PySem.Spec PyProof.Rows L2
/-- some length is another than the first one -/
def mixL (ns : List Int) : Bool := (ns.map fun m => !decide (V.int m = V.int (ns.headD 0))).any id
def nz (n : Int) : Bool := decide (n ≠ 0)
section
variable {P : Program} {w : World} {K : PySem.W.Frag} {mg : Str → Option Value} {base : Heap}
/-! ### the errors' own __init__ -/
theorem ok_te {f : Addr} {fd : FuncData} (F : C8.Fun K "__init__" "TableError.__init__" s_TableError___init__ f fd) : FnOk P w K mg base L2.CX0 1 f fd ["self"] (spTE K) := by
  refine C8.fn0 F sc_TableError___init__ (fun vs H Q E h => ?_) (fun cdv A outer s H vs Q E hr h => ?_)
  · obtain ⟨a, C, nm, rfl, _⟩ := h
    rfl
  · obtain ⟨a, C, nm, rfl, ha, T, k⟩ := h
    refine ⟨_, pss_one (ps_ost (pv 0) (pe_otname (pv 0))), ?_⟩
    exact ⟨_, rfl, a, C, nm, rfl, ha, T.oc, T.on, _, rfl, a, C, rfl, T.ox, T.nw, Or.inl ⟨ha, fun d nd ne => k d nd ne⟩⟩
/-- what is known of an error of a class that tells an index -/
structure ErrI (K : PySem.W.Frag) (mg : Str → Option Value) (nm : Str) (C fI : Addr) : Prop where
  g : mg nm = some (.ref C)
  t : OtErr K C nm
  i : PySem.W.findIn K (.ref C) "__init__" = some (some (.ref fI))
  ty : PySem.W.typeIn K (.ref fI) = some (.type "function")
def errM : List (Str × V) := [("word", .str "MixedDimensions")]
def spSL (K : PySem.W.Frag) (M : Addr) : Sp := fun vs H Q E => ∃ (a : Addr) (ns : List Int), vs = [.ref a] ∧ SqL K H a (ns.map V.int) ∧ ns.length ≤ 100000 ∧
  (mixL (ns.filter nz) = true → ∀ d H', Same H H' → H' d = some (.xd errM) → E (.ref M) (some d) H') ∧ (mixL (ns.filter nz) = false → ∀ H', Same H H' → Q .non H')
theorem ok_same_lengths {f M fB : Addr} {fd fdB : FuncData} (D : C8.Def K mg "same_lengths" s_same_lengths f fd) (T : Bi mg) (X : ErrI K mg "MixedDimensions" M fB) (GB : FnOk P w K mg base L2.CX0 1 fB fdB ["self"] (spTE K)) (bB : Binds K fdB ["self"] []) :
    FnOk P w K mg base (L2.CX P w) 3 f fd ["lengths"] (spSL K M) := by
  obtain ⟨oc, od, dV, kV, doc, pm, an, cdv, ct, osl, rfl, lk, hcd⟩ := D.fn.ex
  refine fn_of lk hcd sc_same_lengths (fun vs H Q E h => ?_) fun A outer s H vs Q E hr h => ?_
  · obtain ⟨a, ns, rfl, _⟩ := h
    rfl
  · obtain ⟨a, ns, rfl, hS, hz, qE, qN⟩ := h
    refine ⟨_, (pss_cons (ps_set (i := 1) sc_same_lengths.nd rfl (Or.inr rfl) (pe_lc (own := [("length", 2)]) (g := (gName 2)) rfl sc_same_lengths.nd (pi_list (pv 0)) (blkOk_by (N := ["lengths", "known", "length"]) (sc := C8.fnScope s_same_lengths) (by decide +kernel)) (fun _ _ _ _ _ => (pg_name (i := 2) sc_same_lengths.nd rfl (Or.inl rfl))) (fun _ _ _ _ _ => (pts_one (pt_cmpR op_ne (pv 2) pe_int (nomark _)))) (fun _ _ _ _ _ => (pv 2))))
  (pss_one (ps_if (pt_val (pe_callB (cr_any rfl) (by rfl) T.n_any OT.b_any (pa_cons (pe_lc (own := [("length", 2)]) (g := (gName 2)) (tt := tYes) rfl sc_same_lengths.nd (pi_list (pv 1)) (blkOk_by (N := ["lengths", "known", "length"]) (sc := C8.fnScope s_same_lengths) (by decide +kernel)) (fun _ _ _ _ _ => (pg_name (i := 2) sc_same_lengths.nd rfl (Or.inl rfl))) (fun _ _ _ _ _ => pts_nil) (fun _ _ _ _ _ => (pe_cmpR op_ne (pv 2) (pe_ix (show IxR _ (rIxL K) from ix_list) (pv 1) pe_int (fun _ _ => rfl)) (nomark _)))) pa_nil))) (pss_one (ps_raise rfl (takes_of rfl rfl rfl rfl) (pmk_oex0 X.t.ox X.i X.ty GB hr bB pass0 (by rfl) X.g))) pss_nil))), ?_⟩
    refine ⟨_, rfl, a, rfl, ⟨_, hS⟩, fun p np => ?_⟩
    refine lc_list (K := K) (xs := ns.map V.int) (fun i H2 => Same H H2 ∧ H2 p = some (.lst (((ns.take i).filter nz).map V.int))) ?_ ?_ ?_ ?_
    · exact ⟨same_upd np, upd_same⟩
    · rintro i H2 _ ⟨sm, _⟩
      exact sm.seq hS
    · rintro i x H2 hx ⟨sm, hp⟩
      obtain ⟨hi, rfl⟩ := getm hx
      have htk : (ns.take (i + 1)).filter nz = (ns.take i).filter nz ++ (if nz ns[i] = true then [ns[i]] else []) := by
        rw [List.take_add_one, List.getElem?_eq_getElem hi, List.filter_append]
        show _ ++ (match nz ns[i] with | true => [ns[i]] | false => []) = _
        cases nz ns[i] <;> rfl
      refine ⟨rfl, _, rfl, rfl, _, rfl, iteND (fun hn => ?_) (fun h0 => ?_)⟩
      · have hnz : nz ns[i] = true := decide_eq_true fun z => hn (by rw [z])
        rw [htk, if_pos hnz]
        refine ⟨_, rfl, _, hp, ?_, same_mut sm np, ?_⟩
        · rw [List.length_map]
          have h1 := List.length_filter_le nz (ns.take i)
          rw [List.length_take] at h1
          exact Nat.lt_of_le_of_lt (show _ ≤ 100000 by omega) (by decide)
        · rw [upd_same, List.map_append]
          rfl
      · have hnz : ¬ nz ns[i] = true := fun z => of_decide_eq_true z (V.int.inj h0)
        rw [htk, if_neg hnz, List.append_nil]
        exact ⟨sm, hp⟩
    · rintro H2 ⟨sm, hp⟩
      rw [List.length_map, List.take_length] at hp
      have hz : (ns.filter nz).length ≤ 100000 := Nat.le_trans (List.length_filter_le _ _) hz
      generalize ns.filter nz = ns at hp hz qE qN
      have hP : SqL K H2 p (ns.map V.int) := .inl (.inl hp)
      refine ⟨_, rfl, p, rfl, ⟨_, hP⟩, fun p2 np2 => ?_⟩
      refine lc_list (K := K) (xs := ns.map V.int) (fun i H3 => Same H2 H3 ∧ H3 p2 = some (.lst ((ns.take i).map fun m => V.bl (!decide (V.int m = V.int (ns.headD 0)))))) ?_ ?_ ?_ ?_
      · exact ⟨same_upd np2, upd_same⟩
      · rintro i H3 _ ⟨sm3, _⟩
        exact sm3.seq hP
      · rintro i x H3 hx ⟨sm3, hp3⟩
        obtain ⟨hi, rfl⟩ := getm hx
        have h0 : (ns.map V.int)[0]? = some (.int (ns.headD 0)) := by
          cases ns with
          | nil => exact absurd hi (Nat.not_lt_zero _)
          | cons n r => rfl
        refine ⟨rfl, tYes_of ?_⟩
        refine ⟨_, rfl, _, rfl, p, _, 0, _, rfl, rfl, sm3.seq hP, atI_nat (j := 0) h0, rfl, _, hp3, ?_, same_mut sm3 np2, ?_⟩
        · rw [List.length_map, List.length_take]
          exact Nat.lt_of_le_of_lt (show min i ns.length ≤ 100000 by omega) (by decide)
        · rw [upd_same, take_map_succ (fun m => V.bl (!decide (V.int m = V.int (ns.headD 0)))) hi]
      · rintro H3 ⟨sm3, hp3⟩
        rw [List.length_map, List.take_length] at hp3
        have sA := sm.trans sm3
        refine ⟨p2, ns.map fun m => !decide (V.int m = V.int (ns.headD 0)), rfl, .inl (.inl ?_), _, rfl, ?_⟩
        · rw [hp3, List.map_map]
          rfl
        show if mixL ns = true then _ else _
        cases e : mixL ns with
        | true =>
          refine iteT ?_
          refine ⟨(by show 0 ≤ 1000; decide), fun a na => ⟨a, M, _, rfl, upd_same, X.t, fun d nd ne => ?_⟩⟩
          have nd3 : H3 d = none := by
            rw [upd_ne ne] at nd
            exact nd
          refine ⟨rfl, d, _, upd_same, ?_, nd3, qE e d _ ?_ upd_same⟩
          · rw [upd_ne ne, upd_same]
            rfl
          · intro b o hb
            have hb2 := sA b o hb
            have nba : b ≠ a := ne_of_none hb2 na
            have nbd : b ≠ d := ne_of_none hb2 nd3
            rw [upd_ne nbd, del_ne nba, upd_ne nba, upd_ne nbd, upd_ne nba]
            exact hb2
        | false =>
          refine iteF ?_
          exact qN e H3 sA
end
end OT

set_option Elab.async false
set_option linter.all false
set_option maxRecDepth 100000
set_option maxHeartbeats 2000000
namespace OT
open PySem PySem.Spec PyProof.Rows L2
/-- rows at addresses, in turn -/
inductive RowsAt (H : Hp) : List V → List (List Ent) → Prop
  | nil : RowsAt H [] []
  | cons {a : Addr} {xs : List V} {es : List Ent} {vs : List V} {ess : List (List Ent)} : H a = some (.lst xs) → Ents H xs es → RowsAt H vs ess → RowsAt H (.ref a :: vs) (es :: ess)
theorem RowsAt.len {H : Hp} {vs : List V} {ess : List (List Ent)} (h : RowsAt H vs ess) : vs.length = ess.length := by
  induction h with
  | nil => rfl
  | cons _ _ _ ih => rw [List.length_cons, List.length_cons, ih]
theorem RowsAt.mono {H H' : Hp} {vs : List V} {ess : List (List Ent)} (s : ∀ b o, H b = some o → H' b = some o) (h : RowsAt H vs ess) : RowsAt H' vs ess := by
  induction h with
  | nil => exact .nil
  | cons h1 h2 _ ih => exact .cons (s _ _ h1) (h2.mono s) ih
theorem RowsAt.get {H : Hp} {vs : List V} {ess : List (List Ent)} (h : RowsAt H vs ess) : ∀ {i : Nat} {v : V}, vs[i]? = some v → ∃ a xs es, v = .ref a ∧ ess[i]? = some es ∧ H a = some (.lst xs) ∧ Ents H xs es := by
  induction h with
  | nil => intro i v h; simp at h
  | cons h1 h2 _ ih =>
    intro i v hv
    cases i with
    | zero =>
      cases hv
      exact ⟨_, _, _, rfl, rfl, h1, h2⟩
    | succ i => exact ih (i := i) hv
def dims (ess : List (List Ent)) : List Int := ess.map fun es => ((dimE es : Nat) : Int)
def plens (ks : List Pl) : List Int := ks.map fun k => (k.length : Int)
theorem dims_snoc {ess : List (List Ent)} {i : Nat} {es : List Ent} (h : ess[i]? = some es) : (dims (ess.take (i + 1))).map V.int = (dims (ess.take i)).map V.int ++ [V.int ((dimE es : Nat) : Int)] := by
  rw [List.take_add_one, h]
  unfold dims
  rw [List.map_append, List.map_append]
  rfl
theorem plens_snoc {ks : List Pl} {i : Nat} {k : Pl} (h : ks[i]? = some k) : (plens (ks.take (i + 1))).map V.int = (plens (ks.take i)).map V.int ++ [V.int (k.length : Int)] := by
  rw [List.take_add_one, h]
  unfold plens
  rw [List.map_append, List.map_append]
  rfl
section
variable {P : Program} {w : World} {K : PySem.W.Frag} {mg : Str → Option Value} {base : Heap}
def spSD (K : PySem.W.Frag) (M : Addr) : Sp := fun vs H Q E => ∃ (a b : Addr) (us ws : List V) (ess : List (List Ent)) (ks : List Pl), vs = [.ref a, .ref b] ∧ SqL K H a us ∧ RowsAt H us ess ∧ SqL K H b ws ∧ Pls H ws ks ∧ ess.length ≤ 1000 ∧ ks.length ≤ 1000 ∧
  (mixL ((dims ess ++ plens ks).filter nz) = true → ∀ d H', Same H H' → H' d = some (.xd errM) → E (.ref M) (some d) H') ∧ (mixL ((dims ess ++ plens ks).filter nz) = false → ∀ H', Same H H' → Q .non H')
theorem ok_same_dimension {f M fS : Addr} {fd fdS : FuncData} (D : C8.Def K mg "same_dimension" s_same_dimension f fd) (T : Bi mg) (DS : C8.Def K mg "same_lengths" s_same_lengths fS fdS) (bS : Binds K fdS ["lengths"] []) (GS : FnOk P w K mg base (L2.CX P w) 3 fS fdS ["lengths"] (spSL K M))
    (c_places_length : C8.Cal P w K mg base 1 "places_length" (spPLen K) []) : FnOk P w K mg base (L2.CX P w) 4 f fd ["rows", "places"] (spSD K M) := by
  obtain ⟨oc, od, dV, kV, doc, pm, an, cdv, ct, osl, rfl, lk, hcd⟩ := D.fn.ex
  refine fn_of lk hcd sc_same_dimension (fun vs H Q E h => ?_) fun A outer s H vs Q E hr h => ?_
  · obtain ⟨a, b, us, ws, ess, ks, rfl, _⟩ := h
    rfl
  · obtain ⟨a, b, us, ws, ess, ks, rfl, ha, hR, hb, hP, z1, z2, qE, qN⟩ := h
    refine ⟨_, (pss_one (ps_expr (pe_callS GS hr rfl DS.mgf DS.kp bS (fun σ => passAt (takes_of rfl rfl rfl rfl) σ) (pa_cons (pe_op op_cat (pe_lc (own := [("row", 2)]) (g := (gName 2)) (tt := tYes) rfl sc_same_dimension.nd (pi_list (pv 0)) (blkOk_by (N := ["rows", "places", "row", "place"]) (sc := C8.fnScope s_same_dimension) (by decide +kernel)) (fun _ _ _ _ _ => (pg_name (i := 2) sc_same_dimension.nd rfl (Or.inl rfl))) (fun _ _ _ _ _ => pts_nil) (fun _ _ _ _ _ => (C8.pe_c c_places_length hr (by decide) (by rfl) (pa_cons (pv 2) pa_nil)))) (pe_lc (own := [("place", 3)]) (g := (gName 3)) (tt := tYes) rfl sc_same_dimension.nd (pi_list (pv 1)) (blkOk_by (N := ["rows", "places", "row", "place"]) (sc := C8.fnScope s_same_dimension) (by decide +kernel)) (fun _ _ _ _ _ => (pg_name (i := 3) sc_same_dimension.nd rfl (Or.inl rfl))) (fun _ _ _ _ _ => pts_nil) (fun _ _ _ _ _ => (pe_callB (show CallR _ _ (Evl.rLenS K) from call_len_seq) (by rfl) T.n_len OT.b_len (pa_cons (pv 3) pa_nil))))) pa_nil)))), ?_⟩
    have l1 := hR.len
    have l2 := hP.len
    refine ⟨_, rfl, a, rfl, ⟨_, ha⟩, fun p np => ?_⟩
    refine lc_list (K := K) (xs := us) (fun i H2 => Same H H2 ∧ H2 p = some (.lst ((dims (ess.take i)).map V.int))) ?_ ?_ ?_ ?_
    · exact ⟨same_upd np, upd_same⟩
    · rintro i H2 _ ⟨sm, _⟩
      exact sm.seq ha
    · rintro i x H2 hx ⟨sm, hp⟩
      obtain ⟨a1, xs, es, rfl, he, h1, h2⟩ := (hR.mono sm).get hx
      have hi := (List.getElem?_eq_some_iff.mp he).1
      refine ⟨rfl, tYes_of ?_⟩
      refine ⟨_, rfl, a1, xs, es, rfl, .inl (.inl h1), h2, _, hp, ?_, same_mut sm np, ?_⟩
      · unfold dims
        rw [List.length_map, List.length_map, List.length_take]
        exact small1000 (by omega)
      · rw [upd_same, dims_snoc he]
    · rintro H2 ⟨sm2, hp⟩
      rw [l1, List.take_length] at hp
      refine ⟨_, rfl, b, rfl, ⟨_, sm2.seq hb⟩, fun p3 np3 => ?_⟩
      refine lc_list (K := K) (xs := ws) (fun i H3 => Same H2 H3 ∧ H3 p3 = some (.lst ((plens (ks.take i)).map V.int))) ?_ ?_ ?_ ?_
      · exact ⟨same_upd np3, upd_same⟩
      · rintro i H3 _ ⟨sm, _⟩
        exact (sm2.trans sm).seq hb
      · rintro i x H3 hx ⟨sm, hp3⟩
        obtain ⟨q3, k, rfl, hk, hq3⟩ := (hP.mono (sm2.trans sm)).get hx
        have hi := (List.getElem?_eq_some_iff.mp hk).1
        refine ⟨rfl, tYes_of ?_⟩
        refine ⟨_, rfl, q3, _, rfl, .inr (.inl (.inl hq3)), _, hp3, ?_, same_mut sm np3, ?_⟩
        · unfold plens
          rw [List.length_map, List.length_map, List.length_take]
          exact small1000 (by omega)
        · rw [upd_same, plens_snoc hk, List.length_map]
      · rintro H3 ⟨sm3, hp3⟩
        rw [l2, List.take_length] at hp3
        have sA := sm2.trans sm3
        have d1 : (dims ess).length = ess.length := List.length_map _
        have d2 : (plens ks).length = ks.length := List.length_map _
        refine ⟨p, p3, _, _, rfl, rfl, sm3 _ _ hp, hp3, ?_, fun p4 np4 => ?_⟩
        · rw [List.length_map, List.length_map, d1, d2]
          exact Nat.le_of_lt (small100k (by omega))
        have s4 : Same H3 (upd H3 p4 (.lst ((dims ess).map V.int ++ (plens ks).map V.int))) := same_upd np4
        have sB := sA.trans s4
        refine ⟨p4, dims ess ++ plens ks, rfl, .inl (.inl ?_), ?_, fun hm d H5 sm5 hd => qE hm d H5 (sB.trans sm5) hd, fun hm H5 sm5 => qN hm H5 (sB.trans sm5)⟩
        · rw [upd_same, List.map_append]
        · rw [List.length_append, d1, d2]
          omega
end
end OT

set_option Elab.async false
set_option linter.all false
set_option maxRecDepth 100000
set_option maxHeartbeats 2000000
namespace OT
open PySem PySem.Spec PyProof.Rows L2
section
variable {P : Program} {w : World} {K : PySem.W.Frag} {mg : Str → Option Value} {base : Heap}
def spShift (K : PySem.W.Frag) (M : Addr) : Sp := fun vs H Q E => ∃ (a b : Addr) (xs : List V) (es : List Ent) (l : Pl), vs = [.ref a, .ref b] ∧ H a = some (.lst xs) ∧ Ents H xs es ∧ es.length ≤ 1000 ∧ H b = some (.tup (l.map V.int)) ∧ (∀ e ∈ es, e.1.length ≤ 1000) ∧
  (mixL ((dims [es] ++ plens [l]).filter nz) = true → ∀ d H', Same H H' → H' d = some (.xd errM) → E (.ref M) (some d) H') ∧
  (mixL ((dims [es] ++ plens [l]).filter nz) = false → (∀ e ∈ es, e.1.length ≤ l.length) ∧ ∀ p ws H', Same H H' → H p = none → H' p = some (.lst ws) → Ents H' ws (movL es l) → Q (.ref p) H')
theorem ok_shift {f M fS : Addr} {fd fdS : FuncData} (D : C8.Def K mg "shift" s_shift f fd) (T : Bi mg) (DS : C8.Def K mg "same_dimension" s_same_dimension fS fdS) (bS : Binds K fdS ["rows", "places"] []) (GS : FnOk P w K mg base (L2.CX P w) 4 fS fdS ["rows", "places"] (spSD K M))
    (c_plus : C8.Cal P w K mg base 1 "plus" (spPlus K) []) : FnOk P w K mg base (L2.CX P w) 5 f fd ["row", "by"] (spShift K M) := by
  obtain ⟨oc, od, dV, kV, doc, pm, an, cdv, ct, osl, rfl, lk, hcd⟩ := D.fn.ex
  refine fn_of lk hcd sc_shift (fun vs H Q E h => ?_) fun A outer s H vs Q E hr h => ?_
  · obtain ⟨a, b, xs, es, l, rfl, _⟩ := h
    rfl
  · obtain ⟨a, b, xs, es, l, rfl, ha, hE, hz, hb, hle, qE, qN⟩ := h
    refine ⟨_, (pss_cons (ps_expr (pe_callS GS hr rfl DS.mgf DS.kp bS (fun σ => passAt (takes_of rfl rfl rfl rfl) σ) (pa_cons (pe_lst (pa_cons (pv 0) pa_nil)) (pa_cons (pe_lst (pa_cons (pv 1) pa_nil)) pa_nil))))
  (pss_one (ps_ret (pe_lc (own := [("place", 2), ("number", 3)]) (g := (gTup K 2 (gCons (gName 2) (gCons (gName 3) gNil)))) (tt := tYes) rfl sc_shift.nd (pi_list (pv 0)) (blkOk_by (N := ["row", "by", "place", "number"]) (sc := C8.fnScope s_shift) (by decide +kernel)) (fun _ _ _ _ _ => (pg_tup rfl (pgs_cons (pg_name (i := 2) sc_shift.nd rfl (Or.inl rfl)) (pgs_cons (pg_name (i := 3) sc_shift.nd rfl (Or.inl rfl)) pgs_nil)))) (fun _ _ _ _ _ => pts_nil) (fun _ _ _ _ _ => (pe_tup (pa_cons (C8.pe_c c_plus hr (by decide) (by rfl) (pa_cons (pv 2) (pa_cons (pv 1) pa_nil))) (pa_cons (pv 3) pa_nil)))))))), ?_⟩
    have hx := hE.len
    refine ⟨_, rfl, (by show 1 ≤ sizeLine; decide), fun p1 np1 => ?_⟩
    have s1 : Same H (upd H p1 (.lst [.ref a])) := same_upd np1
    refine ⟨_, rfl, (by show 1 ≤ sizeLine; decide), fun p2 np2 => ?_⟩
    have s2 : Same (upd H p1 (.lst [.ref a])) (upd (upd H p1 (.lst [.ref a])) p2 (.lst [.ref b])) := same_upd np2
    have sA := s1.trans s2
    refine ⟨p1, p2, [.ref a], [.ref b], [es], [l], rfl, .inl (.inl (s2 _ _ upd_same)), .cons (sA _ _ ha) (hE.mono sA) .nil, .inl (.inl upd_same), .cons (sA _ _ hb) .nil, (by show 1 ≤ 1000; decide), (by show 1 ≤ 1000; decide), fun hm d H3 sm hd => qE hm d H3 (sA.trans sm) hd, fun hm H3 sm3 => ?_⟩
    obtain ⟨hll, q⟩ := qN hm
    have sB := sA.trans sm3
    have hS3 : SqL K H3 a xs := .inl (.inl (sB _ _ ha))
    refine ⟨_, rfl, a, rfl, ⟨_, hS3⟩, fun p np => ?_⟩
    refine lc_list (K := K) (xs := xs) (fun i H4 => Same H3 H4 ∧ ∃ ws, H4 p = some (.lst ws) ∧ Ents H4 ws (movL (es.take i) l)) ?_ ?_ ?_ ?_
    · exact ⟨same_upd np, [], upd_same, .nil⟩
    · rintro i H4 _ ⟨sm, _⟩
      exact sm.seq hS3
    · rintro i x H4 hxi ⟨sm, ws, hp, hW⟩
      have sC := sB.trans sm
      obtain ⟨e, he, t, pe, rfl, ht, hpe⟩ := (hE.mono sC).get hxi
      obtain ⟨hi, hee⟩ := List.getElem?_eq_some_iff.mp he
      have hm := List.mem_of_getElem? he
      refine ⟨t, _, rfl, .inl (.inl ht), rfl, _, _, rfl, _, _, rfl, rfl, rfl, tYes_of ?_⟩
      refine ⟨_, rfl, _, rfl, pe, b, e.1, l, rfl, .inl (.inl hpe), .inl (.inl (sC _ _ hb)), hll e hm, hle e hm, fun p5 H5 sm5 hp5 => ?_⟩
      refine ⟨_, rfl, (by show 2 ≤ sizeLine; decide), fun t6 nt6 => ?_⟩
      have sm6 : Same H5 (upd H5 t6 (.tup [.ref p5, .int e.2])) := same_upd nt6
      have smX := sm5.trans sm6
      have hv : EntAt (upd H5 t6 (.tup [.ref p5, .int e.2])) (.ref t6) (plusP e.1 l, e.2) := ⟨t6, p5, rfl, upd_same, sm6 _ _ hp5⟩
      have hD := smX _ _ hp
      have hwl := hW.len
      refine ⟨ws, hD, ?_, same_mut (sm.trans smX) np, ws ++ [.ref t6], upd_same, ?_⟩
      · unfold movL at hwl
        rw [List.length_map, List.length_take] at hwl
        exact small100k (by omega)
      · unfold movL
        rw [take_snoc he, List.map_append]
        exact ((hW.mono smX).app (.cons hv .nil)).updL hD
    · rintro H4 ⟨sm, ws, hp, hW⟩
      rw [hx, List.take_length] at hW
      refine q p ws H4 (sB.trans sm) ?_ hp hW
      cases z : H p with
      | none => rfl
      | some o =>
        rw [sB _ _ z] at np
        cases np
end
end OT

set_option Elab.async false
set_option linter.all false
set_option maxRecDepth 100000
set_option maxHeartbeats 2000000
namespace OT
open PySem PySem.Spec PyProof.Rows L2
theorem Ents.rev {H : Hp} {vs : List V} {es : List Ent} (h : Ents H vs es) : Ents H vs.reverse es.reverse := by
  induction h with
  | nil => exact .nil
  | cons h1 _ ih =>
    rw [List.reverse_cons, List.reverse_cons]
    exact ih.app (.cons h1 .nil)
/-- tuple(xs) -/
def rTupOf (K : PySem.W.Frag) : List V → Hp → VK → Prop := fun args H Q => ∃ (b : Addr) (items : List V), args = [.ref b] ∧ ((SqL K H b items ∧ ∀ l, H l = none → Q (.ref l) (upd H l (.tup items))) ∨ (SqT K H b items ∧ Q (.ref b) H))
section
variable {P : Program} {w : World} {K : PySem.W.Frag} {mg : Str → Option Value} {base : Heap}
def spMirror : Sp := fun vs H Q _ => ∃ (a : Addr) (xs : List V) (es : List Ent), vs = [.ref a] ∧ H a = some (.lst xs) ∧ Ents H xs es ∧ es.length ≤ 1000 ∧ (∀ e ∈ es, e.1.length ≤ 1000) ∧ ∀ p ws H', Same H H' → H p = none → H' p = some (.lst ws) → Ents H' ws (mirP es) → Q (.ref p) H'
theorem c_mirror {f : Addr} {fd : FuncData} (D : C8.Def K mg "mirror" s_mirror f fd) (b : Binds K fd ["row"] []) (T : Bi mg) : C8.Cal P w K mg base 1 "mirror" spMirror [] := by
  refine C8.cal0 D b .nil sc_mirror (fun vs H Q E h => ?_) (fun cdv A outer s H vs Q E hr h => ?_)
  · obtain ⟨a, xs, es, rfl, _⟩ := h
    rfl
  · obtain ⟨a, xs, es, rfl, ha, hE, hz, hle, q⟩ := h
    refine ⟨_, (pss_one (ps_ret (pe_lc (own := [("place", 1), ("number", 2)]) (g := (gTup K 2 (gCons (gName 1) (gCons (gName 2) gNil)))) (tt := tYes) rfl sc_mirror.nd (pi_list (pe_revL (pv 0))) (blkOk_by (N := ["row", "place", "number", "x"]) (sc := C8.fnScope s_mirror) (by decide +kernel)) (fun _ _ _ _ _ => (pg_tup rfl (pgs_cons (pg_name (i := 1) sc_mirror.nd rfl (Or.inl rfl)) (pgs_cons (pg_name (i := 2) sc_mirror.nd rfl (Or.inl rfl)) pgs_nil)))) (fun _ _ _ _ _ => pts_nil) (fun _ _ _ _ _ => (pe_tup (pa_cons (pe_callTy (show CallR _ _ (rTupOf K) from call_tuple_of) (by rfl) T.n_tuple OT.b_tuple (pa_cons (pe_lc (own := [("x", 3)]) (g := (gName 3)) (tt := tYes) rfl sc_mirror.nd (show PI _ _ _ (iTup K (tVar 1)) from pi_tup (pe_var (i := 1) rfl (.inl rfl))) (blkOk_by (N := ["row", "place", "number", "x"]) (sc := { kind := .function, names := [(".0", .local), ("place", .local), ("number", .local), ("tuple", .globalImplicit)], isGenerator := false, isCoroutine := false }) (by decide +kernel)) (fun _ _ _ _ _ => (pg_name (i := 3) sc_mirror.nd rfl (Or.inl rfl))) (fun _ _ _ _ _ => pts_nil) (fun _ _ _ _ _ => (pe_un un_neg (pv 3)))) pa_nil)) (pa_cons (pv 2) pa_nil))))))), ?_⟩
    have hS : SqL K H a xs := .inl (.inl ha)
    have hx := hE.len
    refine ⟨_, rfl, a, xs, rfl, hS, fun ra nra => ?_⟩
    have s1 : Same H (upd H ra (.lst xs.reverse)) := same_upd nra
    have hra : (upd H ra (.lst xs.reverse)) ra = some (.lst xs.reverse) := upd_same
    generalize upd H ra (.lst xs.reverse) = H1 at s1 hra ⊢
    refine ⟨ra, rfl, ⟨_, .inl (.inl hra)⟩, fun p np => ?_⟩
    have hE1 : Ents H1 xs.reverse es.reverse := (hE.mono s1).rev
    refine lc_list (K := K) (xs := xs.reverse) (fun i H2 => Same H1 H2 ∧ ∃ ws, H2 p = some (.lst ws) ∧ Ents H2 ws ((es.reverse.take i).map fun e => (negP e.1, e.2))) ?_ ?_ ?_ ?_
    · exact ⟨same_upd np, [], upd_same, .nil⟩
    · rintro i H2 _ ⟨sm, _⟩
      exact .inl (.inl (sm _ _ hra))
    · rintro i x H2 hxi ⟨sm, ws, hp, hW⟩
      obtain ⟨e, he, t, pe, rfl, ht, hpe⟩ := (hE1.mono sm).get hxi
      obtain ⟨hi, hee⟩ := List.getElem?_eq_some_iff.mp he
      have hm := List.mem_reverse.mp (List.mem_of_getElem? he)
      rw [List.length_reverse] at hi
      refine ⟨t, _, rfl, .inl (.inl ht), rfl, _, _, rfl, _, _, rfl, rfl, rfl, tYes_of ?_⟩
      refine ⟨_, rfl, pe, rfl, ⟨_, .inl (.inl hpe)⟩, fun p3 np3 => ?_⟩
      refine lc_tup (K := K) (xs := e.1.map V.int) (fun j H3 => Same H2 H3 ∧ H3 p3 = some (.lst ((e.1.take j).map fun n => V.int (-n)))) ?_ ?_ ?_ ?_
      · exact ⟨same_upd np3, upd_same⟩
      · rintro j H3 _ ⟨sm3, _⟩
        exact .inl (.inl (sm3 _ _ hpe))
      · rintro j y H3 hy ⟨sm3, hp3⟩
        obtain ⟨hj, rfl⟩ := getm hy
        refine ⟨rfl, tYes_of ?_⟩
        refine ⟨_, rfl, _, rfl, _, hp3, ?_, same_mut sm3 np3, ?_⟩
        · rw [List.length_map, List.length_take]
          have := hle e hm
          exact small100k (by omega)
        · rw [upd_same, take_map_succ (fun n => V.int (-n)) hj]
      · rintro H3 ⟨sm3, hp3⟩
        rw [List.length_map, List.take_length] at hp3
        refine ⟨p3, _, rfl, .inl ⟨.inl (.inl hp3), fun l4 nl4 => ?_⟩⟩
        have sm4 : Same H3 (upd H3 l4 (.tup (e.1.map fun n => V.int (-n)))) := same_upd nl4
        have hl4 : (upd H3 l4 (.tup (e.1.map fun n => V.int (-n)))) l4 = some (.tup ((negP e.1).map V.int)) := by
          rw [upd_same]
          unfold negP
          rw [List.map_map]
          rfl
        generalize upd H3 l4 (.tup (e.1.map fun n => V.int (-n))) = H4 at sm4 hl4 ⊢
        refine ⟨_, rfl, (by show 2 ≤ sizeLine; decide), fun t6 nt6 => ?_⟩
        have sm6 : Same H4 (upd H4 t6 (.tup [.ref l4, .int e.2])) := same_upd nt6
        have smX := (sm3.trans sm4).trans sm6
        have hv : EntAt (upd H4 t6 (.tup [.ref l4, .int e.2])) (.ref t6) (negP e.1, e.2) := ⟨t6, l4, rfl, upd_same, sm6 _ _ hl4⟩
        have hD := smX _ _ hp
        have hwl := hW.len
        refine ⟨ws, hD, ?_, same_mut (sm.trans smX) np, ws ++ [.ref t6], upd_same, ?_⟩
        · rw [List.length_map, List.length_take, List.length_reverse] at hwl
          exact small100k (by omega)
        · rw [take_snoc he, List.map_append]
          exact ((hW.mono smX).app (.cons hv .nil)).updL hD
    · rintro H2 ⟨sm, ws, hp, hW⟩
      rw [List.length_reverse, hx, ← List.length_reverse, List.take_length] at hW
      refine q p ws H2 (s1.trans sm) ?_ hp hW
      cases z : H p with
      | none => rfl
      | some o =>
        rw [s1 _ _ z] at np
        cases np
end
end OT

set_option Elab.async false
set_option linter.all false
set_option maxRecDepth 100000
set_option maxHeartbeats 2000000
namespace OT
open PySem PySem.Spec PyProof.Rows L2
theorem cut_take {xs : List Int} {n : Nat} (h : n ≤ xs.length) : cutV (xs.map V.int) none (some (n : Int)) = (xs.take n).map V.int := by
  unfold cutV
  rw [HT.sIx_none, HT.sIx_nat, List.length_map, Nat.min_eq_left h, List.drop_zero, Nat.sub_zero, List.map_take]
section
variable {P : Program} {w : World} {K : PySem.W.Frag} {mg : Str → Option Value} {base : Heap}
def spByUnit (K : PySem.W.Frag) : Sp := fun vs H Q _ => ∃ (a b : Addr) (xs : List V) (es : List Ent) (m : Int) (l : Pl), vs = [.ref a, .int m, .ref b] ∧ Lst H a xs es ∧ SqT K H b (l.map V.int) ∧ (∀ e ∈ es, e.1.length ≤ l.length) ∧ l.length ≤ 1000 ∧ (-(2 ^ 64) < m ∧ m < 2 ^ 64) ∧ wantRow H (scaleL (movL es l) m) Q
theorem c__law_by_unit {f : Addr} {fd : FuncData} (D : C8.Def K mg "_law_by_unit" s__law_by_unit f fd) (b : Binds K fd ["_law_row_here", "_law_sign", "_law_place"] []) (T : Bi mg) (c__law_moved : C8.Cal P w K mg base 2 "_law_moved" (spMoved K) []) (c__law_scaled : C8.Cal P w K mg base 2 "_law_scaled" spScaled []) : C8.Cal P w K mg base 3 "_law_by_unit" (spByUnit K) [] := by
  refine C8.cal0 D b .nil sc__law_by_unit (fun vs H Q E h => ?_) (fun cdv A outer s H vs Q E hr h => ?_)
  · obtain ⟨a, b, xs, es, m, l, rfl, _⟩ := h
    rfl
  · obtain ⟨a, b, xs, es, m, l, rfl, hA, hB, hle, hz, hm, q⟩ := h
    refine ⟨_, (pss_one (ps_ret (C8.pe_c c__law_scaled hr (by decide) (by rfl) (pa_cons (C8.pe_c c__law_moved hr (by decide) (by rfl) (pa_cons (pv 0) (pa_cons (pv 2) pa_nil))) (pa_cons (pv 1) pa_nil))))), ?_⟩
    have haz := hA.z
    refine ⟨_, rfl, _, rfl, a, b, xs, es, l, rfl, ⟨.inl (.inl hA.l), hA.e, small100k (by omega)⟩, hB, hle, hz, fun p ws H2 sm np hp hW => ?_⟩
    refine ⟨_, rfl, p, ws, movL es l, m, rfl, ⟨hp, hW, by unfold movL; rw [List.length_map]; exact haz, fun e he z => ?_⟩, hm, q.mono sm⟩
    obtain ⟨y, hy, rfl⟩ := List.mem_map.mp he
    have z2 : (plusP y.1 l).length = 0 := by
      have z3 : plusP y.1 l = [] := z
      rw [z3]
      rfl
    rw [plusP_len (hle y hy)] at z2
    exact hA.p y hy (List.length_eq_zero_iff.mp z2)
def zsN : List Int := [8, 13, 13, 13, 1801, 1801, 1801]
def spNear (K : PySem.W.Frag) : Sp := fun vs H Q _ => ∃ (c : Int) (n : Nat), vs = [.int c, .int (n : Int)] ∧ 1 ≤ n ∧ n ≤ 3 ∧ ∀ (l : Pl) p H', l.length = n → (∀ x ∈ l, x.natAbs ≤ 900) → Same H H' → H' p = some (.tup (l.map V.int)) → Q (.ref p) H'
theorem c__law_near_or_far {f : Addr} {fd : FuncData} (D : C8.Def K mg "_law_near_or_far" s__law_near_or_far f fd) (b : Binds K fd ["_law_cell_here", "_law_size"] []) (T : Bi mg) (c__law_draws : C8.Cal P w K mg base 1 "_law_draws" (spDraws K) []) : C8.Cal P w K mg base 2 "_law_near_or_far" (spNear K) [] := by
  refine C8.cal0 D b .nil sc__law_near_or_far (fun vs H Q E h => ?_) (fun cdv A outer s H vs Q E hr h => ?_)
  · obtain ⟨c, n, rfl, _⟩ := h
    rfl
  · obtain ⟨c, n, rfl, hn1, hn3, q⟩ := h
    refine ⟨_, (pss_cons (ps_set (i := 2) sc__law_near_or_far.nd rfl (Or.inl rfl) (C8.pe_c c__law_draws hr (by decide) (by rfl) (pa_cons (pv 0) (pa_cons (pe_lst (pa_cons pe_int (pa_cons pe_int (pa_cons pe_int (pa_cons pe_int (pa_cons pe_int (pa_cons pe_int (pa_cons pe_int pa_nil)))))))) pa_nil))))
  (pss_cons (ps_if (pt_cmpR op_eq (pe_ix ix_list (pv 2) pe_int (fun _ _ => rfl)) pe_int (nomark _)) (pss_one (ps_ret (pe_slice sl_tupA (pe_tup (pa_cons (pe_op op_sub (pe_ix ix_list (pv 2) pe_int (fun _ _ => rfl)) pe_int) (pa_cons (pe_op op_sub (pe_ix ix_list (pv 2) pe_int (fun _ _ => rfl)) pe_int) (pa_cons (pe_op op_sub (pe_ix ix_list (pv 2) pe_int (fun _ _ => rfl)) pe_int) pa_nil)))) po_none (po_some (pv 1))))) pss_nil)
  (pss_one (ps_ret (pe_slice sl_tupA (pe_tup (pa_cons (pe_op op_sub (pe_ix ix_list (pv 2) pe_int (fun _ _ => rfl)) pe_int) (pa_cons (pe_op op_sub (pe_ix ix_list (pv 2) pe_int (fun _ _ => rfl)) pe_int) (pa_cons (pe_op op_sub (pe_ix ix_list (pv 2) pe_int (fun _ _ => rfl)) pe_int) pa_nil)))) po_none (po_some (pv 1))))))), ?_⟩
    refine ⟨_, rfl, by decide, fun p np => ?_⟩
    refine ⟨p, zsN, c, rfl, .inl (.inl upd_same), by decide, by decide, fun ds H1 p1 hin sm1 np1 hp1 => ?_⟩
    have sA : Same H H1 := (same_upd np).trans sm1
    have L1 : SqL K H1 p1 (ds.map V.int) := .inl (.inl hp1)
    obtain ⟨d0, g0, g0a, g0b⟩ := hin.get (i := 0) (z := 8) rfl
    obtain ⟨d1, g1, g1a, g1b⟩ := hin.get (i := 1) (z := 13) rfl
    obtain ⟨d2, g2, g2a, g2b⟩ := hin.get (i := 2) (z := 13) rfl
    obtain ⟨d3, g3, g3a, g3b⟩ := hin.get (i := 3) (z := 13) rfl
    obtain ⟨d4, g4, g4a, g4b⟩ := hin.get (i := 4) (z := 1801) rfl
    obtain ⟨d5, g5, g5a, g5b⟩ := hin.get (i := 5) (z := 1801) rfl
    obtain ⟨d6, g6, g6a, g6b⟩ := hin.get (i := 6) (z := 1801) rfl
    have fin : ∀ (x y z : Int) (t : Addr) (H2 : Hp), x.natAbs ≤ 900 → y.natAbs ≤ 900 → z.natAbs ≤ 900 → Same H1 H2 → H2 t = some (.tup [.int x, .int y, .int z]) → rSlA K (.ref t) none (some (n : Int)) H2 Q := fun x y z t H2 hx hy hz s2 ht => by
      have hT : SqT K H2 t [.int x, .int y, .int z] := .inl (.inl ht)
      have hcut : cutV [V.int x, V.int y, V.int z] none (some (n : Int)) = ([x, y, z].take n).map V.int := cut_take (xs := [x, y, z]) (by show n ≤ 3; exact hn3)
      have hlt : ([x, y, z].take n).length = n := by
        rw [List.length_take]
        show min n 3 = n
        omega
      have hall : ∀ u ∈ [x, y, z], u.natAbs ≤ 900 := fun u hu => by
        simp only [List.mem_cons, List.not_mem_nil, or_false] at hu
        rcases hu with rfl | rfl | rfl <;> assumption
      refine ⟨t, _, rfl, hT, fun hw => ?_, fun hw t3 nt3 => ?_⟩
      · have h3 : n = 3 := by
          have h2 := hw.2
          rw [HT.sIx_nat] at h2
          have h4 : min n 3 = 3 := h2
          omega
        exact q [x, y, z] t H2 h3.symm hall (sA.trans s2) ht
      · refine q ([x, y, z].take n) t3 _ hlt (fun u hu => hall u (List.mem_of_mem_take hu)) ((sA.trans s2).trans (same_upd nt3)) ?_
        rw [upd_same, hcut]
    refine ⟨_, rfl, p1, _, 0, _, rfl, rfl, L1, atI_nat (j := 0) g0, rfl, _, rfl, iteD (fun _ => ?_) (fun _ => ?_)⟩
    · refine ⟨_, rfl, p1, _, 4, _, rfl, rfl, L1, atI_nat (j := 4) g4, _, _, rfl, rfl, _, rfl, p1, _, 5, _, rfl, rfl, L1, atI_nat (j := 5) g5, _, _, rfl, rfl, _, rfl, p1, _, 6, _, rfl, rfl, L1, atI_nat (j := 6) g6, _, _, rfl, rfl, (by show 3 ≤ sizeLine; decide), fun t nt => ?_⟩
      refine ⟨_, rfl, _, rfl, ?_⟩
      exact fin _ _ _ t _ (by omega) (by omega) (by omega) (same_upd nt) upd_same
    · refine ⟨_, rfl, p1, _, 1, _, rfl, rfl, L1, atI_nat (j := 1) g1, _, _, rfl, rfl, _, rfl, p1, _, 2, _, rfl, rfl, L1, atI_nat (j := 2) g2, _, _, rfl, rfl, _, rfl, p1, _, 3, _, rfl, rfl, L1, atI_nat (j := 3) g3, _, _, rfl, rfl, (by show 3 ≤ sizeLine; decide), fun t nt => ?_⟩
      refine ⟨_, rfl, _, rfl, ?_⟩
      exact fin _ _ _ t _ (by omega) (by omega) (by omega) (same_upd nt) upd_same
end
end OT

set_option Elab.async false
set_option linter.all false
set_option maxRecDepth 100000
set_option maxHeartbeats 2000000
namespace OT
open PySem PySem.Spec PyProof.Rows L2
/-- the least numbers of the places, direction by direction -/
def IsLow (es : List Ent) (l : Pl) : Prop := ∀ (k : Nat) (y : Int), l[k]? = some y → (∃ e ∈ es, e.1[k]? = some y) ∧ ∀ e ∈ es, ∀ x, e.1[k]? = some x → y ≤ x
def IsTop (es : List Ent) (l : Pl) : Prop := ∀ (k : Nat) (y : Int), l[k]? = some y → (∃ e ∈ es, e.1[k]? = some y) ∧ ∀ e ∈ es, ∀ x, e.1[k]? = some x → x ≤ y
theorem IsLow.one {es : List Ent} {l m : Pl} (hl : l.length = m.length) (h1 : IsLow es l) (h2 : IsLow es m) : l = m := by
  refine List.ext_getElem? fun k => ?_
  by_cases c : k < l.length
  · have d : k < m.length := by omega
    rw [List.getElem?_eq_getElem c, List.getElem?_eq_getElem d]
    obtain ⟨⟨e, he, hk⟩, a1⟩ := h1 k _ (List.getElem?_eq_getElem c)
    obtain ⟨⟨f, hf, hk2⟩, a2⟩ := h2 k _ (List.getElem?_eq_getElem d)
    have := a1 f hf _ hk2
    have := a2 e he _ hk
    exact congrArg some (by omega)
  · rw [List.getElem?_eq_none (by omega), List.getElem?_eq_none (by omega)]
theorem IsTop.one {es : List Ent} {l m : Pl} (hl : l.length = m.length) (h1 : IsTop es l) (h2 : IsTop es m) : l = m := by
  refine List.ext_getElem? fun k => ?_
  by_cases c : k < l.length
  · have d : k < m.length := by omega
    rw [List.getElem?_eq_getElem c, List.getElem?_eq_getElem d]
    obtain ⟨⟨e, he, hk⟩, a1⟩ := h1 k _ (List.getElem?_eq_getElem c)
    obtain ⟨⟨f, hf, hk2⟩, a2⟩ := h2 k _ (List.getElem?_eq_getElem d)
    have := a1 f hf _ hk2
    have := a2 e he _ hk
    exact congrArg some (by omega)
  · rw [List.getElem?_eq_none (by omega), List.getElem?_eq_none (by omega)]
section
variable {P : Program} {w : World} {K : PySem.W.Frag} {mg : Str → Option Value} {base : Heap}
def spExt (K : PySem.W.Frag) (IS : List Ent → Pl → Prop) : Sp := fun vs H Q _ => ∃ (a : Addr) (xs : List V) (es : List Ent) (n : Nat), vs = [.ref a] ∧ SqL K H a xs ∧ Ents H xs es ∧ 0 < es.length ∧ es.length ≤ 1000 ∧ (∀ e ∈ es, e.1.length = n) ∧ n ≤ 3 ∧ ∀ p H' (l : Pl), l.length = n → IS es l → Same H H' → H' p = some (.tup (l.map V.int)) → Q (.ref p) H'
theorem c__law_corner {f : Addr} {fd : FuncData} (D : C8.Def K mg "_law_corner" s__law_corner f fd) (b : Binds K fd ["_law_row_here"] []) (T : Bi mg) : C8.Cal P w K mg base 1 "_law_corner" (spExt K IsLow) [] := by
  refine C8.cal0 D b .nil sc__law_corner (fun vs H Q E h => ?_) (fun cdv A outer s H vs Q E hr h => ?_)
  · obtain ⟨a, xs, es, n, rfl, _⟩ := h
    rfl
  · obtain ⟨a, xs, es, n, rfl, hSL, hE, hpos, hz, hn, hn3, q⟩ := h
    refine ⟨_, (pss_one (ps_ret (pe_callTy call_tuple_of (by rfl) T.n_tuple OT.b_tuple (pa_cons (pe_lc (own := [("_law_k", 1)]) (g := (gName 1)) (tt := tYes) rfl sc__law_corner.nd (pi_range1 rfl T.n_range (pa_cons (pe_callB call_len_seq (by rfl) T.n_len OT.b_len (pa_cons (pe_ix ix_tup (pe_ix ix_list (pv 0) pe_int (fun _ _ => rfl)) pe_int (fun _ _ => rfl)) pa_nil)) pa_nil)) (blkOk_by (N := ["_law_row_here", "_law_k", "_law_entry"]) (sc := C8.fnScope s__law_corner) (by decide +kernel)) (fun _ _ _ _ _ => (pg_name (i := 1) sc__law_corner.nd rfl (Or.inr rfl))) (fun _ _ _ _ _ => pts_nil) (fun _ _ _ _ _ => (pe_callB (show CallR _ _ (rMin K) from cr_min rfl) (by rfl) T.n_min OT.b_min (pa_cons (pe_lc (own := [("_law_entry", 2)]) (g := (gName 2)) (tt := tYes) rfl sc__law_corner.nd (show PI _ _ _ (iList K (tVar 0)) from pi_list (pe_var (i := 0) rfl (.inr (.inl rfl)))) (blkOk_by (N := ["_law_row_here", "_law_k", "_law_entry"]) (sc := { kind := .function, names := [(".0", .local), ("_law_k", .cell), ("min", .globalImplicit), ("_law_row_here", .cell)], isGenerator := false, isCoroutine := false }) (by decide +kernel)) (fun _ _ _ _ _ => (pg_name (i := 2) sc__law_corner.nd rfl (Or.inl rfl))) (fun _ _ _ _ _ => pts_nil) (fun _ _ _ _ _ => (pe_ix (show IxR _ (rIxT K) from ix_tup) (pe_ix (show IxR _ (rIxT K) from ix_tup) (pv 2) pe_int (fun _ _ => rfl)) (pv 1) (fun _ _ => rfl)))) pa_nil)))) pa_nil)))), ?_⟩
    have hx := hE.len
    obtain ⟨v0, hv0, t0, p0, rfl, ht0, hp0⟩ := hE.at (i := 0) hpos
    have hn0 : (es[0]'hpos).1.length = n := hn _ (List.getElem_mem hpos)
    refine ⟨_, rfl, a, _, 0, _, rfl, rfl, hSL, atI_nat (j := 0) hv0, t0, _, 0, _, rfl, rfl, .inl (.inl ht0), atI_nat (j := 0) rfl, p0, _, rfl, .inr (.inl (.inl hp0)), _, rfl, by omega, b62 (by rw [List.length_map]; omega), fun p np => ?_⟩
    rw [List.length_map, hn0, Int.toNat_natCast]
    refine lc_range (lo := 0) (n := n) (fun i H2 => Same H H2 ∧ ∃ ls : Pl, ls.length = i ∧ IsLow es ls ∧ H2 p = some (.lst (ls.map V.int))) ⟨same_upd np, [], rfl, fun k y h => by simp at h, upd_same⟩ ?_ ?_
    · rintro i H2 hi ⟨sm, ls, hll, hls, hp⟩
      refine ⟨rfl, tYes_of ?_⟩
      refine ⟨_, rfl, a, rfl, ⟨_, sm.seq hSL⟩, fun p3 np3 => ?_⟩
      have e0 : (0 : Int) + (i : Int) = (i : Int) := Int.zero_add _
      refine lc_list (K := K) (xs := xs) (fun j H3 => Same H2 H3 ∧ H3 p3 = some (.lst ((es.take j).map fun e => V.int (e.1.getD i 0)))) ?_ ?_ ?_ ?_
      · exact ⟨same_upd np3, upd_same⟩
      · rintro j H3 _ ⟨sm3, _⟩
        exact sm3.seq (sm.seq hSL)
      · rintro j x H3 hxj ⟨sm3, hp3⟩
        obtain ⟨e, he, t, pe, rfl, ht, hpe⟩ := (hE.mono (sm.trans sm3)).get hxj
        have hel : e.1.length = n := hn e (List.mem_of_getElem? he)
        refine ⟨rfl, tYes_of ?_⟩
        have hat : atI (e.1.map V.int) ((0 : Int) + (i : Int)) = some (.int (e.1.getD i 0)) := by
          rw [e0]
          refine atI_nat ?_
          have hil : i < e.1.length := by omega
          rw [List.getElem?_map, List.getElem?_eq_getElem hil, List.getD_eq_getElem?_getD, List.getElem?_eq_getElem hil]
          rfl
        refine ⟨_, rfl, t, _, 0, _, rfl, rfl, .inl (.inl ht), atI_nat (j := 0) rfl, _, rfl, pe, _, _, _, rfl, rfl, .inl (.inl hpe), hat, _, hp3, ?_, same_mut sm3 np3, ?_⟩
        · rw [List.length_map, List.length_take]
          exact small1000 (by omega)
        · rw [upd_same, take_snoc he, List.map_append]
          rfl
      · rintro H3 ⟨sm3, hp3⟩
        rw [hx, List.take_length] at hp3
        refine ⟨p3, es.map fun e => e.1.getD i 0, rfl, .inl (.inl (by rw [hp3, List.map_map]; rfl)), by rw [List.length_map]; exact hpos, fun m hm1 hm2 => ?_⟩
        have hD := sm3 _ _ hp
        refine ⟨_, hD, ?_, same_mut (sm.trans sm3) np, ls ++ [m], by rw [List.length_append, hll]; rfl, ?_, ?_⟩
        · rw [List.length_map, hll]
          exact small100k (by omega)
        · intro k y hk
          have getD_some : ∀ e ∈ es, ∀ z, e.1[i]? = some z ↔ e.1.getD i 0 = z := fun e he z => by
            have hil : i < e.1.length := by rw [hn e he]; exact hi
            rw [List.getD_eq_getElem?_getD, List.getElem?_eq_getElem hil]
            exact ⟨fun h => Option.some.inj h, fun h => congrArg some h⟩
          by_cases hki : k < i
          · rw [List.getElem?_append_left (by omega)] at hk
            exact hls k y hk
          · by_cases e : k = i
            · subst e
              rw [List.getElem?_append_right (by omega), hll, Nat.sub_self] at hk
              have hk : m = y := Option.some.inj hk
              subst hk
              obtain ⟨e, he, hem⟩ := List.mem_map.mp hm1
              refine ⟨⟨e, he, (getD_some e he m).mpr hem⟩, fun e' he' x hx' => ?_⟩
              have := hm2 _ (List.mem_map_of_mem (f := fun e : Ent => e.1.getD k 0) he')
              rw [← (getD_some e' he' x).mp hx']
              exact this
            · rw [List.getElem?_eq_none (by rw [List.length_append, hll]; show i + 1 ≤ k; omega)] at hk
              cases hk
        · rw [upd_same, List.map_append]
          rfl
    · rintro H2 ⟨sm, ls, hll, hls, hp⟩
      refine ⟨p, _, rfl, .inl ⟨.inl (.inl hp), fun l4 nl4 => ?_⟩⟩
      exact q l4 _ ls hll hls (sm.trans (same_upd nl4)) upd_same
theorem c__law_top {f : Addr} {fd : FuncData} (D : C8.Def K mg "_law_top" s__law_top f fd) (b : Binds K fd ["_law_row_here"] []) (T : Bi mg) : C8.Cal P w K mg base 1 "_law_top" (spExt K IsTop) [] := by
  refine C8.cal0 D b .nil sc__law_top (fun vs H Q E h => ?_) (fun cdv A outer s H vs Q E hr h => ?_)
  · obtain ⟨a, xs, es, n, rfl, _⟩ := h
    rfl
  · obtain ⟨a, xs, es, n, rfl, hSL, hE, hpos, hz, hn, hn3, q⟩ := h
    refine ⟨_, (pss_one (ps_ret (pe_callTy call_tuple_of (by rfl) T.n_tuple OT.b_tuple (pa_cons (pe_lc (own := [("_law_k", 1)]) (g := (gName 1)) (tt := tYes) rfl sc__law_top.nd (pi_range1 rfl T.n_range (pa_cons (pe_callB call_len_seq (by rfl) T.n_len OT.b_len (pa_cons (pe_ix ix_tup (pe_ix ix_list (pv 0) pe_int (fun _ _ => rfl)) pe_int (fun _ _ => rfl)) pa_nil)) pa_nil)) (blkOk_by (N := ["_law_row_here", "_law_k", "_law_entry"]) (sc := C8.fnScope s__law_top) (by decide +kernel)) (fun _ _ _ _ _ => (pg_name (i := 1) sc__law_top.nd rfl (Or.inr rfl))) (fun _ _ _ _ _ => pts_nil) (fun _ _ _ _ _ => (pe_callB (show CallR _ _ (rMax K) from cr_max rfl) (by rfl) T.n_max OT.b_max (pa_cons (pe_lc (own := [("_law_entry", 2)]) (g := (gName 2)) (tt := tYes) rfl sc__law_top.nd (show PI _ _ _ (iList K (tVar 0)) from pi_list (pe_var (i := 0) rfl (.inr (.inl rfl)))) (blkOk_by (N := ["_law_row_here", "_law_k", "_law_entry"]) (sc := { kind := .function, names := [(".0", .local), ("_law_k", .cell), ("max", .globalImplicit), ("_law_row_here", .cell)], isGenerator := false, isCoroutine := false }) (by decide +kernel)) (fun _ _ _ _ _ => (pg_name (i := 2) sc__law_top.nd rfl (Or.inl rfl))) (fun _ _ _ _ _ => pts_nil) (fun _ _ _ _ _ => (pe_ix (show IxR _ (rIxT K) from ix_tup) (pe_ix (show IxR _ (rIxT K) from ix_tup) (pv 2) pe_int (fun _ _ => rfl)) (pv 1) (fun _ _ => rfl)))) pa_nil)))) pa_nil)))), ?_⟩
    have hx := hE.len
    obtain ⟨v0, hv0, t0, p0, rfl, ht0, hp0⟩ := hE.at (i := 0) hpos
    have hn0 : (es[0]'hpos).1.length = n := hn _ (List.getElem_mem hpos)
    refine ⟨_, rfl, a, _, 0, _, rfl, rfl, hSL, atI_nat (j := 0) hv0, t0, _, 0, _, rfl, rfl, .inl (.inl ht0), atI_nat (j := 0) rfl, p0, _, rfl, .inr (.inl (.inl hp0)), _, rfl, by omega, b62 (by rw [List.length_map]; omega), fun p np => ?_⟩
    rw [List.length_map, hn0, Int.toNat_natCast]
    refine lc_range (lo := 0) (n := n) (fun i H2 => Same H H2 ∧ ∃ ls : Pl, ls.length = i ∧ IsTop es ls ∧ H2 p = some (.lst (ls.map V.int))) ⟨same_upd np, [], rfl, fun k y h => by simp at h, upd_same⟩ ?_ ?_
    · rintro i H2 hi ⟨sm, ls, hll, hls, hp⟩
      refine ⟨rfl, tYes_of ?_⟩
      refine ⟨_, rfl, a, rfl, ⟨_, sm.seq hSL⟩, fun p3 np3 => ?_⟩
      have e0 : (0 : Int) + (i : Int) = (i : Int) := Int.zero_add _
      refine lc_list (K := K) (xs := xs) (fun j H3 => Same H2 H3 ∧ H3 p3 = some (.lst ((es.take j).map fun e => V.int (e.1.getD i 0)))) ?_ ?_ ?_ ?_
      · exact ⟨same_upd np3, upd_same⟩
      · rintro j H3 _ ⟨sm3, _⟩
        exact sm3.seq (sm.seq hSL)
      · rintro j x H3 hxj ⟨sm3, hp3⟩
        obtain ⟨e, he, t, pe, rfl, ht, hpe⟩ := (hE.mono (sm.trans sm3)).get hxj
        have hel : e.1.length = n := hn e (List.mem_of_getElem? he)
        refine ⟨rfl, tYes_of ?_⟩
        have hat : atI (e.1.map V.int) ((0 : Int) + (i : Int)) = some (.int (e.1.getD i 0)) := by
          rw [e0]
          refine atI_nat ?_
          have hil : i < e.1.length := by omega
          rw [List.getElem?_map, List.getElem?_eq_getElem hil, List.getD_eq_getElem?_getD, List.getElem?_eq_getElem hil]
          rfl
        refine ⟨_, rfl, t, _, 0, _, rfl, rfl, .inl (.inl ht), atI_nat (j := 0) rfl, _, rfl, pe, _, _, _, rfl, rfl, .inl (.inl hpe), hat, _, hp3, ?_, same_mut sm3 np3, ?_⟩
        · rw [List.length_map, List.length_take]
          exact small1000 (by omega)
        · rw [upd_same, take_snoc he, List.map_append]
          rfl
      · rintro H3 ⟨sm3, hp3⟩
        rw [hx, List.take_length] at hp3
        refine ⟨p3, es.map fun e => e.1.getD i 0, rfl, .inl (.inl (by rw [hp3, List.map_map]; rfl)), by rw [List.length_map]; exact hpos, fun m hm1 hm2 => ?_⟩
        have hD := sm3 _ _ hp
        refine ⟨_, hD, ?_, same_mut (sm.trans sm3) np, ls ++ [m], by rw [List.length_append, hll]; rfl, ?_, ?_⟩
        · rw [List.length_map, hll]
          exact small100k (by omega)
        · intro k y hk
          have getD_some : ∀ e ∈ es, ∀ z, e.1[i]? = some z ↔ e.1.getD i 0 = z := fun e he z => by
            have hil : i < e.1.length := by rw [hn e he]; exact hi
            rw [List.getD_eq_getElem?_getD, List.getElem?_eq_getElem hil]
            exact ⟨fun h => Option.some.inj h, fun h => congrArg some h⟩
          by_cases hki : k < i
          · rw [List.getElem?_append_left (by omega)] at hk
            exact hls k y hk
          · by_cases e : k = i
            · subst e
              rw [List.getElem?_append_right (by omega), hll, Nat.sub_self] at hk
              have hk : m = y := Option.some.inj hk
              subst hk
              obtain ⟨e, he, hem⟩ := List.mem_map.mp hm1
              refine ⟨⟨e, he, (getD_some e he m).mpr hem⟩, fun e' he' x hx' => ?_⟩
              have := hm2 _ (List.mem_map_of_mem (f := fun e : Ent => e.1.getD k 0) he')
              rw [← (getD_some e' he' x).mp hx']
              exact this
            · rw [List.getElem?_eq_none (by rw [List.length_append, hll]; show i + 1 ≤ k; omega)] at hk
              cases hk
        · rw [upd_same, List.map_append]
          rfl
    · rintro H2 ⟨sm, ls, hll, hls, hp⟩
      refine ⟨p, _, rfl, .inl ⟨.inl (.inl hp), fun l4 nl4 => ?_⟩⟩
      exact q l4 _ ls hll hls (sm.trans (same_upd nl4)) upd_same
end
end OT

set_option Elab.async false
set_option linter.all false
set_option maxRecDepth 100000
set_option maxHeartbeats 2000000
namespace OT
open PySem PySem.Spec PyProof.Rows L2
def YN (K : PySem.W.Frag) (as : List Addr) (i : Nat) (H : Hp) (v : V) (H' : Hp) : Prop := ∃ T ys, v = .ref T ∧ H T = none ∧ H' = upd H T (.tup ys) ∧ ys.length = as.length ∧ ∀ (j : Nat) (a : Addr) (xs : List V), as[j]? = some a → SqT K H a xs → xs[i]? = ys[j]?
theorem walk_zipN {K : PySem.W.Frag} {as : List Addr} {n : Nat} : Walk (OZ.ItzN K as n) n (fun H => OZ.Cols K H as n) (YN K as) := by
  refine ⟨fun i _ hi q => ⟨hi, q⟩, fun _ q => ⟨Nat.le_refl _, q⟩, fun i H v H' _ q y => y⟩
/-- a list of pairs -/
structure Prs (H : Hp) (ws : List V) (lo hi : Pl) : Prop where
  l1 : ws.length = lo.length
  l2 : lo.length = hi.length
  at_ : ∀ (k : Nat) (v : V), ws[k]? = some v → ∃ t x y, v = .ref t ∧ lo[k]? = some x ∧ hi[k]? = some y ∧ H t = some (.tup [.int x, .int y])
theorem Prs.mono {H H' : Hp} {ws : List V} {lo hi : Pl} (s : ∀ b o, H b = some o → H' b = some o) (h : Prs H ws lo hi) : Prs H' ws lo hi :=
  ⟨h.l1, h.l2, fun k v e => by
    obtain ⟨t, x, y, a, b, c, d⟩ := h.at_ k v e
    exact ⟨t, x, y, a, b, c, s _ _ d⟩⟩
theorem Prs.updL {H : Hp} {D : Addr} {l l' : List V} {ws : List V} {lo hi : Pl} (hD : H D = some (.lst l)) (h : Prs H ws lo hi) : Prs (upd H D (.lst l')) ws lo hi :=
  ⟨h.l1, h.l2, fun k v e => by
    obtain ⟨t, x, y, a, b, c, d⟩ := h.at_ k v e
    exact ⟨t, x, y, a, b, c, by rw [upd_ne (ne_lst d hD)]; exact d⟩⟩
theorem Prs.snoc {H : Hp} {ws : List V} {lo hi : Pl} {t : Addr} {x y : Int} (h : Prs H ws lo hi) (ht : H t = some (.tup [.int x, .int y])) : Prs H (ws ++ [.ref t]) (lo ++ [x]) (hi ++ [y]) := by
  have l1 := h.l1
  have l2 := h.l2
  refine ⟨by rw [List.length_append, List.length_append, l1]; rfl, by rw [List.length_append, List.length_append, l2]; rfl, fun k v e => ?_⟩
  by_cases c : k < ws.length
  · rw [List.getElem?_append_left c] at e
    obtain ⟨t, x, y, a, b, c', d⟩ := h.at_ k v e
    exact ⟨t, x, y, a, by rw [List.getElem?_append_left (by omega)]; exact b, by rw [List.getElem?_append_left (by omega)]; exact c', d⟩
  · by_cases q : k = ws.length
    · subst q
      rw [List.getElem?_append_right (by omega), Nat.sub_self] at e
      cases e
      refine ⟨t, x, y, rfl, ?_, ?_, ht⟩
      · rw [List.getElem?_append_right (by omega), ← l1, Nat.sub_self]
        rfl
      · rw [List.getElem?_append_right (by omega), ← l2, ← l1, Nat.sub_self]
        rfl
    · rw [List.getElem?_eq_none (by rw [List.length_append]; show ws.length + 1 ≤ k; omega)] at e
      cases e
theorem ext_snoc {es : List Ent} {ls : Pl} {n i : Nat} {m : Int} (hll : ls.length = i) (hi : i < n) (hn : ∀ e ∈ es, e.1.length = n) (R : Int → Int → Prop) (h : ∀ (k : Nat) (y : Int), ls[k]? = some y → (∃ e ∈ es, e.1[k]? = some y) ∧ ∀ e ∈ es, ∀ x, e.1[k]? = some x → R y x)
    (h1 : m ∈ es.map fun e => e.1.getD i 0) (h2 : ∀ y ∈ es.map (fun e => e.1.getD i 0), R m y) : ∀ (k : Nat) (y : Int), (ls ++ [m])[k]? = some y → (∃ e ∈ es, e.1[k]? = some y) ∧ ∀ e ∈ es, ∀ x, e.1[k]? = some x → R y x := by
  intro k y hk
  have getD_some : ∀ e ∈ es, ∀ z, e.1[i]? = some z ↔ e.1.getD i 0 = z := fun e he z => by
    have hil : i < e.1.length := by rw [hn e he]; exact hi
    rw [List.getD_eq_getElem?_getD, List.getElem?_eq_getElem hil]
    exact ⟨fun h => Option.some.inj h, fun h => congrArg some h⟩
  by_cases hki : k < i
  · rw [List.getElem?_append_left (by omega)] at hk
    exact h k y hk
  · by_cases e : k = i
    · subst e
      rw [List.getElem?_append_right (by omega), hll, Nat.sub_self] at hk
      have hk : m = y := Option.some.inj hk
      subst hk
      obtain ⟨e, he, hem⟩ := List.mem_map.mp h1
      refine ⟨⟨e, he, (getD_some e he m).mpr hem⟩, fun e' he' x hx' => ?_⟩
      have := h2 _ (List.mem_map_of_mem (f := fun e : Ent => e.1.getD k 0) he')
      rw [← (getD_some e' he' x).mp hx']
      exact this
    · rw [List.getElem?_eq_none (by rw [List.length_append, hll]; show i + 1 ≤ k; omega)] at hk
      cases hk
section
variable {P : Program} {w : World} {K : PySem.W.Frag} {mg : Str → Option Value} {base : Heap}
def spBounds (K : PySem.W.Frag) : Sp := fun vs H Q _ => ∃ (a : Addr) (xs : List V) (es : List Ent) (n : Nat), vs = [.ref a] ∧ SqL K H a xs ∧ Ents H xs es ∧ 0 < es.length ∧ es.length ≤ 1000 ∧ (∀ e ∈ es, e.1.length = n) ∧ n ≤ 1000 ∧ ∀ p ws H' (lo hi : Pl), lo.length = n → IsLow es lo → IsTop es hi → Same H H' → H' p = some (.lst ws) → Prs H' ws lo hi → Q (.ref p) H'
theorem c_bounds {f : Addr} {fd : FuncData} (D : C8.Def K mg "bounds" s_bounds f fd) (b : Binds K fd ["row"] []) (T : Bi mg) : C8.Cal P w K mg base 1 "bounds" (spBounds K) [] := by
  refine C8.cal0 D b .nil sc_bounds (fun vs H Q E h => ?_) (fun cdv A outer s H vs Q E hr h => ?_)
  · obtain ⟨a, xs, es, n, rfl, _⟩ := h
    rfl
  · obtain ⟨a, xs, es, n, rfl, hSL, hE, hpos, hz, hn, hn3, q⟩ := h
    refine ⟨_, (pss_cons (ps_setLc (i := 1) (own := [("place", 3), ("number", 4)]) (g := (gTup K 2 (gCons (gName 3) (gCons (gName 4) gNil)))) (tt := tYes) rfl sc_bounds.nd rfl rfl (sw_true rfl rfl rfl rfl) (pi_list (pv 0)) (blkOk_by (N := ["row", "places", "column", "place", "number"]) (sc := C8.fnScope s_bounds) (by decide +kernel)) (fun _ _ _ _ _ => (pg_tup rfl (pgs_cons (pg_name (i := 3) sc_bounds.nd rfl (Or.inl rfl)) (pgs_cons (pg_name (i := 4) sc_bounds.nd rfl (Or.inl rfl)) pgs_nil)))) (fun _ _ _ _ _ => pts_nil) (fun _ _ _ _ _ => (pv 3)))
  (pss_one (ps_ret (pe_lc (own := [("column", 2)]) (g := (gName 2)) (tt := tYes) rfl sc_bounds.nd (OZ.pi_zipS (by rfl) T.n_zip (pv 1)) (blkOk_by (N := ["row", "places", "column", "place", "number"]) (sc := C8.fnScope s_bounds) (by decide +kernel)) (fun _ _ _ _ _ => (pg_name (i := 2) sc_bounds.nd rfl (Or.inl rfl))) (fun _ _ _ _ _ => pts_nil) (fun _ _ _ _ _ => (pe_tup (pa_cons (pe_callB (show CallR _ _ (OZ.rMinT K) from OZ.cr_minT rfl) (by rfl) T.n_min OT.b_min (pa_cons (pv 2) pa_nil)) (pa_cons (pe_callB (show CallR _ _ (OZ.rMaxT K) from OZ.cr_maxT rfl) (by rfl) T.n_max OT.b_max (pa_cons (pv 2) pa_nil)) pa_nil)))))))), ?_⟩
    have hx := hE.len
    refine ⟨_, rfl, a, rfl, ⟨_, hSL⟩, fun p np => ?_⟩
    refine lc_list (K := K) (xs := xs) (fun i H2 => Same H H2 ∧ ∃ as : List Addr, as.length = i ∧ H2 p = some (.lst (as.map V.ref)) ∧ ∀ (j : Nat) (a : Addr), as[j]? = some a → ∃ e, es[j]? = some e ∧ H a = some (.tup (e.1.map V.int))) ?_ ?_ ?_ ?_
    · exact ⟨same_upd np, [], rfl, upd_same, fun j a h => by simp at h⟩
    · rintro i H2 _ ⟨sm, _⟩
      exact sm.seq hSL
    · rintro i x H2 hxi ⟨sm, as, hal, hp, hA⟩
      obtain ⟨e, he, t, pe, rfl, ht, hpe⟩ := hE.get hxi
      obtain ⟨hi, hee⟩ := List.getElem?_eq_some_iff.mp he
      refine ⟨t, _, rfl, .inl (.inl (sm _ _ ht)), rfl, _, _, rfl, _, _, rfl, rfl, rfl, tYes_of ?_⟩
      refine ⟨_, rfl, _, hp, ?_, same_mut sm np, as ++ [pe], by rw [List.length_append, hal]; rfl, ?_, fun j a' h => ?_⟩
      · rw [List.length_map]
        exact small1000 (by omega)
      · rw [upd_same, List.map_append]
        rfl
      · by_cases c : j < as.length
        · rw [List.getElem?_append_left c] at h
          exact hA j a' h
        · by_cases d : j = as.length
          · subst d
            rw [List.getElem?_append_right (by omega), Nat.sub_self] at h
            cases h
            rw [hal]
            exact ⟨e, he, hpe⟩
          · rw [List.getElem?_eq_none (by rw [List.length_append]; show as.length + 1 ≤ j; omega)] at h
            cases h
    · rintro H2 ⟨sm, as, hal, hp, hA⟩
      rw [hx] at hal
      have hcol : ∀ H3, Same H H3 → OZ.Cols K H3 as n := fun H3 s3 a' ha' => by
        obtain ⟨j, hj, rfl⟩ := List.mem_iff_getElem.mp ha'
        obtain ⟨e, he, q⟩ := hA j _ (List.getElem?_eq_getElem hj)
        exact ⟨e.1.map V.int, .inl (.inl (s3 _ _ q)), by rw [List.length_map]; exact hn e (List.mem_of_getElem? he)⟩
      refine ⟨_, rfl, p, as, n, rfl, .inl (.inl hp), ?_, by omega, hcol H2 sm, fun p2 np2 => ?_⟩
      · intro z
        rw [z] at hal
        exact absurd hal (by simp; omega)
      refine lc_it (walk_zipN (K := K) (as := as) (n := n)) (fun i H3 => Same H2 H3 ∧ ∃ (ws : List V) (lo hi : Pl), lo.length = i ∧ IsLow es lo ∧ IsTop es hi ∧ H3 p2 = some (.lst ws) ∧ Prs H3 ws lo hi) ?_ ?_ ?_ ?_
      · exact ⟨same_upd np2, [], [], [], rfl, fun k y h => by simp at h, fun k y h => by simp at h, upd_same, rfl, rfl, fun k v h => by simp at h⟩
      · rintro i H3 _ ⟨sm3, _⟩
        exact hcol H3 (sm.trans sm3)
      · rintro i x H3 H4 hi ⟨sm3, ws, lo, hi2, hl, hlo, hhi, hp2, hW⟩ ⟨T1, ys, rfl, nT, rfl, hyl, hy⟩
        have hys : ys = (es.map fun e => e.1.getD i 0).map V.int := by
          refine List.ext_getElem? fun j => ?_
          by_cases c : j < as.length
          · obtain ⟨e, he, q⟩ := hA j _ (List.getElem?_eq_getElem c)
            have q2 := hy j _ (e.1.map V.int) (List.getElem?_eq_getElem c) (.inl (.inl (sm3 _ _ (sm _ _ q))))
            have hil : i < e.1.length := by rw [hn e (List.mem_of_getElem? he)]; exact hi
            rw [← q2, List.getElem?_map, List.getElem?_map, List.getElem?_map, he, List.getElem?_eq_getElem hil]
            show _ = some (V.int (e.1.getD i 0))
            rw [List.getD_eq_getElem?_getD, List.getElem?_eq_getElem hil]
            rfl
          · rw [List.getElem?_eq_none (by omega), List.getElem?_eq_none (by rw [List.length_map, List.length_map]; omega)]
        subst hys
        have sT : Same H3 (upd H3 T1 (.tup ((es.map fun e => e.1.getD i 0).map V.int))) := same_upd nT
        have hT : (upd H3 T1 (.tup ((es.map fun e => e.1.getD i 0).map V.int))) T1 = some (.tup ((es.map fun e => e.1.getD i 0).map V.int)) := upd_same
        generalize upd H3 T1 (.tup ((es.map fun e => e.1.getD i 0).map V.int)) = H4 at sT hT ⊢
        have hpos2 : 0 < (es.map fun e => e.1.getD i 0).length := by rw [List.length_map]; exact hpos
        refine ⟨rfl, tYes_of ?_⟩
        refine ⟨_, rfl, T1, _, rfl, .inl (.inl hT), hpos2, fun m hm1 hm2 => ⟨_, rfl, T1, _, rfl, .inl (.inl hT), hpos2, fun M hM1 hM2 => ⟨(by show 2 ≤ sizeLine; decide), fun t5 nt5 => ?_⟩⟩⟩
        have s5 : Same H4 (upd H4 t5 (.tup [.int m, .int M])) := same_upd nt5
        have ht5 : (upd H4 t5 (.tup [.int m, .int M])) t5 = some (.tup [.int m, .int M]) := upd_same
        generalize upd H4 t5 (.tup [.int m, .int M]) = H5 at s5 ht5 ⊢
        have sX := sT.trans s5
        have hD := sX _ _ hp2
        have hwl := hW.l1
        have hl2 := hW.l2
        refine ⟨ws, hD, small100k (by omega), same_mut (sm3.trans sX) np2, ws ++ [.ref t5], lo ++ [m], hi2 ++ [M], by rw [List.length_append, hl]; rfl, ?_, ?_, upd_same, ?_⟩
        · exact ext_snoc hl hi hn (fun y x => y ≤ x) hlo hm1 hm2
        · exact ext_snoc (hl2.symm.trans hl) hi hn (fun y x => x ≤ y) hhi hM1 hM2
        · exact ((hW.mono sX).snoc ht5).updL hD
      · rintro H3 ⟨sm3, ws, lo, hi2, hl, hlo, hhi, hp2, hW⟩
        exact q p2 ws H3 lo hi2 hl hlo hhi (sm.trans sm3) hp2 hW
end
end OT

set_option Elab.async false
set_option linter.all false
set_option maxRecDepth 100000
set_option maxHeartbeats 2000000
namespace OT
open PySem PySem.Spec PyProof.Rows L2
/-- a def that may raise, where it does not -/
theorem quiet {P : Program} {w : World} {K : PySem.W.Frag} {mg : Str → Option Value} {base : Heap} {k : Nat} {f : Addr} {fd : FuncData} {ps : List Str} {sp sp' : Sp} (F : FnOk P w K mg base (L2.CX P w) k f fd ps sp') (h : ∀ vs H Q E, sp vs H Q E → sp' vs H Q E0) : FnOk P w K mg base CX0 k f fd ps sp := by
  refine ⟨fun vs H Q E q => F.len _ _ _ _ (h _ _ _ _ q), fun A outer s H args us vs Q E hr he hb hv q => ?_⟩
  refine codeAny_mono (F.run A outer s H args us vs Q E0 hr he hb hv (h _ _ _ _ q)) fun r s' z => ?_
  cases r with
  | ok fl => cases fl with
    | ret u => exact z
    | next => exact z
    | brk => exact z
    | cont => exact z
  | error e =>
    obtain ⟨_, _, _, _, _, _, _, _, _, _, _, _, q⟩ := z
    exact q.elim
theorem quietC {P : Program} {w : World} {K : PySem.W.Frag} {mg : Str → Option Value} {base : Heap} {k : Nat} {x : Str} {st : Stmt} {f : Addr} {fd : FuncData} {ps : List Str} {ds : List Value} {dvs : List V} {sp sp' : Sp} (D : C8.Def K mg x st f fd) (b : Binds K fd ps ds) (hd : Vals dvs ds) (F : FnOk P w K mg base (L2.CX P w) k f fd ps sp') (h : ∀ vs H Q E, sp vs H Q E → sp' vs H Q E0) : C8.Cal P w K mg base k x sp dvs :=
  ⟨f, fd, ps, ds, quiet F h, D.mgf, D.kp, b, hd⟩
def errZ : List (Str × V) := [("word", .str "ZeroRow")]
section
variable {P : Program} {w : World} {K : PySem.W.Frag} {mg : Str → Option Value} {base : Heap}
/-- a row at a list that stands still -/
structure RowH (K : PySem.W.Frag) (H : Hp) (a : Addr) (xs : List V) (es : List Ent) (n : Nat) : Prop where
  l : SqL K H a xs
  e : Ents H xs es
  z : es.length ≤ 1000
  dm : ∀ e ∈ es, e.1.length = n
  n3 : n ≤ 1000
theorem RowH.mono {H H' : Hp} {a : Addr} {xs : List V} {es : List Ent} {n : Nat} (s : Same H H') (h : RowH K H a xs es n) : RowH K H' a xs es n := ⟨s.seq h.l, h.e.mono s, h.z, h.dm, h.n3⟩
theorem RowH.nil {H : Hp} {a : Addr} {n : Nat} (h : SqL K H a []) (hn : n ≤ 1000) : RowH K H a [] [] n := ⟨h, .nil, by decide, fun e he => (by cases he), hn⟩
def spExtE (K : PySem.W.Frag) (Z : Addr) (IS : List Ent → Pl → Prop) : Sp := fun vs H Q E => ∃ (a : Addr) (xs : List V) (es : List Ent) (n : Nat), vs = [.ref a] ∧ RowH K H a xs es n ∧ (es = [] → ∀ d H', Same H H' → H' d = some (.xd errZ) → E (.ref Z) (some d) H') ∧
  (es ≠ [] → ∀ p H' (l : Pl), l.length = n → IS es l → Same H H' → H' p = some (.tup (l.map V.int)) → Q (.ref p) H')
theorem raiseZ {H : Hp} {Z fB : Addr} (X : ErrI K mg "ZeroRow" Z fB) {σ : L2.St} {W : Value → Option Addr → Hp → Prop} (q : ∀ d H', Same H H' → H' d = some (.xd errZ) → W (.ref Z) (some d) H') : tMkO Z (spTE K) [] tNil σ H W := by
  refine ⟨(by show 0 ≤ 1000; decide), fun a na => ⟨a, Z, _, rfl, upd_same, X.t, fun d nd ne => ?_⟩⟩
  have nd3 : H d = none := by
    rw [upd_ne ne] at nd
    exact nd
  refine ⟨rfl, d, _, upd_same, ?_, nd3, q d _ ?_ upd_same⟩
  · rw [upd_ne ne, upd_same]
    rfl
  · intro b o hb2
    have nba : b ≠ a := ne_of_none hb2 na
    have nbd : b ≠ d := ne_of_none hb2 nd3
    rw [upd_ne nbd, del_ne nba, upd_ne nba, upd_ne nbd, upd_ne nba]
    exact hb2
theorem ents_nil {H : Hp} {xs : List V} {es : List Ent} (h : Ents H xs es) : xs = [] ↔ es = [] := by
  have := h.len
  constructor
  · rintro rfl
    exact List.length_eq_zero_iff.mp this.symm
  · rintro rfl
    exact List.length_eq_zero_iff.mp this
theorem ok_low_corner {f Z fB : Addr} {fd fdB : FuncData} (D : C8.Def K mg "low_corner" s_low_corner f fd) (T : Bi mg) (X : ErrI K mg "ZeroRow" Z fB) (GB : FnOk P w K mg base L2.CX0 1 fB fdB ["self"] (spTE K)) (bB : Binds K fdB ["self"] []) (c_bounds : C8.Cal P w K mg base 1 "bounds" (spBounds K) []) :
    FnOk P w K mg base (L2.CX P w) 3 f fd ["row"] (spExtE K Z IsLow) := by
  obtain ⟨oc, od, dV, kV, doc, pm, an, cdv, ct, osl, rfl, lk, hcd⟩ := D.fn.ex
  refine fn_of lk hcd sc_low_corner (fun vs H Q E h => ?_) fun A outer s H vs Q E hr h => ?_
  · obtain ⟨a, xs, es, n, rfl, _⟩ := h
    rfl
  · obtain ⟨a, xs, es, n, rfl, hR, qE, qN⟩ := h
    refine ⟨_, (pss_cons (ps_if (pt_not (pt_truth (pv 0) (by intro _; rfl))) (pss_one (ps_raise rfl (takes_of rfl rfl rfl rfl) (pmk_oex0 X.t.ox X.i X.ty GB hr bB pass0 (by rfl) X.g))) pss_nil)
  (pss_one (ps_ret (pe_callTy call_tuple_of (by rfl) T.n_tuple OT.b_tuple (pa_cons (pe_lc (own := [("low", 1), ("high", 2)]) (g := (gTup K 2 (gCons (gName 1) (gCons (gName 2) gNil)))) (tt := tYes) rfl sc_low_corner.nd (pi_list (C8.pe_c c_bounds hr (by decide) (by rfl) (pa_cons (pv 0) pa_nil))) (blkOk_by (N := ["row", "low", "high"]) (sc := C8.fnScope s_low_corner) (by decide +kernel)) (fun _ _ _ _ _ => (pg_tup rfl (pgs_cons (pg_name (i := 1) sc_low_corner.nd rfl (Or.inl rfl)) (pgs_cons (pg_name (i := 2) sc_low_corner.nd rfl (Or.inl rfl)) pgs_nil)))) (fun _ _ _ _ _ => pts_nil) (fun _ _ _ _ _ => (pv 1))) pa_nil))))), ?_⟩
    refine ⟨_, rfl, _, .inl ⟨xs, hR.l, rfl⟩, ?_⟩
    by_cases he : es = []
    · have hx : xs = [] := (ents_nil hR.e).mpr he
      subst hx
      refine iteT ?_
      exact raiseZ X (qE he)
    · have hpos : 0 < es.length := List.length_pos_iff.mpr he
      have hxl := hR.e.len
      obtain ⟨v0, r0, rfl⟩ : ∃ v r, xs = v :: r := by
        cases xs with
        | nil => rw [← hxl] at hpos; exact absurd hpos (Nat.lt_irrefl _)
        | cons v r => exact ⟨v, r, rfl⟩
      refine iteF ?_
      refine ⟨_, rfl, a, _, es, n, rfl, hR.l, hR.e, hpos, hR.z, hR.dm, hR.n3, fun p ws H2 lo hi hl hlo hhi sm hp hW => ⟨p, rfl, ⟨ws, .inl (.inl hp)⟩, fun p2 np2 => ?_⟩⟩
      have hn3 := hR.n3
      have l1 := hW.l1
      have l2 := hW.l2
      refine lc_list (K := K) (xs := ws) (fun i H3 => Same H2 H3 ∧ H3 p2 = some (.lst (((lo).take i).map V.int))) ?_ ?_ ?_ ?_
      · exact ⟨same_upd np2, upd_same⟩
      · rintro i H3 _ ⟨sm3, _⟩
        exact .inl (.inl (sm3 _ _ hp))
      · rintro i v H3 hv ⟨sm3, hp2⟩
        obtain ⟨t, x, y, rfl, hx, hy, ht⟩ := (hW.mono sm3).at_ i v hv
        refine ⟨t, _, rfl, .inl (.inl ht), rfl, _, _, rfl, _, _, rfl, rfl, rfl, tYes_of ?_⟩
        have hi : (lo)[i]? = some (x) := hx
        refine ⟨_, rfl, _, hp2, ?_, same_mut sm3 np2, ?_⟩
        · have hw : i < ws.length := (List.getElem?_eq_some_iff.mp hv).1
          rw [List.length_map, List.length_take]
          exact small100k (by omega)
        · rw [upd_same, List.take_add_one, hi, List.map_append]
          rfl
      · rintro H3 ⟨sm3, hp2⟩
        have hle : (lo).length = n := hl
        rw [l1, hl, ← hle, List.take_length] at hp2
        refine ⟨p2, _, rfl, .inl ⟨.inl (.inl hp2), fun l4 nl4 => ?_⟩⟩
        exact qN he l4 _ (lo) hle hlo ((sm.trans sm3).trans (same_upd nl4)) upd_same
/-- the widths -/
def subZ (hi lo : Pl) : Pl := List.zipWith (fun y x => y - x) hi lo
def IsSpan (es : List Ent) (l : Pl) : Prop := ∃ lo hi, lo.length = l.length ∧ hi.length = l.length ∧ IsLow es lo ∧ IsTop es hi ∧ l = subZ hi lo
theorem subZ_get {hi lo : Pl} {i : Nat} {x y : Int} (hx : lo[i]? = some x) (hy : hi[i]? = some y) : (subZ hi lo)[i]? = some (y - x) := by
  unfold subZ
  rw [List.getElem?_zipWith, hx, hy]
theorem subZ_len {hi lo : Pl} {n : Nat} (h1 : lo.length = n) (h2 : hi.length = n) : (subZ hi lo).length = n := by
  unfold subZ
  rw [List.length_zipWith, h1, h2, Nat.min_self]
theorem ok_spans {f Z fB : Addr} {fd fdB : FuncData} (D : C8.Def K mg "spans" s_spans f fd) (T : Bi mg) (X : ErrI K mg "ZeroRow" Z fB) (GB : FnOk P w K mg base L2.CX0 1 fB fdB ["self"] (spTE K)) (bB : Binds K fdB ["self"] []) (c_bounds : C8.Cal P w K mg base 1 "bounds" (spBounds K) []) :
    FnOk P w K mg base (L2.CX P w) 3 f fd ["row"] (spExtE K Z IsSpan) := by
  obtain ⟨oc, od, dV, kV, doc, pm, an, cdv, ct, osl, rfl, lk, hcd⟩ := D.fn.ex
  refine fn_of lk hcd sc_spans (fun vs H Q E h => ?_) fun A outer s H vs Q E hr h => ?_
  · obtain ⟨a, xs, es, n, rfl, _⟩ := h
    rfl
  · obtain ⟨a, xs, es, n, rfl, hR, qE, qN⟩ := h
    refine ⟨_, (pss_cons (ps_if (pt_not (pt_truth (pv 0) (by intro _; rfl))) (pss_one (ps_raise rfl (takes_of rfl rfl rfl rfl) (pmk_oex0 X.t.ox X.i X.ty GB hr bB pass0 (by rfl) X.g))) pss_nil)
  (pss_one (ps_ret (pe_callTy call_tuple_of (by rfl) T.n_tuple OT.b_tuple (pa_cons (pe_lc (own := [("low", 1), ("high", 2)]) (g := (gTup K 2 (gCons (gName 1) (gCons (gName 2) gNil)))) (tt := tYes) rfl sc_spans.nd (pi_list (C8.pe_c c_bounds hr (by decide) (by rfl) (pa_cons (pv 0) pa_nil))) (blkOk_by (N := ["row", "low", "high"]) (sc := C8.fnScope s_spans) (by decide +kernel)) (fun _ _ _ _ _ => (pg_tup rfl (pgs_cons (pg_name (i := 1) sc_spans.nd rfl (Or.inl rfl)) (pgs_cons (pg_name (i := 2) sc_spans.nd rfl (Or.inl rfl)) pgs_nil)))) (fun _ _ _ _ _ => pts_nil) (fun _ _ _ _ _ => (pe_op op_sub (pv 2) (pv 1)))) pa_nil))))), ?_⟩
    refine ⟨_, rfl, _, .inl ⟨xs, hR.l, rfl⟩, ?_⟩
    by_cases he : es = []
    · have hx : xs = [] := (ents_nil hR.e).mpr he
      subst hx
      refine iteT ?_
      exact raiseZ X (qE he)
    · have hpos : 0 < es.length := List.length_pos_iff.mpr he
      have hxl := hR.e.len
      obtain ⟨v0, r0, rfl⟩ : ∃ v r, xs = v :: r := by
        cases xs with
        | nil => rw [← hxl] at hpos; exact absurd hpos (Nat.lt_irrefl _)
        | cons v r => exact ⟨v, r, rfl⟩
      refine iteF ?_
      refine ⟨_, rfl, a, _, es, n, rfl, hR.l, hR.e, hpos, hR.z, hR.dm, hR.n3, fun p ws H2 lo hi hl hlo hhi sm hp hW => ⟨p, rfl, ⟨ws, .inl (.inl hp)⟩, fun p2 np2 => ?_⟩⟩
      have hn3 := hR.n3
      have l1 := hW.l1
      have l2 := hW.l2
      refine lc_list (K := K) (xs := ws) (fun i H3 => Same H2 H3 ∧ H3 p2 = some (.lst (((subZ hi lo).take i).map V.int))) ?_ ?_ ?_ ?_
      · exact ⟨same_upd np2, upd_same⟩
      · rintro i H3 _ ⟨sm3, _⟩
        exact .inl (.inl (sm3 _ _ hp))
      · rintro i v H3 hv ⟨sm3, hp2⟩
        obtain ⟨t, x, y, rfl, hx, hy, ht⟩ := (hW.mono sm3).at_ i v hv
        refine ⟨t, _, rfl, .inl (.inl ht), rfl, _, _, rfl, _, _, rfl, rfl, rfl, tYes_of ?_⟩
        have hi : (subZ hi lo)[i]? = some (y - x) := subZ_get hx hy
        refine ⟨_, rfl, _, rfl, _, _, rfl, rfl, _, hp2, ?_, same_mut sm3 np2, ?_⟩
        · have hw : i < ws.length := (List.getElem?_eq_some_iff.mp hv).1
          rw [List.length_map, List.length_take]
          exact small100k (by omega)
        · rw [upd_same, List.take_add_one, hi, List.map_append]
          rfl
      · rintro H3 ⟨sm3, hp2⟩
        have hle : (subZ hi lo).length = n := subZ_len hl (l2.symm.trans hl)
        rw [l1, hl, ← hle, List.take_length] at hp2
        refine ⟨p2, _, rfl, .inl ⟨.inl (.inl hp2), fun l4 nl4 => ?_⟩⟩
        exact qN he l4 _ (subZ hi lo) hle ⟨lo, hi, hl.trans hle.symm, (l2.symm.trans hl).trans hle.symm, hlo, hhi, rfl⟩ ((sm.trans sm3).trans (same_upd nl4)) upd_same
end
end OT

set_option Elab.async false
set_option linter.all false
set_option maxRecDepth 100000
set_option maxHeartbeats 2000000
namespace OT
open PySem PySem.Spec PyProof.Rows L2
/-- the sign of the first entry -/
def sgnE : List Ent → Int
  | [] => 1
  | e :: _ => if e.2 > 0 then 1 else -1
theorem sgnE_ne (es : List Ent) : sgnE es ≠ 0 := by
  cases es with
  | nil => decide
  | cons e r =>
    show (if e.2 > 0 then (1 : Int) else -1) ≠ 0
    by_cases c : e.2 > 0
    · rw [if_pos c]; decide
    · rw [if_neg c]; decide
theorem sgnE_64 (es : List Ent) : -(2 ^ 64) < sgnE es ∧ sgnE es < 2 ^ 64 := by
  cases es with
  | nil => exact ⟨by decide, by decide⟩
  | cons e r =>
    show -(2 ^ 64) < (if e.2 > 0 then (1 : Int) else -1) ∧ (if e.2 > 0 then (1 : Int) else -1) < 2 ^ 64
    by_cases c : e.2 > 0
    · rw [if_pos c]; exact ⟨by decide, by decide⟩
    · rw [if_neg c]; exact ⟨by decide, by decide⟩
/-- the normal row of the entries -/
def NormIs (es g : List Ent) : Prop := ∃ l : Pl, l.length = dimE es ∧ IsLow es l ∧ RowIs g (scaleL (movL es (negP l)) (sgnE es))
theorem NormIs.one {es g h : List Ent} (h1 : NormIs es g) (h2 : NormIs es h) : g = h := by
  obtain ⟨l, ll, hl, r1⟩ := h1
  obtain ⟨m, lm, hm, r2⟩ := h2
  have := hl.one (ll.trans lm.symm) hm
  subst this
  exact r1.one r2
theorem mix2 {x y : Nat} (h : x = y) : mixL ([(x : Int), (y : Int)].filter nz) = false := by
  subst h
  cases c : nz (x : Int) with
  | false =>
    have : [(x : Int), (x : Int)].filter nz = [] := by
      rw [List.filter_cons, if_neg (by rw [c]; decide), List.filter_cons, if_neg (by rw [c]; decide)]
      rfl
    rw [this]
    rfl
  | true =>
    have : [(x : Int), (x : Int)].filter nz = [(x : Int), (x : Int)] := by
      rw [List.filter_cons, if_pos c, List.filter_cons, if_pos c]
      rfl
    rw [this]
    unfold mixL
    simp
theorem dimE_eq {es : List Ent} {n : Nat} (h : ∀ e ∈ es, e.1.length = n) (hp : es ≠ []) : dimE es = n := by
  cases es with
  | nil => exact absurd rfl hp
  | cons e r => exact h e List.mem_cons_self
theorem dimE_scale {es : List Ent} {s : Int} (hs : s ≠ 0) : dimE (scaleP es s) = dimE es := by
  unfold scaleP
  rw [if_neg hs]
  cases es <;> rfl
section
variable {P : Program} {w : World} {K : PySem.W.Frag} {mg : Str → Option Value} {base : Heap}
def spUnitE (K : PySem.W.Frag) (Z : Addr) : Sp := fun vs H Q E => ∃ (a : Addr) (xs : List V) (es : List Ent) (n : Nat), vs = [.ref a] ∧ RowH K H a xs es n ∧ (es = [] → ∀ d H', Same H H' → H' d = some (.xd errZ) → E (.ref Z) (some d) H') ∧
  (es ≠ [] → ∀ t p H' (l : Pl), l.length = n → IsLow es l → Same H H' → H' p = some (.tup (l.map V.int)) → H' t = some (.tup [.int (sgnE es), .ref p]) → Q (.ref t) H')
theorem ok_unit_of {f Z fL : Addr} {fd fdL : FuncData} (D : C8.Def K mg "unit_of" s_unit_of f fd) (T : Bi mg) (DL : C8.Def K mg "low_corner" s_low_corner fL fdL) (bL : Binds K fdL ["row"] []) (GL : FnOk P w K mg base (L2.CX P w) 3 fL fdL ["row"] (spExtE K Z IsLow)) :
    FnOk P w K mg base (L2.CX P w) 4 f fd ["row"] (spUnitE K Z) := by
  obtain ⟨oc, od, dV, kV, doc, pm, an, cdv, ct, osl, rfl, lk, hcd⟩ := D.fn.ex
  refine fn_of lk hcd sc_unit_of (fun vs H Q E h => ?_) fun A outer s H vs Q E hr h => ?_
  · obtain ⟨a, xs, es, n, rfl, _⟩ := h
    rfl
  · obtain ⟨a, xs, es, n, rfl, hR, qE, qN⟩ := h
    refine ⟨_, (pss_cons (ps_set (i := 1) sc_unit_of.nd rfl (Or.inl rfl) (pe_callS GL hr rfl DL.mgf DL.kp bL (fun σ => passAt (takes_of rfl rfl rfl rfl) σ) (pa_cons (pv 0) pa_nil)))
  (pss_one (ps_ret (pe_tup (pa_cons (pe_ifExp (pt_cmpR op_gt (pe_ix ix_tup (pe_ix ix_list (pv 0) pe_int (fun _ _ => rfl)) pe_int (fun _ _ => rfl)) pe_int (nomark _)) pe_int (pe_un un_neg pe_int)) (pa_cons (pv 1) pa_nil)))))), ?_⟩
    refine ⟨_, rfl, a, xs, es, n, rfl, hR, qE, fun hne p H2 l hl hlow sm hp => ?_⟩
    have hR2 := hR.mono sm
    have hpos : 0 < es.length := List.length_pos_iff.mpr hne
    obtain ⟨v0, hv0, t0, p0, rfl, ht0, hp0⟩ := hR2.e.at (i := 0) hpos
    have hs : sgnE es = if (es[0]'hpos).2 > 0 then 1 else -1 := by
      cases es with
      | nil => exact absurd rfl hne
      | cons e r => rfl
    have fin : ∀ z : Int, z = sgnE es → 2 ≤ sizeLine ∧ ∀ t, H2 t = none → Q (.ref t) (upd H2 t (.tup [.int z, .ref p])) := fun z hz => by
      refine ⟨by decide, fun t nt => ?_⟩
      have st : Same H2 (upd H2 t (.tup [.int z, .ref p])) := same_upd nt
      exact qN hne t p _ l hl hlow (sm.trans st) (st _ _ hp) (by rw [upd_same, hz])
    refine ⟨_, rfl, a, _, 0, _, rfl, rfl, hR2.l, atI_nat (j := 0) hv0, t0, _, 1, _, rfl, rfl, .inl (.inl ht0), atI_nat (j := 1) rfl, _, _, rfl, rfl, ?_⟩
    refine ⟨_, rfl, iteD (fun c => ?_) (fun c => ?_)⟩
    · exact ⟨_, rfl, fin 1 (by rw [hs, if_pos c])⟩
    · exact ⟨1, rfl, _, rfl, fin (-1) (by rw [hs, if_neg c])⟩
/-- unit_of of a row that is not zero -/
def spUnitQ (K : PySem.W.Frag) : Sp := fun vs H Q E => ∃ (a : Addr) (xs : List V) (es : List Ent) (n : Nat), vs = [.ref a] ∧ RowH K H a xs es n ∧ es ≠ [] ∧
  ∀ t p H' (l : Pl), l.length = n → IsLow es l → Same H H' → H' p = some (.tup (l.map V.int)) → H' t = some (.tup [.int (sgnE es), .ref p]) → Q (.ref t) H'
theorem unitQ {Z : Addr} : ∀ vs H Q E, spUnitQ K vs H Q E → spUnitE K Z vs H Q E0 := fun vs H Q E ⟨a, xs, es, n, e, hR, hne, q⟩ => ⟨a, xs, es, n, e, hR, fun z => absurd z hne, fun _ => q⟩
def spExtQ (K : PySem.W.Frag) (IS : List Ent → Pl → Prop) : Sp := fun vs H Q E => ∃ (a : Addr) (xs : List V) (es : List Ent) (n : Nat), vs = [.ref a] ∧ RowH K H a xs es n ∧ es ≠ [] ∧
  ∀ p H' (l : Pl), l.length = n → IS es l → Same H H' → H' p = some (.tup (l.map V.int)) → Q (.ref p) H'
theorem extQ {Z : Addr} {IS : List Ent → Pl → Prop} : ∀ vs H Q E, spExtQ K IS vs H Q E → spExtE K Z IS vs H Q E0 := fun vs H Q E ⟨a, xs, es, n, e, hR, hne, q⟩ => ⟨a, xs, es, n, e, hR, fun z => absurd z hne, fun _ => q⟩
def spShiftQ (K : PySem.W.Frag) : Sp := fun vs H Q E => ∃ (a b : Addr) (xs : List V) (es : List Ent) (l : Pl), vs = [.ref a, .ref b] ∧ H a = some (.lst xs) ∧ Ents H xs es ∧ es.length ≤ 1000 ∧ H b = some (.tup (l.map V.int)) ∧ (∀ e ∈ es, e.1.length = l.length) ∧ l.length ≤ 1000 ∧ es ≠ [] ∧
  ∀ p ws H', Same H H' → H p = none → H' p = some (.lst ws) → Ents H' ws (movL es l) → Q (.ref p) H'
theorem shiftQ {M : Addr} : ∀ vs H Q E, spShiftQ K vs H Q E → spShift K M vs H Q E0 := fun vs H Q E ⟨a, b, xs, es, l, e, ha, hE, hz, hb, hn, hl, hne, q⟩ => by
  have hm : mixL ((dims [es] ++ plens [l]).filter nz) = false := mix2 (dimE_eq hn hne)
  refine ⟨a, b, xs, es, l, e, ha, hE, hz, hb, fun e he => by rw [hn e he]; exact hl, fun z => ?_, fun _ => ⟨fun e he => Nat.le_of_eq (hn e he), q⟩⟩
  rw [hm] at z
  cases z
def spNormal (K : PySem.W.Frag) : Sp := fun vs H Q E => ∃ (a : Addr) (xs : List V) (es : List Ent) (n : Nat), vs = [.ref a] ∧ H a = some (.lst xs) ∧ RowH K H a xs es n ∧ Valid es ∧
  ∀ p ws g H', NormIs es g → (∀ e ∈ g, e.1.length = n) → g.length = es.length → Same H H' → H p = none → H' p = some (.lst ws) → Ents H' ws g → Q (.ref p) H'
theorem c_normal {f : Addr} {fd : FuncData} (D : C8.Def K mg "normal" s_normal f fd) (b : Binds K fd ["row"] []) (T : Bi mg) (c_unit_of : C8.Cal P w K mg base 4 "unit_of" (spUnitQ K) []) (c_scale : C8.Cal P w K mg base 1 "scale" spScale []) (c_shift : C8.Cal P w K mg base 5 "shift" (spShiftQ K) []) : C8.Cal P w K mg base 6 "normal" (spNormal K) [] := by
  refine C8.cal0 D b .nil sc_normal (fun vs H Q E h => ?_) (fun cdv A outer s H vs Q E hr h => ?_)
  · obtain ⟨a, xs, es, n, rfl, _⟩ := h
    rfl
  · obtain ⟨a, xs, es, n, rfl, ha, hR, hV, q⟩ := h
    refine ⟨_, (pss_cons (ps_if (pt_not (pt_truth (pv 0) (by intro _; rfl))) (pss_one (ps_ret (pe_lst pa_nil))) pss_nil)
  (pss_cons (ps_asg (C8.pe_c c_unit_of hr (by decide) (by rfl) (pa_cons (pv 0) pa_nil)) (pg_tup rfl (pgs_cons (pg_name (i := 1) sc_normal.nd rfl (Or.inl rfl)) (pgs_cons (pg_name (i := 2) sc_normal.nd rfl (Or.inl rfl)) pgs_nil))))
  (pss_one (ps_ret (C8.pe_c c_shift hr (by decide) (by rfl) (pa_cons (C8.pe_c c_scale hr (by decide) (by rfl) (pa_cons (pv 0) (pa_cons (pv 1) pa_nil))) (pa_cons (pe_callTy call_tuple_of (by rfl) T.n_tuple OT.b_tuple (pa_cons (pe_lc (own := [("x", 3)]) (g := (gName 3)) (tt := tYes) rfl sc_normal.nd (pi_tup (pv 2)) (blkOk_by (N := ["row", "sign", "corner", "x"]) (sc := C8.fnScope s_normal) (by decide +kernel)) (fun _ _ _ _ _ => (pg_name (i := 3) sc_normal.nd rfl (Or.inl rfl))) (fun _ _ _ _ _ => pts_nil) (fun _ _ _ _ _ => (pe_un un_neg (pv 3)))) pa_nil)) pa_nil))))))), ?_⟩
    refine ⟨_, rfl, _, .inl ⟨xs, hR.l, rfl⟩, ?_⟩
    by_cases he : es = []
    · have hx : xs = [] := (ents_nil hR.e).mpr he
      subst hx he
      refine iteT ?_
      refine ⟨(by show 0 ≤ sizeLine; decide), fun p np => ?_⟩
      refine q p [] [] _ ⟨[], rfl, fun k y h => by simp at h, ⟨⟨.nil, fun e h => by cases h⟩, fun q => rfl⟩⟩ (fun e h => by cases h) rfl (same_upd np) np upd_same .nil
    · have hpos : 0 < es.length := List.length_pos_iff.mpr he
      have hxl := hR.e.len
      obtain ⟨v0, r0, rfl⟩ : ∃ v r, xs = v :: r := by
        cases xs with
        | nil => rw [← hxl] at hpos; exact absurd hpos (Nat.lt_irrefl _)
        | cons v r => exact ⟨v, r, rfl⟩
      refine iteF ?_
      have hz := hR.z
      refine ⟨_, rfl, a, _, es, n, rfl, hR, he, fun t p H2 l hl hlow sm hp ht => ?_⟩
      refine ⟨t, _, rfl, .inl (.inl ht), rfl, _, _, rfl, _, _, rfl, rfl, ?_⟩
      refine ⟨_, rfl, _, rfl, a, _, es, _, rfl, sm _ _ ha, hR.e.mono sm, hz, sgnE_64 es, fun p3 ws3 H3 sm3 np3 hp3 hE3 => ?_⟩
      have hp3' := sm3 _ _ hp
      have hn3 := hR.n3
      refine ⟨_, rfl, p, rfl, ⟨_, .inl (.inl hp3')⟩, fun p4 np4 => ?_⟩
      refine lc_tup (K := K) (xs := l.map V.int) (fun i H4 => Same H3 H4 ∧ H4 p4 = some (.lst ((l.take i).map fun n => V.int (-n)))) ?_ ?_ ?_ ?_
      · exact ⟨same_upd np4, upd_same⟩
      · rintro i H4 _ ⟨sm4, _⟩
        exact .inl (.inl (sm4 _ _ hp3'))
      · rintro i x H4 hx ⟨sm4, hp4⟩
        obtain ⟨hi, rfl⟩ := getm hx
        refine ⟨rfl, tYes_of ?_⟩
        refine ⟨_, rfl, _, rfl, _, hp4, ?_, same_mut sm4 np4, ?_⟩
        · rw [List.length_map, List.length_take]
          exact small1000 (by omega)
        · rw [upd_same, take_map_succ (fun n => V.int (-n)) hi]
      · rintro H4 ⟨sm4, hp4⟩
        rw [List.length_map, List.take_length] at hp4
        refine ⟨p4, _, rfl, .inl ⟨.inl (.inl hp4), fun l5 nl5 => ?_⟩⟩
        have sm5 : Same H4 (upd H4 l5 (.tup (l.map fun n => V.int (-n)))) := same_upd nl5
        have hl5 : (upd H4 l5 (.tup (l.map fun n => V.int (-n)))) l5 = some (.tup ((negP l).map V.int)) := by
          rw [upd_same]
          unfold negP
          rw [List.map_map]
          rfl
        generalize upd H4 l5 (.tup (l.map fun n => V.int (-n))) = H5 at sm5 hl5 ⊢
        have sm35 := sm4.trans sm5
        have hs := sgnE_ne es
        have hsc : scaleP es (sgnE es) = scaleL es (sgnE es) := by
          unfold scaleP
          exact if_neg hs
        have hlen3 : (scaleP es (sgnE es)).length = es.length := by
          rw [hsc]
          unfold scaleL
          rw [List.length_map]
        have hdim : ∀ e ∈ scaleP es (sgnE es), e.1.length = (negP l).length := fun e he => by
          rw [hsc] at he
          obtain ⟨y, hy, rfl⟩ := List.mem_map.mp he
          rw [negP_len, hl]
          exact hR.dm y hy
        refine ⟨p3, l5, ws3, _, negP l, rfl, sm35 _ _ hp3, hE3.mono sm35, by rw [hlen3]; exact hz, hl5, hdim, by rw [negP_len, hl]; exact hn3, fun z => ?_, fun p6 ws6 H6 sm6 np6 hp6 hE6 => ?_⟩
        · have : (scaleP es (sgnE es)).length = 0 := by rw [z]; rfl
          omega
        have sAll := ((sm.trans sm3).trans sm35).trans sm6
        refine q p6 ws6 (movL (scaleP es (sgnE es)) (negP l)) H6 ⟨l, hl.trans (dimE_eq hR.dm he).symm, hlow, unit_is hV (fun e he => by rw [negP_len, hl]; exact Nat.le_of_eq (hR.dm e he)) hs⟩ (fun e he => ?_) (by unfold movL; rw [List.length_map, hlen3]) sAll ?_ hp6 hE6
        · obtain ⟨y, hy, rfl⟩ := List.mem_map.mp he
          show (plusP y.1 (negP l)).length = n
          rw [plusP_len (Nat.le_of_eq (hdim y hy)), hdim y hy, negP_len, hl]
        · cases z : H p6 with
          | none => rfl
          | some o =>
            have := ((sm.trans sm3).trans sm35) _ _ z
            rw [this] at np6
            cases np6
/-! ### box size -/
def boxP : Pl → Int
  | [] => 1
  | x :: r => (x + 1) * boxP r
theorem boxP_snoc (l : Pl) (x : Int) : boxP (l ++ [x]) = boxP l * (x + 1) := by
  induction l with
  | nil =>
    show (x + 1) * 1 = 1 * (x + 1)
    omega
  | cons y r ih =>
    show (y + 1) * boxP (r ++ [x]) = (y + 1) * boxP r * (x + 1)
    rw [ih, Int.mul_assoc]
/-- the box size of the entries -/
def BoxIs (es : List Ent) (z : Int) : Prop := (es = [] ∧ z = 0) ∨ (es ≠ [] ∧ ∃ l, l.length = dimE es ∧ IsSpan es l ∧ z = boxP l)
theorem IsSpan.one {es : List Ent} {l m : Pl} (hl : l.length = m.length) (h1 : IsSpan es l) (h2 : IsSpan es m) : l = m := by
  obtain ⟨lo, hi, a, b, c, d, rfl⟩ := h1
  obtain ⟨lo2, hi2, a2, b2, c2, d2, rfl⟩ := h2
  have e1 := c.one (a.trans (hl.trans a2.symm)) c2
  have e2 := d.one (b.trans (hl.trans b2.symm)) d2
  rw [e1, e2]
theorem BoxIs.one {es : List Ent} {x y : Int} (h1 : BoxIs es x) (h2 : BoxIs es y) : x = y := by
  rcases h1 with ⟨a, rfl⟩ | ⟨a, l, ll, s1, rfl⟩
  · rcases h2 with ⟨_, rfl⟩ | ⟨b, _⟩
    · rfl
    · exact absurd a b
  · rcases h2 with ⟨b, _⟩ | ⟨_, m, lm, s2, rfl⟩
    · exact absurd b a
    · rw [s1.one (ll.trans lm.symm) s2]
theorem span_bound {es : List Ent} {l : Pl} {M : Nat} (hb : ∀ e ∈ es, ∀ x ∈ e.1, x.natAbs ≤ M) (h : IsSpan es l) : ∀ x ∈ l, x.natAbs ≤ 2 * M := by
  obtain ⟨lo, hi, a, b, hl, hh, rfl⟩ := h
  intro x hx
  obtain ⟨k, hk, rfl⟩ := List.mem_iff_getElem.mp hx
  have h1 : k < lo.length := by rw [a]; exact hk
  have h2 : k < hi.length := by rw [b]; exact hk
  have e := subZ_get (List.getElem?_eq_getElem h1) (List.getElem?_eq_getElem h2)
  rw [List.getElem?_eq_getElem hk] at e
  have e := Option.some.inj e
  obtain ⟨⟨f, hf, hfk⟩, _⟩ := hl k _ (List.getElem?_eq_getElem h1)
  obtain ⟨⟨g, hg, hgk⟩, _⟩ := hh k _ (List.getElem?_eq_getElem h2)
  have b1 := hb f hf _ (List.mem_of_getElem? hfk)
  have b2 := hb g hg _ (List.mem_of_getElem? hgk)
  omega
/-- one entry, its number 1 or -1 -/
def unitB : List Ent → Bool
  | [e] => decide (e.2 = 1 ∨ e.2 = -1)
  | _ => false
def spBoxP (K : PySem.W.Frag) : Sp := fun vs H Q E => ∃ (a : Addr) (xs : List V) (es : List Ent) (n : Nat), vs = [.ref a] ∧ RowH K H a xs es n ∧ (∀ e ∈ es, ∀ x ∈ e.1, x.natAbs ≤ 1000000) ∧ ∀ z H', BoxIs es z → Same H H' → Q (.int z) H'
theorem c_box_size {f : Addr} {fd : FuncData} (D : C8.Def K mg "box_size" s_box_size f fd) (b : Binds K fd ["row"] []) (T : Bi mg) (c_spans : C8.Cal P w K mg base 3 "spans" (spExtQ K IsSpan) []) : C8.Cal P w K mg base 4 "box_size" (spBoxP K) [] := by
  refine C8.cal0 D b .nil sc_box_size (fun vs H Q E h => ?_) (fun cdv A outer s H vs Q E hr h => ?_)
  · obtain ⟨a, xs, es, n, rfl, _⟩ := h
    rfl
  · obtain ⟨a, xs, es, n, rfl, hR, hb, q⟩ := h
    refine ⟨_, (pss_cons (ps_if (pt_not (pt_truth (pv 0) (by intro _; rfl))) (pss_one (ps_ret pe_int)) pss_nil)
  (pss_cons (ps_set (i := 1) sc_box_size.nd rfl (Or.inl rfl) pe_int)
  (pss_cons (ps_for PassesOwn.never rfl (pi_tup (C8.pe_c c_spans hr (by decide) (by rfl) (pa_cons (pv 0) pa_nil))) (pg_name (i := 2) sc_box_size.nd rfl (Or.inl rfl)) (pss_one (ps_set (i := 1) sc_box_size.nd rfl (Or.inl rfl) (pe_op op_mul (pv 1) (pe_op op_add (pv 2) pe_int)))))
  (pss_one (ps_ret (pv 1)))))), ?_⟩
    refine ⟨_, rfl, _, .inl ⟨xs, hR.l, rfl⟩, ?_⟩
    by_cases he : es = []
    · have hx : xs = [] := (ents_nil hR.e).mpr he
      subst hx
      refine iteT ?_
      exact q 0 H (.inl ⟨he, rfl⟩) (Same.refl _)
    · have hpos : 0 < es.length := List.length_pos_iff.mpr he
      have hxl := hR.e.len
      obtain ⟨v0, r0, rfl⟩ : ∃ v r, xs = v :: r := by
        cases xs with
        | nil => rw [← hxl] at hpos; exact absurd hpos (Nat.lt_irrefl _)
        | cons v r => exact ⟨v, r, rfl⟩
      refine iteF ?_
      refine ⟨_, rfl, a, _, es, n, rfl, hR, he, fun p H2 l hl hsp sm hp => ⟨p, rfl, ⟨_, .inl (.inl hp)⟩, ?_⟩⟩
      have hb2 := span_bound hb hsp
      refine for_tup (K := K) (xs := l.map V.int) (fun i σ H3 => ∃ y3, σ = [some (.ref a), some (.int (boxP (l.take i))), y3] ∧ H3 = H2) ?_ ?_ ?_ ?_
      · exact ⟨none, rfl, rfl⟩
      · rintro i σ H3 _ ⟨_, _, rfl⟩
        exact .inl (.inl hp)
      · rintro i x σ H3 hx ⟨y3, rfl, rfl⟩
        obtain ⟨hi, rfl⟩ := getm hx
        have hbi := hb2 _ (List.getElem_mem hi)
        refine ⟨_, rfl, _, rfl, _, _, rfl, rfl, _, _, rfl, rfl, .inr ?_, ?_⟩
        · have : (2 : Int) ^ 64 = 18446744073709551616 := by decide
          omega
        · refine ⟨some (V.int l[i]), ?_, rfl⟩
          rw [List.take_add_one, List.getElem?_eq_getElem hi]
          show _ = [some (V.ref a), some (V.int (boxP (l.take i ++ [l[i]]))), _]
          rw [boxP_snoc]
          rfl
      · rintro σ H3 ⟨y3, rfl, rfl⟩
        rw [List.length_map, List.take_length]
        exact ⟨_, rfl, q _ H3 (.inr ⟨he, l, hl.trans (dimE_eq hR.dm he).symm, hsp, rfl⟩) sm⟩
def spIsUnit (K : PySem.W.Frag) : Sp := fun vs H Q E => ∃ (a : Addr) (xs : List V) (es : List Ent) (n : Nat), vs = [.ref a] ∧ RowH K H a xs es n ∧ Q (.bl (unitB es)) H
theorem c_is_unit {f : Addr} {fd : FuncData} (D : C8.Def K mg "is_unit" s_is_unit f fd) (b : Binds K fd ["row"] []) (T : Bi mg) : C8.Cal P w K mg base 1 "is_unit" (spIsUnit K) [] := by
  refine C8.cal0 D b .nil sc_is_unit (fun vs H Q E h => ?_) (fun cdv A outer s H vs Q E hr h => ?_)
  · obtain ⟨a, xs, es, n, rfl, _⟩ := h
    rfl
  · obtain ⟨a, xs, es, n, rfl, hR, q⟩ := h
    refine ⟨_, (pss_one (ps_ret (pe_and (pe_cmpR op_eq (pe_callB call_len_seq (by rfl) T.n_len OT.b_len (pa_cons (pv 0) pa_nil)) pe_int (nomark _)) (pe_one (pe_cmpR op_eq (pe_callB call_abs (by rfl) T.n_abs OT.b_abs (pa_cons (pe_ix ix_tup (pe_ix ix_list (pv 0) pe_int (fun _ _ => rfl)) pe_int (fun _ _ => rfl)) pa_nil)) pe_int (nomark _)))))), ?_⟩
    have hxl := hR.e.len
    refine ⟨_, rfl, a, _, rfl, .inl hR.l, rfl, _, rfl, ?_⟩
    refine iteD (fun c => ?_) (fun c => ?_)
    · have h1 : es.length = 1 := by
        have := V.int.inj c
        omega
      obtain ⟨e, rfl⟩ : ∃ e, es = [e] := List.length_eq_one_iff.mp h1
      obtain ⟨v0, hv0, t0, p0, rfl, ht0, hp0⟩ := hR.e.at (i := 0) (by rw [h1]; decide)
      refine ⟨_, rfl, a, _, 0, _, rfl, rfl, hR.l, atI_nat (j := 0) hv0, t0, _, 1, _, rfl, rfl, .inl (.inl ht0), atI_nat (j := 1) rfl, _, rfl, rfl, ?_⟩
      have hd : decide (V.int (if e.2 < 0 then -e.2 else e.2) = V.int 1) = unitB [e] := by
        show _ = decide (e.2 = 1 ∨ e.2 = -1)
        by_cases d : e.2 < 0
        · rw [if_pos d]
          by_cases z : e.2 = -1
          · rw [decide_eq_true (by rw [z]; rfl), decide_eq_true (.inr z)]
          · rw [decide_eq_false (fun h => z (by have := V.int.inj h; omega)), decide_eq_false (fun h => by omega)]
        · rw [if_neg d]
          by_cases z : e.2 = 1
          · rw [decide_eq_true (by rw [z]), decide_eq_true (.inl z)]
          · rw [decide_eq_false (fun h => z (V.int.inj h)), decide_eq_false (fun h => by omega)]
      show Q (V.bl (decide (V.int (if e.2 < 0 then -e.2 else e.2) = V.int 1))) H
      rw [hd]
      exact q
    · have h1 : es.length ≠ 1 := fun z => c (by rw [hxl, z]; rfl)
      have : unitB es = false := by
        match es, h1 with
        | [], _ => rfl
        | [e], h => exact absurd rfl h
        | _ :: _ :: _, _ => rfl
      rw [this] at q
      exact q
end
end OT

set_option Elab.async false
set_option linter.all false
set_option maxRecDepth 100000
set_option maxHeartbeats 2000000
namespace OT
open PySem PySem.Spec PyProof.Rows L2
theorem eqv_cons (x y : PyData) (xs ys : List PyData) : PyData.eqvAll (x :: xs) (y :: ys) = (PyData.eqv x y && PyData.eqvAll xs ys) := by rw [PyData.eqvAll]
theorem eqv_ints : ∀ k l : Pl, PyData.eqvAll (k.map PyData.int) (l.map PyData.int) = decide (k = l)
  | [], [] => by simp [PyData.eqvAll]
  | [], y :: r => by simp [PyData.eqvAll]
  | x :: r, [] => by simp [PyData.eqvAll]
  | x :: r, y :: t => by
    rw [List.map_cons, List.map_cons, eqv_cons, eqv_ints r t, PyData.eqv]
    by_cases h : x = y
    · subst h
      simp
    · rw [show (x == y) = false from by simp [h], decide_eq_false (fun z => h (List.cons.inj z).1)]
      rfl
theorem eqv_ent (e f : Ent) : PyData.eqv (dEnt e) (dEnt f) = decide (e = f) := by
  unfold dEnt dPl
  obtain ⟨k, n⟩ := e
  obtain ⟨l, m⟩ := f
  show PyData.eqv (.tuple [.tuple (k.map .int), .int n]) (.tuple [.tuple (l.map .int), .int m]) = _
  have e1 : PyData.eqv (.tuple (k.map .int)) (.tuple (l.map .int)) = decide (k = l) := by rw [PyData.eqv, eqv_ints]
  have e2 : PyData.eqv (.int n) (.int m) = (n == m) := by rw [PyData.eqv]
  rw [PyData.eqv, eqv_cons, eqv_cons, e1, e2]
  by_cases h : k = l
  · subst h
    by_cases z : n = m
    · subst z
      simp [PyData.eqvAll]
    · rw [show (n == m) = false from by simp [z], decide_eq_false (fun q => z (Prod.mk.inj q).2)]
      simp
  · rw [decide_eq_false h, decide_eq_false (fun q => h (Prod.mk.inj q).1)]
    rfl
theorem eqv_row' : ∀ es fs : List Ent, PyData.eqvAll (es.map dEnt) (fs.map dEnt) = decide (es = fs)
  | [], [] => by simp [PyData.eqvAll]
  | [], y :: r => by simp [PyData.eqvAll]
  | x :: r, [] => by simp [PyData.eqvAll]
  | x :: r, y :: t => by
    rw [List.map_cons, List.map_cons, eqv_cons, eqv_row' r t, eqv_ent]
    by_cases h : x = y
    · subst h
      simp
    · rw [decide_eq_false h, decide_eq_false (fun z => h (List.cons.inj z).1)]
      rfl
theorem eqv_row (es fs : List Ent) : PyData.eqv (dRow es) (dRow fs) = decide (es = fs) := by
  unfold dRow
  rw [PyData.eqv, eqv_row']
section
variable {P : Program} {w : World} {K : PySem.W.Frag} {mg : Str → Option Value} {base : Heap}
def spSDT (K : PySem.W.Frag) (M : Addr) : Sp := fun vs H Q E => ∃ (a b : Addr) (us : List V) (ess : List (List Ent)), vs = [.ref a, .ref b] ∧ SqL K H a us ∧ RowsAt H us ess ∧ SqT K H b [] ∧ ess.length ≤ 1000 ∧
  (mixL ((dims ess).filter nz) = true → ∀ d H', Same H H' → H' d = some (.xd errM) → E (.ref M) (some d) H') ∧ (mixL ((dims ess).filter nz) = false → ∀ H', Same H H' → Q .non H')
theorem ok_same_dimensionT {f M fS : Addr} {fd fdS : FuncData} (D : C8.Def K mg "same_dimension" s_same_dimension f fd) (T : Bi mg) (DS : C8.Def K mg "same_lengths" s_same_lengths fS fdS) (bS : Binds K fdS ["lengths"] []) (GS : FnOk P w K mg base (L2.CX P w) 3 fS fdS ["lengths"] (spSL K M))
    (c_places_length : C8.Cal P w K mg base 1 "places_length" (spPLen K) []) : FnOk P w K mg base (L2.CX P w) 4 f fd ["rows", "places"] (spSDT K M) := by
  obtain ⟨oc, od, dV, kV, doc, pm, an, cdv, ct, osl, rfl, lk, hcd⟩ := D.fn.ex
  refine fn_of lk hcd sc_same_dimension (fun vs H Q E h => ?_) fun A outer s H vs Q E hr h => ?_
  · obtain ⟨a, b, us, ess, rfl, _⟩ := h
    rfl
  · obtain ⟨a, b, us, ess, rfl, ha, hR, hb, z1, qE, qN⟩ := h
    refine ⟨_, (pss_one (ps_expr (pe_callS GS hr rfl DS.mgf DS.kp bS (fun σ => passAt (takes_of rfl rfl rfl rfl) σ) (pa_cons (pe_op op_cat (pe_lc (own := [("row", 2)]) (g := (gName 2)) (tt := tYes) rfl sc_same_dimension.nd (pi_list (pv 0)) (blkOk_by (N := ["rows", "places", "row", "place"]) (sc := C8.fnScope s_same_dimension) (by decide +kernel)) (fun _ _ _ _ _ => (pg_name (i := 2) sc_same_dimension.nd rfl (Or.inl rfl))) (fun _ _ _ _ _ => pts_nil) (fun _ _ _ _ _ => (C8.pe_c c_places_length hr (by decide) (by rfl) (pa_cons (pv 2) pa_nil)))) (pe_lc (own := [("place", 3)]) (g := (gName 3)) (tt := tYes) rfl sc_same_dimension.nd (pi_tup (pv 1)) (blkOk_by (N := ["rows", "places", "row", "place"]) (sc := C8.fnScope s_same_dimension) (by decide +kernel)) (fun _ _ _ _ _ => (pg_name (i := 3) sc_same_dimension.nd rfl (Or.inl rfl))) (fun _ _ _ _ _ => pts_nil) (fun _ _ _ _ _ => (pe_callB (show CallR _ _ (Evl.rLenS K) from call_len_seq) (by rfl) T.n_len OT.b_len (pa_cons (pv 3) pa_nil))))) pa_nil)))), ?_⟩
    have l1 := hR.len
    refine ⟨_, rfl, a, rfl, ⟨_, ha⟩, fun p np => ?_⟩
    refine lc_list (K := K) (xs := us) (fun i H2 => Same H H2 ∧ H2 p = some (.lst ((dims (ess.take i)).map V.int))) ?_ ?_ ?_ ?_
    · exact ⟨same_upd np, upd_same⟩
    · rintro i H2 _ ⟨sm, _⟩
      exact sm.seq ha
    · rintro i x H2 hx ⟨sm, hp⟩
      obtain ⟨a1, xs, es, rfl, he, h1, h2⟩ := (hR.mono sm).get hx
      have hi := (List.getElem?_eq_some_iff.mp he).1
      refine ⟨rfl, tYes_of ?_⟩
      refine ⟨_, rfl, a1, xs, es, rfl, .inl (.inl h1), h2, _, hp, ?_, same_mut sm np, ?_⟩
      · unfold dims
        rw [List.length_map, List.length_map, List.length_take]
        exact small1000 (by omega)
      · rw [upd_same, dims_snoc he]
    · rintro H2 ⟨sm2, hp⟩
      rw [l1, List.take_length] at hp
      refine ⟨_, rfl, b, rfl, ⟨_, same_t sm2 hb⟩, fun p3 np3 => ?_⟩
      refine lc_tup (K := K) (xs := []) (fun i H3 => Same H2 H3 ∧ H3 p3 = some (.lst [])) ?_ ?_ ?_ ?_
      · exact ⟨same_upd np3, upd_same⟩
      · rintro i H3 _ ⟨sm, _⟩
        exact same_t (sm2.trans sm) hb
      · rintro i x H3 hx ⟨sm, hp3⟩
        cases hx
      · rintro H3 ⟨sm3, hp3⟩
        have sA := sm2.trans sm3
        have d1 : (dims ess).length = ess.length := List.length_map _
        refine ⟨p, p3, _, _, rfl, rfl, sm3 _ _ hp, hp3, ?_, fun p4 np4 => ?_⟩
        · rw [List.length_map, d1]
          exact Nat.le_of_lt (small100k (by show ess.length + 0 ≤ 100000; omega))
        have s4 : Same H3 (upd H3 p4 (.lst ((dims ess).map V.int ++ []))) := same_upd np4
        have sB := sA.trans s4
        refine ⟨p4, dims ess, rfl, .inl (.inl ?_), ?_, fun hm d H5 sm5 hd => qE hm d H5 (sB.trans sm5) hd, fun hm H5 sm5 => qN hm H5 (sB.trans sm5)⟩
        · rw [upd_same, List.append_nil]
        · rw [d1]
          omega
/-- a new row: it stands in a list of its own -/
def spAssoc (K : PySem.W.Frag) (M : Addr) : Sp := fun vs H Q E => ∃ (a b : Addr) (xs ys : List V) (es fs : List Ent) (n m : Nat), vs = [.ref a, .ref b] ∧ H a = some (.lst xs) ∧ RowH K H a xs es n ∧ Valid es ∧ H b = some (.lst ys) ∧ RowH K H b ys fs m ∧ Valid fs ∧
  (mixL ((dims [es, fs]).filter nz) = true → ∀ d H', Same H H' → H' d = some (.xd errM) → E (.ref M) (some d) H') ∧
  (mixL ((dims [es, fs]).filter nz) = false → ∀ g h H', NormIs es g → NormIs fs h → Same H H' → Q (.bl (decide (g = h))) H')
theorem ok_associated {f M fD A0 : Addr} {fd fdD : FuncData} {ds : List Value} (D : C8.Def K mg "associated" s_associated f fd) (T : Bi mg) (DD : C8.Def K mg "same_dimension" s_same_dimension fD fdD) (bD : Binds K fdD ["rows", "places"] ds) (hdv : Vals [V.ref A0] ds) (hA0 : ∀ H, SqT K H A0 [])
    (GD : FnOk P w K mg base (L2.CX P w) 4 fD fdD ["rows", "places"] (spSDT K M)) (c_normal : C8.Cal P w K mg base 6 "normal" (spNormal K) []) : FnOk P w K mg base (L2.CX P w) 7 f fd ["first", "second"] (spAssoc K M) := by
  obtain ⟨oc, od, dV, kV, doc, pm, an, cdv, ct, osl, rfl, lk, hcd⟩ := D.fn.ex
  refine fn_of lk hcd sc_associated (fun vs H Q E h => ?_) fun A outer s H vs Q E hr h => ?_
  · obtain ⟨a, b, xs, ys, es, fs, n, m, rfl, _⟩ := h
    rfl
  · obtain ⟨a, b, xs, ys, es, fs, n, m, rfl, ha, hR, hV, hb, hS, hW, qE, qN⟩ := h
    refine ⟨_, (pss_cons (ps_expr (pe_callSD (GD.mono (by decide : 4 ≤ 6)) hr rfl DD.mgf DD.kp bD hdv (fun σ => passAt (takes_of rfl rfl rfl rfl) σ) (pa_cons (pe_lst (pa_cons (pv 0) (pa_cons (pv 1) pa_nil))) pa_nil)))
  (pss_one (ps_ret (pe_cmpR (op_eqD hr.units) (C8.pe_c c_normal hr (by decide) (by rfl) (pa_cons (pv 0) pa_nil)) (C8.pe_c c_normal hr (by decide) (by rfl) (pa_cons (pv 1) pa_nil)) (nomark _))))), ?_⟩
    refine ⟨_, rfl, _, rfl, (by show 2 ≤ sizeLine; decide), fun p1 np1 => ?_⟩
    have s1 : Same H (upd H p1 (.lst [.ref a, .ref b])) := same_upd np1
    refine ⟨p1, A0, [.ref a, .ref b], [es, fs], rfl, .inl (.inl upd_same), .cons (s1 _ _ ha) (hR.e.mono s1) (.cons (s1 _ _ hb) (hS.e.mono s1) .nil), hA0 _, (by show 2 ≤ 1000; decide), fun hm d H3 sm hd => qE hm d H3 (s1.trans sm) hd, fun hm H3 sm3 => ?_⟩
    have sA := s1.trans sm3
    refine ⟨_, rfl, a, xs, es, n, rfl, sA _ _ ha, hR.mono sA, hV, fun p4 ws4 g H4 hg hgd hgl sm4 np4 hp4 hE4 => ?_⟩
    have sB := sA.trans sm4
    refine ⟨_, rfl, b, ys, fs, m, rfl, sB _ _ hb, hS.mono sB, hW, fun p5 ws5 g5 H5 hg5 hgd5 hgl5 sm5 np5 hp5 hE5 => ?_⟩
    refine ⟨dRow g, dRow g5, (hE4.mono sm5).dp (.inl (.inl (sm5 _ _ hp4))), hE5.dp (.inl (.inl hp5)), shaped_row g, shaped_row g5, ?_⟩
    rw [eqv_row]
    exact qN hm g g5 H5 hg hg5 (sB.trans sm5)
def spSym (K : PySem.W.Frag) : Sp := fun vs H Q E => ∃ (a : Addr) (xs : List V) (es : List Ent) (n : Nat), vs = [.ref a] ∧ H a = some (.lst xs) ∧ RowH K H a xs es n ∧ ∀ H', Same H H' → Q (.bl (decide (es = mirP es))) H'
theorem c_is_symmetric {f : Addr} {fd : FuncData} (D : C8.Def K mg "is_symmetric" s_is_symmetric f fd) (b : Binds K fd ["row"] []) (T : Bi mg) (c_mirror : C8.Cal P w K mg base 1 "mirror" spMirror []) : C8.Cal P w K mg base 2 "is_symmetric" (spSym K) [] := by
  refine C8.cal0 D b .nil sc_is_symmetric (fun vs H Q E h => ?_) (fun cdv A outer s H vs Q E hr h => ?_)
  · obtain ⟨a, xs, es, n, rfl, _⟩ := h
    rfl
  · obtain ⟨a, xs, es, n, rfl, ha, hR, q⟩ := h
    refine ⟨_, (pss_one (ps_ret (pe_cmpR (op_eqD hr.units) (pv 0) (C8.pe_c c_mirror hr (by decide) (by rfl) (pa_cons (pv 0) pa_nil)) (nomark _)))), ?_⟩
    refine ⟨_, rfl, _, rfl, a, xs, es, rfl, ha, hR.e, hR.z, fun e he => by rw [hR.dm e he]; exact hR.n3, fun p ws H2 sm np hp hE => ?_⟩
    refine ⟨dRow es, dRow (mirP es), (hR.e.mono sm).dp (.inl (.inl (sm _ _ ha))), hE.dp (.inl (.inl hp)), shaped_row _, shaped_row _, ?_⟩
    rw [eqv_row]
    exact q H2 sm
theorem mirP_len (es : List Ent) : (mirP es).length = es.length := by
  unfold mirP
  rw [List.length_map, List.length_reverse]
theorem mirP_dim {es : List Ent} {n : Nat} (h : ∀ e ∈ es, e.1.length = n) : ∀ e ∈ mirP es, e.1.length = n := fun e he => by
  obtain ⟨y, hy, rfl⟩ := List.mem_map.mp he
  show (negP y.1).length = n
  rw [negP_len]
  exact h y (List.mem_reverse.mp hy)
def spPal (K : PySem.W.Frag) : Sp := fun vs H Q E => ∃ (a : Addr) (xs : List V) (es : List Ent) (n : Nat), vs = [.ref a] ∧ H a = some (.lst xs) ∧ RowH K H a xs es n ∧ Valid es ∧ ∀ g h H', NormIs es g → NormIs (mirP es) h → Same H H' → Q (.bl (decide (g = h))) H'
theorem c_is_palindromic {f : Addr} {fd : FuncData} (D : C8.Def K mg "is_palindromic" s_is_palindromic f fd) (b : Binds K fd ["row"] []) (T : Bi mg) (c_mirror : C8.Cal P w K mg base 1 "mirror" spMirror []) (c_normal : C8.Cal P w K mg base 6 "normal" (spNormal K) []) : C8.Cal P w K mg base 7 "is_palindromic" (spPal K) [] := by
  refine C8.cal0 D b .nil sc_is_palindromic (fun vs H Q E h => ?_) (fun cdv A outer s H vs Q E hr h => ?_)
  · obtain ⟨a, xs, es, n, rfl, _⟩ := h
    rfl
  · obtain ⟨a, xs, es, n, rfl, ha, hR, hV, q⟩ := h
    refine ⟨_, (pss_one (ps_ret (pe_cmpR (op_eqD hr.units) (C8.pe_c c_normal hr (by decide) (by rfl) (pa_cons (pv 0) pa_nil)) (C8.pe_c c_normal hr (by decide) (by rfl) (pa_cons (C8.pe_c c_mirror hr (by decide) (by rfl) (pa_cons (pv 0) pa_nil)) pa_nil)) (nomark _)))), ?_⟩
    refine ⟨_, rfl, a, xs, es, n, rfl, ha, hR, hV, fun p4 ws4 g H4 hg hgd hgl sm4 np4 hp4 hE4 => ?_⟩
    refine ⟨_, rfl, a, xs, es, rfl, sm4 _ _ ha, hR.e.mono sm4, hR.z, fun e he => by rw [hR.dm e he]; exact hR.n3, fun p ws H2 sm np hp hE => ?_⟩
    have hRm : RowH K H2 p ws (mirP es) n := ⟨.inl (.inl hp), hE, by rw [mirP_len]; exact hR.z, mirP_dim hR.dm, hR.n3⟩
    refine ⟨p, ws, mirP es, n, rfl, hp, hRm, mirP_valid hV hR.dm, fun p5 ws5 g5 H5 hg5 hgd5 hgl5 sm5 np5 hp5 hE5 => ?_⟩
    have sX := sm.trans sm5
    refine ⟨dRow g, dRow g5, (hE4.mono sX).dp (.inl (.inl (sX _ _ hp4))), hE5.dp (.inl (.inl hp5)), shaped_row g, shaped_row g5, ?_⟩
    rw [eqv_row]
    exact q g g5 H5 hg hg5 (sm4.trans sX)
end
end OT

set_option Elab.async false
set_option linter.all false
set_option maxRecDepth 100000
set_option maxHeartbeats 2000000
namespace OT
open PySem PySem.Spec PyProof.Rows L2
/-- entries whose places have n coordinates, none beyond C -/
structure PlB (es : List Ent) (n C : Nat) : Prop where
  d : ∀ e ∈ es, e.1.length = n
  c : ∀ e ∈ es, ∀ x ∈ e.1, x.natAbs ≤ C
theorem PlB.nil {n C : Nat} : PlB [] n C := ⟨fun e h => (by cases h), fun e h => (by cases h)⟩
theorem PlB.app {es fs : List Ent} {n C : Nat} (h : PlB es n C) (g : PlB fs n C) : PlB (es ++ fs) n C :=
  ⟨fun e he => (List.mem_append.mp he).elim (h.d e) (g.d e), fun e he => (List.mem_append.mp he).elim (h.c e) (g.c e)⟩
theorem PlB.row {es r : List Ent} {n C : Nat} (h : PlB es n C) (hr : RowIs r es) : PlB r n C := by
  refine ⟨fun e he => ?_, fun e he => ?_⟩
  · obtain ⟨x, hx, ex⟩ := hr.mem he
    rw [← ex]
    exact h.d x hx
  · obtain ⟨x, hx, ex⟩ := hr.mem he
    rw [← ex]
    exact h.c x hx
theorem PlB.scale {es : List Ent} {n C : Nat} (h : PlB es n C) (m : Int) : PlB (scaleL es m) n C :=
  ⟨fun e he => by obtain ⟨y, hy, rfl⟩ := List.mem_map.mp he; exact h.d y hy, fun e he => by obtain ⟨y, hy, rfl⟩ := List.mem_map.mp he; exact h.c y hy⟩
theorem PlB.mir {es : List Ent} {n C : Nat} (h : PlB es n C) : PlB (mirL es) n C := by
  refine ⟨fun e he => ?_, fun e he x hx => ?_⟩
  · obtain ⟨y, hy, rfl⟩ := List.mem_map.mp he
    show (negP y.1).length = n
    rw [negP_len]
    exact h.d y hy
  · obtain ⟨y, hy, rfl⟩ := List.mem_map.mp he
    obtain ⟨z, hz, rfl⟩ := List.mem_map.mp (show x ∈ y.1.map fun x => -x from hx)
    have := h.c y hy z hz
    omega
theorem PlB.mov {es : List Ent} {n C D : Nat} {l : Pl} (h : PlB es n C) (hl : l.length = n) (hd : ∀ x ∈ l, x.natAbs ≤ D) : PlB (movL es l) n (C + D) := by
  refine ⟨fun e he => ?_, fun e he x hx => ?_⟩
  · obtain ⟨y, hy, rfl⟩ := List.mem_map.mp he
    show (plusP y.1 l).length = n
    rw [plusP_len (Nat.le_of_eq ((h.d y hy).trans hl.symm))]
    exact h.d y hy
  · obtain ⟨y, hy, rfl⟩ := List.mem_map.mp he
    obtain ⟨a, ha, b, hb, rfl⟩ := plusP_mem hx
    have := h.c y hy a ha
    have := hd b hb
    omega
theorem PlB.le {es : List Ent} {n C D : Nat} (h : PlB es n C) (hc : C ≤ D) : PlB es n D := ⟨h.d, fun e he x hx => Nat.le_trans (h.c e he x hx) hc⟩
/-- a row as the law makes them -/
structure GR (H : Hp) (p : Addr) (xs : List V) (es : List Ent) (n L C : Nat) : Prop where
  l : H p = some (.lst xs)
  e : Ents H xs es
  v : Valid es
  z : es.length ≤ L
  b : PlB es n C
theorem GR.mono {H H' : Hp} {p : Addr} {xs : List V} {es : List Ent} {n L C : Nat} (s : Same H H') (h : GR H p xs es n L C) : GR H' p xs es n L C := ⟨s _ _ h.l, h.e.mono s, h.v, h.z, h.b⟩
theorem GR.le {H : Hp} {p : Addr} {xs : List V} {es : List Ent} {n L C L' C' : Nat} (h : GR H p xs es n L C) (hl : L ≤ L') (hc : C ≤ C') : GR H p xs es n L' C' := ⟨h.l, h.e, h.v, Nat.le_trans h.z hl, h.b.le hc⟩
theorem GR.lst {H : Hp} {p : Addr} {xs : List V} {es : List Ent} {n L C : Nat} (h : GR H p xs es n L C) (hn : 1 ≤ n) (hL : L ≤ 1000) : Lst H p xs es := ⟨h.l, h.e, Nat.le_trans h.z hL, fun e he z => by
  have := h.b.d e he
  rw [z] at this
  have h0 : (0 : Nat) = n := this
  omega⟩
theorem GR.rowH {K : PySem.W.Frag} {H : Hp} {p : Addr} {xs : List V} {es : List Ent} {n L C : Nat} (h : GR H p xs es n L C) (hn : n ≤ 1000) (hL : L ≤ 1000) : RowH K H p xs es n := ⟨.inl (.inl h.l), h.e, Nat.le_trans h.z hL, h.b.d, hn⟩
theorem GR.rowN {H : Hp} {p : Addr} {xs : List V} {es : List Ent} {n L C : Nat} (h : GR H p xs es n L C) (h1 : 1 ≤ n) (h3 : n ≤ 3) : RowN n es := ⟨h.v, h1, h3, h.b.d⟩
theorem GR.dp {K : PySem.W.Frag} {H : Hp} {p : Addr} {xs : List V} {es : List Ent} {n L C : Nat} (h : GR H p xs es n L C) : Dp K H (.ref p) (dRow es) := h.e.dp (.inl (.inl h.l))
/-- the row of the sums is one of them -/
theorem GR.of {H : Hp} {p : Addr} {ws : List V} {r es : List Ent} {n L C : Nat} (hr : RowIs r es) (hp : H p = some (.lst ws)) (he : Ents H ws r) (hz : es.length ≤ L) (hb : PlB es n C) : GR H p ws r n L C := ⟨hp, he, hr.v, Nat.le_trans hr.len hz, hb.row hr⟩
theorem scaleL_len (es : List Ent) (m : Int) : (scaleL es m).length = es.length := List.length_map _
theorem movL_len (es : List Ent) (l : Pl) : (movL es l).length = es.length := List.length_map _
theorem mirL_len (es : List Ent) : (mirL es).length = es.length := List.length_map _
theorem negP_c {l : Pl} {C : Nat} (h : ∀ x ∈ l, x.natAbs ≤ C) : ∀ x ∈ negP l, x.natAbs ≤ C := fun x hx => by
  obtain ⟨z, hz, rfl⟩ := List.mem_map.mp hx
  have := h z hz
  omega
theorem IsLow.bound {es : List Ent} {l : Pl} {C : Nat} (h : IsLow es l) (hc : ∀ e ∈ es, ∀ x ∈ e.1, x.natAbs ≤ C) : ∀ x ∈ l, x.natAbs ≤ C := fun x hx => by
  obtain ⟨k, hk, rfl⟩ := List.mem_iff_getElem.mp hx
  obtain ⟨⟨e, he, hek⟩, _⟩ := h k _ (List.getElem?_eq_getElem hk)
  exact hc e he _ (List.mem_of_getElem? hek)
theorem NormIs.plb {es g : List Ent} {n C : Nat} (hg : NormIs es g) (h : PlB es n C) : PlB g n (C + C) := by
  obtain ⟨l, ll, hl, hr⟩ := hg
  by_cases he : es = []
  · subst he
    have : g = [] := List.length_eq_zero_iff.mp (Nat.le_zero.mp hr.len)
    rw [this]
    exact .nil
  · exact ((h.mov (by rw [negP_len, ll, dimE_eq h.d he]) (negP_c (hl.bound h.c))).scale _).row hr
theorem NormIs.len {es g : List Ent} (hg : NormIs es g) : g.length ≤ es.length := by
  obtain ⟨l, ll, hl, hr⟩ := hg
  have := hr.len
  rwa [scaleL_len, movL_len] at this
theorem NormIs.v {es g : List Ent} (hg : NormIs es g) : Valid g := by
  obtain ⟨l, ll, hl, hr⟩ := hg
  exact hr.v
section
variable {P : Program} {w : World} {K : PySem.W.Frag} {mg : Str → Option Value} {base : Heap}
def spLNormal : Sp := fun vs H Q E => ∃ (a : Addr) (xs : List V) (es : List Ent) (n L C : Nat), vs = [.ref a] ∧ GR H a xs es n L C ∧ 1 ≤ n ∧ n ≤ 3 ∧ L ≤ 1000 ∧
  ∀ p ws g H', NormIs es g → Same H H' → H p = none → H' p = some (.lst ws) → Ents H' ws g → Q (.ref p) H'
theorem c__law_normal {f : Addr} {fd : FuncData} (D : C8.Def K mg "_law_normal" s__law_normal f fd) (b : Binds K fd ["_law_row_here"] []) (T : Bi mg) (c__law_corner : C8.Cal P w K mg base 1 "_law_corner" (spExt K IsLow) []) (c__law_back : C8.Cal P w K mg base 1 "_law_back" (spBack K) []) (c__law_moved : C8.Cal P w K mg base 2 "_law_moved" (spMoved K) [])
    (c__law_scaled : C8.Cal P w K mg base 2 "_law_scaled" spScaled []) : C8.Cal P w K mg base 3 "_law_normal" spLNormal [] := by
  refine C8.cal0 D b .nil sc__law_normal (fun vs H Q E h => ?_) (fun cdv A outer s H vs Q E hr h => ?_)
  · obtain ⟨a, xs, es, n, L, C, rfl, _⟩ := h
    rfl
  · obtain ⟨a, xs, es, n, L, C, rfl, hG, h1, h3, hL, q⟩ := h
    refine ⟨_, (pss_cons (ps_if (pt_cmpR op_eq (pe_callB call_len_seq (by rfl) T.n_len OT.b_len (pa_cons (pv 0) pa_nil)) pe_int (nomark _)) (pss_one (ps_ret (pe_lst pa_nil))) pss_nil)
  (pss_cons (ps_set (i := 1) sc__law_normal.nd rfl (Or.inl rfl) pe_int)
  (C8.pss_cut (ps_if (pt_cmpR op_lt (pe_ix ix_tup (pe_ix ix_list (pv 0) pe_int (fun _ _ => rfl)) pe_int (fun _ _ => rfl)) pe_int (nomark _)) (pss_one (ps_set (i := 1) sc__law_normal.nd rfl (Or.inl rfl) (pe_un un_neg pe_int))) pss_nil)
  (pss_one (ps_ret (C8.pe_c c__law_scaled hr (by decide) (by rfl) (pa_cons (C8.pe_c c__law_moved hr (by decide) (by rfl) (pa_cons (pv 0) (pa_cons (C8.pe_c c__law_back hr (by decide) (by rfl) (pa_cons (C8.pe_c c__law_corner hr (by decide) (by rfl) (pa_cons (pv 0) pa_nil)) pa_nil)) pa_nil))) (pa_cons (pv 1) pa_nil)))))))), ?_⟩
    have hS : SqL K H a xs := .inl (.inl hG.l)
    have hxl := hG.e.len
    have hz := hG.z
    refine ⟨_, rfl, a, _, rfl, .inl hS, rfl, _, rfl, iteD (fun c => ?_) (fun c => ?_)⟩
    · have he : es = [] := by
        have := V.int.inj c
        exact List.length_eq_zero_iff.mp (by omega)
      subst he
      refine ⟨(by show 0 ≤ sizeLine; decide), fun p np => ?_⟩
      exact q p [] [] _ ⟨[], rfl, fun k y h => by simp at h, ⟨⟨.nil, fun e h => by cases h⟩, fun q => rfl⟩⟩ (same_upd np) np upd_same .nil
    · have hpos : 0 < es.length := by
        cases z : es.length with
        | zero => exact absurd (show V.int (xs.length : Int) = V.int 0 by rw [hxl, z]; rfl) c
        | succ k => exact Nat.succ_pos _
      have hne : es ≠ [] := List.length_pos_iff.mp hpos
      obtain ⟨v0, hv0, t0, p0, rfl, ht0, hp0⟩ := hG.e.at (i := 0) hpos
      have hnz : (es[0]'hpos).2 ≠ 0 := hG.v.nz _ (List.getElem_mem hpos)
      have hsg : sgnE es = if (es[0]'hpos).2 > 0 then 1 else -1 := by
        cases es with
        | nil => exact absurd rfl hne
        | cons e r => rfl
      refine ⟨fun σ H2 => σ = [some (.ref a), some (.int (sgnE es))] ∧ H2 = H, ?_, ?_⟩
      · refine ⟨_, rfl, a, _, 0, _, rfl, rfl, hS, atI_nat (j := 0) hv0, t0, _, 1, _, rfl, rfl, .inl (.inl ht0), atI_nat (j := 1) rfl, _, _, rfl, rfl, _, rfl, iteD (fun d => ?_) (fun d => ?_)⟩
        · refine ⟨1, rfl, ?_, rfl⟩
          rw [hsg, if_neg (by omega)]
          rfl
        · refine ⟨?_, rfl⟩
          rw [hsg, if_pos (by omega)]
          rfl
      · rintro σ H2 ⟨rfl, rfl⟩
        refine ⟨_, rfl, _, rfl, a, xs, es, n, rfl, hS, hG.e, hpos, by omega, hG.b.d, h3, fun p2 H3 l hl hlow sm hp2 => ?_⟩
        refine ⟨p2, l, rfl, .inl (.inl hp2), by omega, fun p3 H4 sm4 hp3 => ?_⟩
        have hnl : (negP l).length = n := by rw [negP_len, hl]
        refine ⟨a, p3, xs, es, negP l, rfl, ⟨(sm.trans sm4).seq hS, hG.e.mono (sm.trans sm4), small100k (by omega)⟩, .inl (.inl hp3), fun e he => by rw [hnl]; exact Nat.le_of_eq (hG.b.d e he), by omega, fun p5 ws5 H5 sm5 np5 hp5 hE5 => ?_⟩
        refine ⟨_, rfl, p5, ws5, movL es (negP l), _, rfl, ⟨hp5, hE5, by rw [movL_len]; omega, fun e he z => ?_⟩, sgnE_64 es, fun g p6 ws6 H6 hg sm6 np6 hp6 hE6 => ?_⟩
        · obtain ⟨y, hy, rfl⟩ := List.mem_map.mp he
          have h0 : (plusP y.1 (negP l)).length = 0 := by
            have : plusP y.1 (negP l) = [] := z
            rw [this]
            rfl
          rw [plusP_len (by rw [hnl]; exact Nat.le_of_eq (hG.b.d y hy)), hG.b.d y hy] at h0
          omega
        · have sAll := ((sm.trans sm4).trans sm5)
          refine q p6 ws6 g H6 ⟨l, hl.trans (dimE_eq hG.b.d hne).symm, hlow, hg⟩ (sAll.trans sm6) ?_ hp6 hE6
          cases z : H2 p6 with
          | none => rfl
          | some o =>
            rw [sAll _ _ z] at np6
            cases np6
theorem kb_bb : kitB "bool" "bool" = some true := by decide +kernel
def spTruth : Sp := fun vs H Q _ => ∃ (x y : Bool), vs = [.bl x, .bl y] ∧ Q (.bl (decide (x = y))) H
theorem c__law_truth {f : Addr} {fd : FuncData} (D : C8.Def K mg "_law_truth" s__law_truth f fd) (b : Binds K fd ["_law_actual", "_law_expected"] []) (T : Bi mg) : C8.Cal P w K mg base 1 "_law_truth" spTruth [] := by
  refine C8.cal0 D b .nil sc__law_truth (fun vs H Q E h => ?_) (fun cdv A outer s H vs Q E hr h => ?_)
  · obtain ⟨x, y, rfl, _⟩ := h
    rfl
  · obtain ⟨x, y, rfl, q⟩ := h
    refine ⟨_, (pss_one (ps_ret (pe_and (pe_callB call_isi (by rfl) T.n_isinstance OT.b_isinstance (pa_cons (pv 0) (pa_cons (pe_bltn (v := .ty "bool") (by rfl) T.n_bool OT.b_bool rfl) pa_nil))) (pe_one (pe_cmpR op_eq (pv 0) (pv 1) (nomark _)))))), ?_⟩
    refine ⟨_, rfl, _, _, _, _, _, rfl, .ty _, .base (.bl x), kit_ty kb_bb, _, rfl, ?_⟩
    refine iteT ?_
    refine ⟨_, rfl, _, rfl, rfl, ?_⟩
    have e : decide (V.bl x = V.bl y) = decide (x = y) := by
      by_cases c : x = y
      · rw [decide_eq_true c, decide_eq_true (by rw [c])]
      · rw [decide_eq_false c, decide_eq_false (fun z => c (V.bl.inj z))]
    show Q (V.bl (decide (V.bl x = V.bl y))) H
    rw [e]
    exact q
end
end OT

set_option Elab.async false
set_option linter.all false
set_option maxRecDepth 100000
set_option maxHeartbeats 2000000
namespace OT
open PySem PySem.Spec PyProof.Rows L2
theorem eqT {i : Nat} {σ : L2.St} {H : Hp} {Q : Bool → Hp → Prop} {m x : Int} (hs : σ[i]? = some (some (.int m))) (h : m = x → Q true H) (h' : m ≠ x → Q false H) : tTest (tOp rEq (tVar i) (tC (.int x))) σ H Q := by
  refine ⟨_, hs, rfl, _, rfl, ?_⟩
  by_cases c : m = x
  · rw [decide_eq_true (by rw [c])]
    exact h c
  · rw [decide_eq_false (fun z => c (V.int.inj z))]
    exact h' c
theorem orT {t : TT} {i : Nat} {σ : L2.St} {H : Hp} {Q : Bool → Hp → Prop} {m x : Int} (hs : σ[i]? = some (some (.int m))) (h : m = x → Q true H) (h' : m ≠ x → t σ H Q) : tOr (tTest (tOp rEq (tVar i) (tC (.int x)))) t σ H Q :=
  eqT hs (fun c => iteT (h c)) (fun c => iteF (h' c))
theorem or2 {i : Nat} {σ : L2.St} {H : Hp} {Q : Bool → Hp → Prop} {m x y : Int} (hs : σ[i]? = some (some (.int m))) (h : (m = x ∨ m = y) → Q true H) (h' : ¬ (m = x ∨ m = y) → Q false H) :
    tOr (tTest (tOp rEq (tVar i) (tC (.int x)))) (tTest (tOp rEq (tVar i) (tC (.int y)))) σ H Q :=
  orT hs (fun c => h (.inl c)) fun c => eqT hs (fun d => h (.inr d)) fun d => h' fun z => z.elim c d
theorem or3 {i : Nat} {σ : L2.St} {H : Hp} {Q : Bool → Hp → Prop} {m x y z : Int} (hs : σ[i]? = some (some (.int m))) (h : (m = x ∨ m = y ∨ m = z) → Q true H) (h' : ¬ (m = x ∨ m = y ∨ m = z) → Q false H) :
    tOr (tTest (tOp rEq (tVar i) (tC (.int x)))) (tOr (tTest (tOp rEq (tVar i) (tC (.int y)))) (tTest (tOp rEq (tVar i) (tC (.int z))))) σ H Q :=
  orT hs (fun c => h (.inl c)) fun c => or2 hs (fun d => h (.inr d)) fun d => h' fun q => q.elim c d
theorem or4 {i : Nat} {σ : L2.St} {H : Hp} {Q : Bool → Hp → Prop} {m x y z u : Int} (hs : σ[i]? = some (some (.int m))) (h : (m = x ∨ m = y ∨ m = z ∨ m = u) → Q true H) (h' : ¬ (m = x ∨ m = y ∨ m = z ∨ m = u) → Q false H) :
    tOr (tTest (tOp rEq (tVar i) (tC (.int x)))) (tOr (tTest (tOp rEq (tVar i) (tC (.int y)))) (tOr (tTest (tOp rEq (tVar i) (tC (.int z)))) (tTest (tOp rEq (tVar i) (tC (.int u)))))) σ H Q :=
  orT hs (fun c => h (.inl c)) fun c => or3 hs (fun d => h (.inr d)) fun d => h' fun q => q.elim c d
section
variable {P : Program} {w : World} {K : PySem.W.Frag} {mg : Str → Option Value} {base : Heap}
def zs2 : List Int := [3, 14, 2, 8, 10, 2, 5]
def spFirst (K : PySem.W.Frag) : Sp := fun vs H Q _ => ∃ (a d b : Addr) (ns ds : List Int) (l : Pl) (k : Nat), vs = [.ref a, .ref d, .ref b] ∧ SqL K H a (ns.map V.int) ∧ SqL K H d (ds.map V.int) ∧ InR ds zs2 ∧ ds[0]? = some (k : Int) ∧ H b = some (.tup (l.map V.int)) ∧ l.length = k + 1 ∧ (∀ x ∈ l, x.natAbs ≤ 900) ∧
  ∀ p xs es H', GR H' p xs es (k + 1) 200 10000 → Same H H' → Q (.ref p) H'
theorem c__law_first {f : Addr} {fd : FuncData} (D : C8.Def K mg "_law_first" s__law_first f fd) (b : Binds K fd ["_law_script", "_law_draws_here", "_law_by"] []) (T : Bi mg) (c__law_cell : C8.Cal P w K mg base 1 "_law_cell" (spCell K) []) (c__law_box : C8.Cal P w K mg base 1 "_law_box" (spBox K) []) (c__law_drawn : C8.Cal P w K mg base 3 "_law_drawn" (spDrawn K) [])
    (c__law_scaled : C8.Cal P w K mg base 2 "_law_scaled" spScaled []) (c__law_add : C8.Cal P w K mg base 2 "_law_add" spAdd []) (c__law_mirror : C8.Cal P w K mg base 2 "_law_mirror" spMir []) (c__law_minus : C8.Cal P w K mg base 3 "_law_minus" spMinus []) (c__law_row : C8.Cal P w K mg base 1 "_law_row" (spGather K) []) (c__law_back : C8.Cal P w K mg base 1 "_law_back" (spBack K) [])
    (c__law_by_unit : C8.Cal P w K mg base 3 "_law_by_unit" (spByUnit K) []) : C8.Cal P w K mg base 4 "_law_first" (spFirst K) [] := by
  refine C8.cal0 D b .nil sc__law_first (fun vs H Q E h => ?_) (fun cdv A outer s H vs Q E hr h => ?_)
  · obtain ⟨a, d, b, ns, ds, l, k, rfl, _⟩ := h
    rfl
  · obtain ⟨a, d, b, ns, ds, l, k, rfl, hA, hD, hin, hk, hB, hl, hlc, q⟩ := h
    refine ⟨_, (pss_cons (ps_set (i := 3) sc__law_first.nd rfl (Or.inl rfl) (pe_ix ix_list (pv 1) pe_int (fun _ _ => rfl)))
  (pss_cons (ps_set (i := 4) sc__law_first.nd rfl (Or.inl rfl) (C8.pe_c c__law_drawn hr (by decide) (by rfl) (pa_cons (C8.pe_c c__law_cell hr (by decide) (by rfl) (pa_cons (pv 0) (pa_cons pe_int pa_nil))) (pa_cons (C8.pe_c c__law_box hr (by decide) (by rfl) (pa_cons (pe_ix ix_list (pv 1) pe_int (fun _ _ => rfl)) (pa_cons pe_int pa_nil))) (pa_cons pe_int (pa_cons pe_int pa_nil))))))
  (C8.pss_cut (ps_if (pt_cmpR op_eq (pe_ix ix_list (pv 1) pe_int (fun _ _ => rfl)) pe_int (nomark _)) (pss_one (ps_set (i := 4) sc__law_first.nd rfl (Or.inl rfl) (C8.pe_c c__law_scaled hr (by decide) (by rfl) (pa_cons (pv 4) (pa_cons (pe_op op_sub (pe_op op_pow pe_int pe_int) (pe_ix ix_list (pv 1) pe_int (fun _ _ => rfl))) pa_nil))))) pss_nil)
  (C8.pss_cut (ps_if (PW.pt (pw_or (pt_cmpR op_eq (pv 3) pe_int (nomark _)) (pw_or (pt_cmpR op_eq (pv 3) pe_int (nomark _)) (pw_or1 (pt_cmpR op_eq (pv 3) pe_int (nomark _)))))) (pss_one (ps_set (i := 4) sc__law_first.nd rfl (Or.inl rfl) (C8.pe_c c__law_add hr (by decide) (by rfl) (pa_cons (pv 4) (pa_cons (C8.pe_c c__law_mirror hr (by decide) (by rfl) (pa_cons (pv 4) pa_nil)) pa_nil))))) pss_nil)
  (C8.pss_cut (ps_if (pt_cmpR op_eq (pv 3) pe_int (nomark _)) (pss_one (ps_set (i := 4) sc__law_first.nd rfl (Or.inl rfl) (C8.pe_c c__law_minus hr (by decide) (by rfl) (pa_cons (pv 4) (pa_cons (C8.pe_c c__law_mirror hr (by decide) (by rfl) (pa_cons (pv 4) pa_nil)) pa_nil))))) pss_nil)
  (C8.pss_cut (ps_if (pt_cmpR op_eq (pv 3) pe_int (nomark _)) (pss_one (ps_set (i := 4) sc__law_first.nd rfl (Or.inl rfl) (C8.pe_c c__law_row hr (by decide) (by rfl) (pa_cons (pe_lst (pa_cons (pe_tup (pa_cons (C8.pe_c c__law_back hr (by decide) (by rfl) (pa_cons (pv 2) pa_nil)) (pa_cons (pe_op op_sub (pe_ix ix_list (pv 1) pe_int (fun _ _ => rfl)) pe_int) pa_nil))) pa_nil)) pa_nil)))) pss_nil)
  (C8.pss_cut (ps_if (pt_cmpR op_eq (pv 3) pe_int (nomark _)) (pss_one (ps_set (i := 4) sc__law_first.nd rfl (Or.inl rfl) (pe_lst pa_nil))) pss_nil)
  (C8.pss_cut (ps_if (pt_cmpR op_eq (pv 3) pe_int (nomark _)) (pss_one (ps_set (i := 4) sc__law_first.nd rfl (Or.inl rfl) (C8.pe_c c__law_by_unit hr (by decide) (by rfl) (pa_cons (pv 4) (pa_cons (pe_op op_sub pe_int (pe_op op_mul pe_int (pe_ix ix_list (pv 1) pe_int (fun _ _ => rfl)))) (pa_cons (pv 2) pa_nil)))))) pss_nil)
  (C8.pss_cut (ps_if (pt_cmpR op_eq (pv 3) pe_int (nomark _)) (pss_one (ps_set (i := 4) sc__law_first.nd rfl (Or.inl rfl) (C8.pe_c c__law_add hr (by decide) (by rfl) (pa_cons (pv 4) (pa_cons (C8.pe_c c__law_by_unit hr (by decide) (by rfl) (pa_cons (pv 4) (pa_cons (pe_op op_sub pe_int (pe_op op_mul pe_int (pe_ix ix_list (pv 1) pe_int (fun _ _ => rfl)))) (pa_cons (pv 2) pa_nil)))) pa_nil))))) pss_nil)
  (pss_one (ps_ret (pv 4)))))))))))), ?_⟩
    obtain ⟨d0, g0, g0a, g0b⟩ := hin.get (i := 0) (z := 3) rfl
    obtain ⟨m, g1, g1a, g1b⟩ := hin.get (i := 1) (z := 14) rfl
    obtain ⟨d2, g2, g2a, g2b⟩ := hin.get (i := 2) (z := 2) rfl
    obtain ⟨d3, g3, g3a, g3b⟩ := hin.get (i := 3) (z := 8) rfl
    obtain ⟨d4, g4, g4a, g4b⟩ := hin.get (i := 4) (z := 10) rfl
    obtain ⟨d5, g5, g5a, g5b⟩ := hin.get (i := 5) (z := 2) rfl
    obtain ⟨d6, g6, g6a, g6b⟩ := hin.get (i := 6) (z := 5) rfl
    have e0 : d0 = (k : Int) := by
      rw [List.getElem?_map, hk] at g0
      exact (V.int.inj (Option.some.inj g0)).symm
    subst e0
    refine ⟨_, rfl, d, _, 1, _, rfl, rfl, hD, atI_nat (j := 1) g1, ?_⟩
    have hu64 : ∀ z : Int, -(10 : Int) ^ 18 ≤ z → z ≤ 10 ^ 18 → -(2 ^ 64) < z ∧ z < 2 ^ 64 := fun z h1 h2 => by
      have e1 : (2 : Int) ^ 64 = 18446744073709551616 := by decide
      have e2 : (10 : Int) ^ 18 = 1000000000000000000 := by decide
      omega
    refine ⟨_, rfl, a, ns, 1, rfl, hA, by decide, fun cc => ?_⟩
    refine ⟨_, rfl, d, _, 0, _, rfl, rfl, hD, atI_nat (j := 0) g0, k, 5, rfl, by omega, fun p1 bs H1 hbs hbl sm1 hp1 => ?_⟩
    have hbok : BoxOk bs ∧ pr bs ≤ 10 := by
      rcases hbs with rfl | rfl | rfl
      · exact ⟨⟨by decide, by decide, fun i => by match i with | 0 => decide | 1 => decide | n + 2 => exact (show pr [5] ≤ 1000 by decide)⟩, by decide⟩
      · exact ⟨⟨by decide, by decide, fun i => by match i with | 0 => decide | 1 => decide | 2 => decide | n + 3 => exact (show pr [5, 2] ≤ 1000 by decide)⟩, by decide⟩
      · exact ⟨⟨by decide, by decide, fun i => by match i with | 0 => decide | 1 => decide | 2 => decide | 3 => decide | n + 4 => exact (show pr [2, 2, 2] ≤ 1000 by decide)⟩, by decide⟩
    refine ⟨cc, p1, bs, 3, 6, rfl, .inl (.inl hp1), hbok.1, by omega, by have := hbok.2; omega, by decide, by decide, fun p2 xs es H2 sm2 np2 hp2 hE2 hd2 => ?_⟩
    have G0 : GR H2 p2 xs es (k + 1) 10 14 := ⟨hp2, hE2, hd2.v, Nat.le_trans hd2.m hbok.2, ⟨fun e he => (hd2.n e he).trans hbl, hd2.c⟩⟩
    have sA := sm1.trans sm2
    clear hd2 hp2 hE2 np2 hp1 hbs
    let St : Nat → Nat → L2.St → Hp → Prop := fun L C σ H3 => ∃ (p : Addr) (xs : List V) (es : List Ent), σ = [some (.ref a), some (.ref d), some (.ref b), some (.int m), some (.ref p)] ∧ Same H H3 ∧ GR H3 p xs es (k + 1) L C
    refine ⟨St 10 14, ?_, ?_⟩
    · refine ⟨_, rfl, d, _, 3, _, rfl, rfl, sA.seq hD, atI_nat (j := 3) g3, rfl, _, rfl, iteD (fun _ => ?_) (fun _ => ?_)⟩
      · refine ⟨_, rfl, 10, 11, rfl, rfl, ⟨by decide, by decide⟩, _, rfl, d, _, 4, _, rfl, rfl, sA.seq hD, atI_nat (j := 4) g4, _, _, rfl, rfl, ?_⟩
        refine ⟨p2, xs, es, _, rfl, G0.lst (by omega) (by decide), hu64 _ ?_ ?_, fun r p3 ws H3 hr3 sm3 np3 hp3 hE3 => ?_⟩
        · have e2 : (10 : Int) ^ 18 = 1000000000000000000 := by decide
          have e3 : (10 : Int) ^ (11 : Int).toNat = 100000000000 := by decide
          show -(10 : Int) ^ 18 ≤ (10 : Int) ^ (11 : Int).toNat - d4
          omega
        · have e2 : (10 : Int) ^ 18 = 1000000000000000000 := by decide
          have e3 : (10 : Int) ^ (11 : Int).toNat = 100000000000 := by decide
          show (10 : Int) ^ (11 : Int).toNat - d4 ≤ (10 : Int) ^ 18
          omega
        · exact ⟨p3, ws, r, rfl, sA.trans sm3, .of hr3 hp3 hE3 (by rw [scaleL_len]; exact G0.z) (G0.b.scale _)⟩
      · exact ⟨p2, xs, es, rfl, sA, G0⟩
    clear G0 sA
    rintro σ H3 ⟨p3, xs3, es3, rfl, sA, G0⟩
    refine ⟨St 20 14, ?_, ?_⟩
    · refine or3 rfl (fun _ => iteT ?_) (fun _ => iteF ?_)
      · refine ⟨_, rfl, _, rfl, p3, xs3, es3, rfl, G0.lst (by omega) (by decide), fun e he => by rw [G0.b.d e he]; omega, fun r p4 ws H4 hr4 sm4 np4 hp4 hE4 => ?_⟩
        have G4 : GR H4 p4 ws r (k + 1) 10 14 := .of hr4 hp4 hE4 (by rw [mirL_len]; exact G0.z) G0.b.mir
        have G0' := G0.mono sm4
        refine ⟨p3, p4, _, _, es3, r, rfl, G0'.lst (by omega) (by decide), G4.lst (by omega) (by decide), fun r5 p5 ws5 H5 hr5 sm5 np5 hp5 hE5 => ?_⟩
        exact ⟨p5, ws5, r5, rfl, (sA.trans sm4).trans sm5, .of hr5 hp5 hE5 (by rw [List.length_append]; have := G0.z; have := G4.z; omega) (G0.b.app G4.b)⟩
      · exact ⟨p3, xs3, es3, rfl, sA, G0.le (by decide) (by decide)⟩
    clear G0 sA
    rintro σ H3 ⟨p3, xs3, es3, rfl, sA, G0⟩
    refine ⟨St 40 14, ?_, ?_⟩
    · refine eqT rfl (fun _ => iteT ?_) (fun _ => iteF ?_)
      · refine ⟨_, rfl, _, rfl, p3, xs3, es3, rfl, G0.lst (by omega) (by decide), fun e he => by rw [G0.b.d e he]; omega, fun r p4 ws H4 hr4 sm4 np4 hp4 hE4 => ?_⟩
        have G4 : GR H4 p4 ws r (k + 1) 20 14 := .of hr4 hp4 hE4 (by rw [mirL_len]; exact G0.z) G0.b.mir
        have G0' := G0.mono sm4
        refine ⟨p3, p4, _, _, es3, r, rfl, G0'.lst (by omega) (by decide), G4.lst (by omega) (by decide), fun g hg H5 sm5 r6 p6 ws6 H6 hr6 sm6 np6 hp6 hE6 => ?_⟩
        have hgl := hg.len
        rw [scaleL_len] at hgl
        exact ⟨p6, ws6, r6, rfl, ((sA.trans sm4).trans sm5).trans sm6, .of hr6 hp6 hE6 (by rw [List.length_append]; have := G0.z; have := G4.z; omega) (G0.b.app ((G4.b.scale _).row hg))⟩
      · exact ⟨p3, xs3, es3, rfl, sA, G0.le (by decide) (by decide)⟩
    clear G0 sA
    rintro σ H3 ⟨p3, xs3, es3, rfl, sA, G0⟩
    refine ⟨St 40 900, ?_, ?_⟩
    · refine eqT rfl (fun _ => iteT ?_) (fun _ => iteF ?_)
      · refine ⟨_, rfl, b, l, rfl, .inl (.inl (sA _ _ hB)), by omega, fun p4 H4 sm4 hp4 => ?_⟩
        have sB := sA.trans sm4
        refine ⟨_, rfl, d, _, 6, _, rfl, rfl, sB.seq hD, atI_nat (j := 6) g6, _, _, rfl, rfl, (by show 2 ≤ sizeLine; decide), fun t5 nt5 => ?_⟩
        have s5 : Same H4 (upd H4 t5 (.tup [.ref p4, .int (d6 - 2)])) := same_upd nt5
        have ht5 : (upd H4 t5 (.tup [.ref p4, .int (d6 - 2)])) t5 = some (.tup [.ref p4, .int (d6 - 2)]) := upd_same
        have hp5 := s5 _ _ hp4
        generalize upd H4 t5 (.tup [.ref p4, .int (d6 - 2)]) = H5 at s5 ht5 hp5 ⊢
        refine ⟨(by show 1 ≤ sizeLine; decide), fun p6 np6 => ?_⟩
        have s6 : Same H5 (upd H5 p6 (.lst [.ref t5])) := same_upd np6
        have hb : PlB [(negP l, d6 - 2)] (k + 1) 900 := ⟨fun e he => by rw [List.mem_singleton.mp he]; show (negP l).length = k + 1; rw [negP_len, hl], fun e he => by rw [List.mem_singleton.mp he]; exact negP_c hlc⟩
        refine ⟨p6, _, [(negP l, d6 - 2)], rfl, ⟨.inl (.inl upd_same), .cons ⟨t5, p4, rfl, s6 _ _ ht5, s6 _ _ hp5⟩ .nil, by show 1 < sizeLine; decide⟩, fun e he z => ?_, fun r p7 ws7 H7 hr7 sm7 np7 hp7 hE7 => ?_⟩
        · have := hb.d e he
          rw [z] at this
          cases this
        · exact ⟨p7, ws7, r, rfl, ((sB.trans s5).trans s6).trans sm7, .of hr7 hp7 hE7 (by show 1 ≤ 40; decide) hb⟩
      · exact ⟨p3, xs3, es3, rfl, sA, G0.le (by decide) (by decide)⟩
    clear G0 sA
    rintro σ H3 ⟨p3, xs3, es3, rfl, sA, G0⟩
    refine ⟨St 40 900, ?_, ?_⟩
    · refine eqT rfl (fun _ => iteT ?_) (fun _ => iteF ?_)
      · refine ⟨(by show 0 ≤ sizeLine; decide), fun p4 np4 => ?_⟩
        exact ⟨p4, [], [], rfl, sA.trans (same_upd np4), upd_same, .nil, ⟨.nil, fun e h => (by cases h)⟩, by decide, .nil⟩
      · exact ⟨p3, xs3, es3, rfl, sA, G0⟩
    clear G0 sA
    rintro σ H3 ⟨p3, xs3, es3, rfl, sA, G0⟩
    have hd2 : -(2 ^ 64) < (1 : Int) - 2 * d2 ∧ (1 : Int) - 2 * d2 < 2 ^ 64 := by
      have e1 : (2 : Int) ^ 64 = 18446744073709551616 := by decide
      omega
    have cm2 : CMul 2 d2 := .inl ⟨by decide, by decide⟩
    refine ⟨St 40 1800, ?_, ?_⟩
    · refine eqT rfl (fun _ => iteT ?_) (fun _ => iteF ?_)
      · refine ⟨_, rfl, _, rfl, d, _, 2, _, rfl, rfl, sA.seq hD, atI_nat (j := 2) g2, _, _, rfl, rfl, cm2, _, _, rfl, rfl, _, rfl, ?_⟩
        refine ⟨p3, b, xs3, es3, _, l, rfl, G0.lst (by omega) (by decide), .inl (.inl (sA _ _ hB)), fun e he => by rw [G0.b.d e he, hl]; exact Nat.le_refl _, by omega, hd2, fun r p4 ws H4 hr4 sm4 np4 hp4 hE4 => ?_⟩
        exact ⟨p4, ws, r, rfl, sA.trans sm4, .of hr4 hp4 hE4 (by rw [scaleL_len, movL_len]; exact G0.z) ((G0.b.mov hl hlc).scale _)⟩
      · exact ⟨p3, xs3, es3, rfl, sA, G0.le (by decide) (by decide)⟩
    clear G0 sA
    rintro σ H3 ⟨p3, xs3, es3, rfl, sA, G0⟩
    refine ⟨St 80 2700, ?_, ?_⟩
    · refine eqT rfl (fun _ => iteT ?_) (fun _ => iteF ?_)
      · refine ⟨_, rfl, _, rfl, _, rfl, d, _, 2, _, rfl, rfl, sA.seq hD, atI_nat (j := 2) g2, _, _, rfl, rfl, cm2, _, _, rfl, rfl, _, rfl, ?_⟩
        refine ⟨p3, b, xs3, es3, _, l, rfl, G0.lst (by omega) (by decide), .inl (.inl (sA _ _ hB)), fun e he => by rw [G0.b.d e he, hl]; exact Nat.le_refl _, by omega, hd2, fun r p4 ws H4 hr4 sm4 np4 hp4 hE4 => ?_⟩
        have G4 : GR H4 p4 ws r (k + 1) 40 2700 := .of hr4 hp4 hE4 (by rw [scaleL_len, movL_len]; exact G0.z) ((G0.b.mov hl hlc).scale _)
        have G0' := (G0.mono sm4).le (Nat.le_refl 40) (show 1800 ≤ 2700 by decide)
        refine ⟨p3, p4, _, _, es3, r, rfl, G0'.lst (by omega) (by decide), G4.lst (by omega) (by decide), fun r5 p5 ws5 H5 hr5 sm5 np5 hp5 hE5 => ?_⟩
        exact ⟨p5, ws5, r5, rfl, (sA.trans sm4).trans sm5, .of hr5 hp5 hE5 (by rw [List.length_append]; have := G0.z; have := G4.z; omega) (G0'.b.app G4.b)⟩
      · exact ⟨p3, xs3, es3, rfl, sA, G0.le (by decide) (by decide)⟩
    clear G0 sA
    rintro σ H3 ⟨p3, xs3, es3, rfl, sA, G0⟩
    exact ⟨_, rfl, q p3 xs3 es3 H3 (G0.le (by decide) (by decide)) sA⟩
end
end OT

set_option Elab.async false
set_option linter.all false
set_option maxRecDepth 100000
set_option maxHeartbeats 4000000
namespace OT
open PySem PySem.Spec PyProof.Rows L2
theorem lex_snoc (x : Int) : ∀ k : Pl, HT.lexLt (k ++ [x]) (k ++ [x + 1]) = true
  | [] => by
    show (if x = x + 1 then _ else decide (x < x + 1)) = true
    rw [if_neg (by omega)]
    exact decide_eq_true (by omega)
  | y :: r => by
    show (if y = y then HT.lexLt (r ++ [x]) (r ++ [x + 1]) else decide (y < y)) = true
    rw [if_pos rfl]
    exact lex_snoc x r
/-- the last entry one place further -/
theorem valid_further {fs : List Ent} {k : Pl} {x n : Int} (h : Valid (fs ++ [(k ++ [x], n)])) : Valid (fs ++ [(k ++ [x + 1], n)]) := by
  obtain ⟨h1, h2, h3⟩ := List.pairwise_append.mp h.asc
  refine ⟨List.pairwise_append.mpr ⟨h1, List.pairwise_singleton _ _, fun a ha b hb => ?_⟩, fun e he => ?_⟩
  · rw [List.mem_singleton.mp hb]
    exact lt_trans (h3 a ha _ List.mem_cons_self) (lex_snoc x k)
  · rcases List.mem_append.mp he with he | he
    · exact h.nz e (List.mem_append_left _ he)
    · rw [List.mem_singleton.mp he]
      exact h.nz (k ++ [x], n) (List.mem_append_right _ List.mem_cons_self)
theorem cut_init {xs : List V} {v : V} : cutV (xs ++ [v]) none (some (-1)) = xs := by
  unfold cutV
  have e : HT.sIx (xs ++ [v]).length (xs ++ [v]).length (some (-1)) = xs.length := by
    show (if (-1 : Int) < 0 then ((-1 : Int) + ((xs ++ [v]).length : Int)).toNat else min (-1 : Int).toNat (xs ++ [v]).length) = xs.length
    rw [if_pos (by decide), List.length_append]
    show ((-1 : Int) + ((xs.length + 1 : Nat) : Int)).toNat = xs.length
    omega
  rw [e, HT.sIx_none, List.drop_zero, Nat.sub_zero, List.take_append_of_le_length (Nat.le_refl _), List.take_length]
theorem Ents.mod {H : Hp} {vs : List V} {es : List Ent} (h : Ents H vs es) (hp : 0 < es.length) (z : Int) : ∃ (v : V) (e : Ent), atI vs (z % (vs.length : Int)) = some v ∧ EntAt H v e ∧ e ∈ es := by
  have hl := h.len
  have h0 : 0 ≤ z % (vs.length : Int) := Int.emod_nonneg _ (by omega)
  have h1 : z % (vs.length : Int) < vs.length := Int.emod_lt_of_pos _ (by omega)
  obtain ⟨j, hj⟩ := Int.eq_ofNat_of_zero_le h0
  rw [hj] at h1 ⊢
  obtain ⟨v, hv, he⟩ := h.at (i := j) (by omega)
  exact ⟨v, _, atI_nat hv, he, List.getElem_mem _⟩
theorem Ents.unsnoc {H : Hp} : ∀ {fs : List Ent} {xs : List V} {e : Ent}, Ents H xs (fs ++ [e]) → ∃ us v, xs = us ++ [v] ∧ Ents H us fs ∧ EntAt H v e
  | [], xs, e, h => by
    cases h with
    | cons h1 h2 =>
      cases h2
      exact ⟨[], _, rfl, .nil, h1⟩
  | f :: fs, xs, e, h => by
    cases h with
    | cons h1 h2 =>
      obtain ⟨us, v, rfl, a, b⟩ := Ents.unsnoc (fs := fs) h2
      exact ⟨_ :: us, v, rfl, .cons h1 a, b⟩
section
variable {P : Program} {w : World} {K : PySem.W.Frag} {mg : Str → Option Value} {base : Heap}
def spSecond (K : PySem.W.Frag) : Sp := fun vs H Q _ => ∃ (a d b p0 : Addr) (ns ds : List Int) (l : Pl) (k : Nat) (xs0 : List V) (es0 : List Ent), vs = [.ref a, .ref d, .ref b, .ref p0] ∧ SqL K H a (ns.map V.int) ∧ SqL K H d (ds.map V.int) ∧ InR ds zs2 ∧ ds[0]? = some (k : Int) ∧ H b = some (.tup (l.map V.int)) ∧ l.length = k + 1 ∧ (∀ x ∈ l, x.natAbs ≤ 900) ∧
  GR H p0 xs0 es0 (k + 1) 200 10000 ∧ ∀ p xs es n H', 1 ≤ n → n ≤ 3 → GR H' p xs es n 300 20000 → Same H H' → Q (.ref p) H'
theorem c__law_second {f : Addr} {fd : FuncData} (D : C8.Def K mg "_law_second" s__law_second f fd) (b : Binds K fd ["_law_script", "_law_draws_here", "_law_by", "_law_row_here"] []) (T : Bi mg) (c__law_cell : C8.Cal P w K mg base 1 "_law_cell" (spCell K) []) (c__law_box : C8.Cal P w K mg base 1 "_law_box" (spBox K) []) (c__law_drawn : C8.Cal P w K mg base 3 "_law_drawn" (spDrawn K) [])
    (c__law_add : C8.Cal P w K mg base 2 "_law_add" spAdd []) (c__law_mirror : C8.Cal P w K mg base 2 "_law_mirror" spMir [])
    (c__law_by_unit : C8.Cal P w K mg base 3 "_law_by_unit" (spByUnit K) []) : C8.Cal P w K mg base 4 "_law_second" (spSecond K) [] := by
  refine C8.cal0 D b .nil sc__law_second (fun vs H Q E h => ?_) (fun cdv A outer s H vs Q E hr h => ?_)
  · obtain ⟨a, d, b, p0, ns, ds, l, k, xs0, es0, rfl, _⟩ := h
    rfl
  · obtain ⟨a, d, b, p0, ns, ds, l, k, xs0, es0, rfl, hA, hD, hin, hk, hB, hl, hlc, G0, q⟩ := h
    refine ⟨_, (pss_cons (ps_set (i := 4) sc__law_second.nd rfl (Or.inl rfl) (pe_ix ix_list (pv 1) pe_int (fun _ _ => rfl)))
  (pss_cons (ps_set (i := 5) sc__law_second.nd rfl (Or.inl rfl) (pe_ix ix_list (pv 1) pe_int (fun _ _ => rfl)))
  (C8.pss_cut (ps_if (PW.pt (pw_or (pt_cmpR op_eq (pv 4) pe_int (nomark _)) (pw_or1 (pt_cmpR op_eq (pv 4) pe_int (nomark _))))) (pss_one (ps_set (i := 5) sc__law_second.nd rfl (Or.inl rfl) (pe_op op_mod (pe_callTy call_int1 (by rfl) T.n_int OT.b_int (pa_cons (pe_op op_add (pe_op op_add (pv 5) pe_int) (pe_ix ix_list (pv 1) pe_int (fun _ _ => rfl))) pa_nil)) pe_int))) pss_nil)
  (pss_cons (ps_if (PW.pt (pw_or (pt_cmpR op_eq (pv 4) pe_int (nomark _)) (pw_or (pt_cmpR op_eq (pv 4) pe_int (nomark _)) (pw_or (pt_cmpR op_eq (pv 4) pe_int (nomark _)) (pw_or1 (pt_cmpR op_eq (pv 4) pe_int (nomark _))))))) (pss_one (ps_ret (C8.pe_c c__law_drawn hr (by decide) (by rfl) (pa_cons (C8.pe_c c__law_cell hr (by decide) (by rfl) (pa_cons (pv 0) (pa_cons pe_int pa_nil))) (pa_cons (C8.pe_c c__law_box hr (by decide) (by rfl) (pa_cons (pv 5) (pa_cons pe_int pa_nil))) (pa_cons pe_int (pa_cons pe_int pa_nil))))))) pss_nil)
  (pss_cons (ps_if (PW.pt (pw_or (pt_cmpR op_eq (pv 4) pe_int (nomark _)) (pw_or (pt_cmpR op_eq (pv 4) pe_int (nomark _)) (pw_or1 (pt_cmpR op_eq (pv 4) pe_int (nomark _)))))) (pss_one (ps_ret (C8.pe_c c__law_mirror hr (by decide) (by rfl) (pa_cons (pv 3) pa_nil)))) pss_nil)
  (C8.pss_cut (ps_if (pt_cmpR op_eq (pv 4) pe_int (nomark _)) (pss_one (ps_set (i := 3) sc__law_second.nd rfl (Or.inl rfl) (C8.pe_c c__law_mirror hr (by decide) (by rfl) (pa_cons (pv 3) pa_nil)))) pss_nil)
  (pss_cons (ps_set (i := 3) sc__law_second.nd rfl (Or.inl rfl) (C8.pe_c c__law_by_unit hr (by decide) (by rfl) (pa_cons (pv 3) (pa_cons (pe_op op_sub pe_int (pe_op op_mul pe_int (pe_ix ix_list (pv 1) pe_int (fun _ _ => rfl)))) (pa_cons (pv 2) pa_nil)))))
  (C8.pss_cut (ps_if (pt_cmpR op_eq (pv 4) pe_int (nomark _)) (pss_cons (ps_set (i := 6) sc__law_second.nd rfl (Or.inl rfl) (pv 2))
  (C8.pss_cut (ps_if (pt_cmpR op_gt (pe_callB call_len_seq (by rfl) T.n_len OT.b_len (pa_cons (pv 3) pa_nil)) pe_int (nomark _)) (pss_one (ps_set (i := 6) sc__law_second.nd rfl (Or.inl rfl) (pe_ix ix_tup (pe_ix ix_list (pv 3) (pe_op op_mod (pe_callTy call_int1 (by rfl) T.n_int OT.b_int (pa_cons (pe_ix ix_list (pv 1) pe_int (fun _ _ => rfl)) pa_nil)) (pe_callB call_len_seq (by rfl) T.n_len OT.b_len (pa_cons (pv 3) pa_nil))) (fun _ _ => rfl)) pe_int (fun _ _ => rfl)))) pss_nil)
  (pss_one (ps_set (i := 3) sc__law_second.nd rfl (Or.inl rfl) (C8.pe_c c__law_add hr (by decide) (by rfl) (pa_cons (pv 3) (pa_cons (pe_lst (pa_cons (pe_tup (pa_cons (pv 6) (pa_cons pe_int pa_nil))) pa_nil)) pa_nil))))))) pss_nil)
  (C8.pss_cut (ps_if (PW.pt (pw_and (pt_cmpR op_eq (pv 4) pe_int (nomark _)) (pw_and1 (pt_cmpR op_gt (pe_callB call_len_seq (by rfl) T.n_len OT.b_len (pa_cons (pv 3) pa_nil)) pe_int (nomark _))))) (pss_cons (ps_set (i := 6) sc__law_second.nd rfl (Or.inl rfl) (pe_ix ix_tup (pe_ix ix_list (pv 3) (pe_un un_neg pe_int) (fun _ _ => rfl)) pe_int (fun _ _ => rfl)))
  (pss_one (ps_set (i := 3) sc__law_second.nd rfl (Or.inl rfl) (pe_op op_cat (pe_slice sl_list (pv 3) po_none (po_some (pe_un un_neg pe_int))) (pe_lst (pa_cons (pe_tup (pa_cons (pe_op op_catA (pe_slice sl_tupA (pv 6) po_none (po_some (pe_un un_neg pe_int))) (pe_tup (pa_cons (pe_op op_add (pe_ix ix_tup (pv 6) (pe_un un_neg pe_int) (fun _ _ => rfl)) pe_int) pa_nil))) (pa_cons (pe_ix ix_tup (pe_ix ix_list (pv 3) (pe_un un_neg pe_int) (fun _ _ => rfl)) pe_int (fun _ _ => rfl)) pa_nil))) pa_nil)))))) pss_nil)
  (pss_one (ps_ret (pv 3)))))))))))), ?_⟩
    obtain ⟨d0, g0, g0a, g0b⟩ := hin.get (i := 0) (z := 3) rfl
    obtain ⟨m, g1, g1a, g1b⟩ := hin.get (i := 1) (z := 14) rfl
    obtain ⟨d2, g2, g2a, g2b⟩ := hin.get (i := 2) (z := 2) rfl
    obtain ⟨d4, g4, g4a, g4b⟩ := hin.get (i := 4) (z := 10) rfl
    obtain ⟨d5, g5, g5a, g5b⟩ := hin.get (i := 5) (z := 2) rfl
    have e0 : d0 = (k : Int) := by
      rw [List.getElem?_map, hk] at g0
      exact (V.int.inj (Option.some.inj g0)).symm
    subst e0
    have hd2 : -(2 ^ 64) < (1 : Int) - 2 * d2 ∧ (1 : Int) - 2 * d2 < 2 ^ 64 := by
      have e1 : (2 : Int) ^ 64 = 18446744073709551616 := by decide
      omega
    have cm2 : CMul 2 d2 := .inl ⟨by decide, by decide⟩
    refine ⟨_, rfl, d, _, 1, _, rfl, rfl, hD, atI_nat (j := 1) g1, _, rfl, d, _, 0, _, rfl, rfl, hD, atI_nat (j := 0) g0, ?_⟩
    refine ⟨fun σ H2 => ∃ k2 : Nat, k2 < 3 ∧ σ = [some (.ref a), some (.ref d), some (.ref b), some (.ref p0), some (.int m), some (.int (k2 : Int)), none] ∧ H2 = H, ?_, ?_⟩
    · refine or2 rfl (fun _ => iteT ?_) (fun _ => iteF ?_)
      · refine ⟨_, rfl, _, _, rfl, rfl, _, rfl, d, _, 5, _, rfl, rfl, hD, atI_nat (j := 5) g5, _, _, rfl, rfl, .inl ⟨_, rfl, _, _, rfl, rfl, by show (0 : Int) < 3; decide, ?_⟩⟩
        obtain ⟨j, hj, hj3⟩ := mod_nat (n := 3) (by decide) ((k : Int) + 1 + d5)
        refine ⟨j, hj3, ?_, rfl⟩
        rw [← hj]
        rfl
      · exact ⟨k, by omega, rfl, rfl⟩
    rintro σ H2 ⟨k2, hk2, rfl, rfl⟩
    refine or4 rfl (fun _ => iteT ?_) (fun _ => iteF ?_)
    · refine ⟨_, rfl, a, ns, 3, rfl, hA, by decide, fun cc => ?_⟩
      refine ⟨_, rfl, k2, 5, rfl, hk2, fun p1 bs H1 hbs hbl sm1 hp1 => ?_⟩
      have hbok : BoxOk bs ∧ pr bs ≤ 10 := by
        rcases hbs with rfl | rfl | rfl
        · exact ⟨⟨by decide, by decide, fun i => by match i with | 0 => decide | 1 => decide | n + 2 => exact (show pr [5] ≤ 1000 by decide)⟩, by decide⟩
        · exact ⟨⟨by decide, by decide, fun i => by match i with | 0 => decide | 1 => decide | 2 => decide | n + 3 => exact (show pr [5, 2] ≤ 1000 by decide)⟩, by decide⟩
        · exact ⟨⟨by decide, by decide, fun i => by match i with | 0 => decide | 1 => decide | 2 => decide | 3 => decide | n + 4 => exact (show pr [2, 2, 2] ≤ 1000 by decide)⟩, by decide⟩
      refine ⟨cc, p1, bs, 3, 6, rfl, .inl (.inl hp1), hbok.1, by omega, by have := hbok.2; omega, by decide, by decide, fun p2 xs es H2 sm2 np2 hp2 hE2 hd2 => ?_⟩
      have G0 : GR H2 p2 xs es (k2 + 1) 10 14 := ⟨hp2, hE2, hd2.v, Nat.le_trans hd2.m hbok.2, ⟨fun e he => (hd2.n e he).trans hbl, hd2.c⟩⟩
      exact q p2 xs es (k2 + 1) H2 (by omega) (by omega) (G0.le (by decide) (by decide)) (sm1.trans sm2)
    refine or3 rfl (fun _ => iteT ?_) (fun _ => iteF ?_)
    · refine ⟨_, rfl, p0, xs0, es0, rfl, G0.lst (by omega) (by decide), fun e he => by rw [G0.b.d e he]; omega, fun r p4 ws H4 hr4 sm4 np4 hp4 hE4 => ?_⟩
      exact q p4 ws r (k + 1) H4 (by omega) (by omega) ((GR.of hr4 hp4 hE4 (by rw [mirL_len]; exact G0.z) G0.b.mir).le (by decide) (by decide)) sm4
    let St : Nat → Nat → L2.St → Hp → Prop := fun L C σ H3 => ∃ (p : Addr) (xs : List V) (es : List Ent) (y : Option V), σ = [some (.ref a), some (.ref d), some (.ref b), some (.ref p), some (.int m), some (.int (k2 : Int)), y] ∧ Same H2 H3 ∧ GR H3 p xs es (k + 1) L C
    refine ⟨St 200 10000, ?_, ?_⟩
    · refine eqT rfl (fun _ => iteT ?_) (fun _ => iteF ?_)
      · refine ⟨_, rfl, p0, xs0, es0, rfl, G0.lst (by omega) (by decide), fun e he => by rw [G0.b.d e he]; omega, fun r p4 ws H4 hr4 sm4 np4 hp4 hE4 => ?_⟩
        exact ⟨p4, ws, r, none, rfl, sm4, .of hr4 hp4 hE4 (by rw [mirL_len]; exact G0.z) G0.b.mir⟩
      · exact ⟨p0, xs0, es0, none, rfl, Same.refl _, G0⟩
    clear G0
    rintro σ H3 ⟨p3, xs3, es3, y3, rfl, sA, G0⟩
    refine ⟨_, rfl, _, rfl, d, _, 2, _, rfl, rfl, sA.seq hD, atI_nat (j := 2) g2, _, _, rfl, rfl, cm2, _, _, rfl, rfl, _, rfl, ?_⟩
    refine ⟨p3, b, xs3, es3, _, l, rfl, G0.lst (by omega) (by decide), .inl (.inl (sA _ _ hB)), fun e he => by rw [G0.b.d e he, hl]; exact Nat.le_refl _, by omega, hd2, fun r p4 ws H4 hr4 sm4 np4 hp4 hE4 => ?_⟩
    have G4 : GR H4 p4 ws r (k + 1) 200 10900 := .of hr4 hp4 hE4 (by rw [scaleL_len, movL_len]; exact G0.z) ((G0.b.mov hl hlc).scale _)
    have sB := sA.trans sm4
    clear G0 sA hr4 hp4 hE4 np4 sm4
    refine ⟨St 201 10900, ?_, ?_⟩
    · refine eqT rfl (fun _ => iteT ?_) (fun _ => iteF ?_)
      · have hSL : SqL K H4 p4 ws := .inl (.inl G4.l)
        have hwl := G4.e.len
        refine ⟨_, rfl, ?_⟩
        refine ⟨fun σ H5 => ∃ (c : Addr) (u : Pl), σ = [some (.ref a), some (.ref d), some (.ref b), some (.ref p4), some (.int m), some (.int (k2 : Int)), some (.ref c)] ∧ H5 = H4 ∧ H4 c = some (.tup (u.map V.int)) ∧ u.length = k + 1 ∧ ∀ x ∈ u, x.natAbs ≤ 10900, ?_, ?_⟩
        · refine ⟨_, rfl, p4, _, rfl, .inl hSL, _, _, rfl, rfl, _, rfl, iteD (fun c => ?_) (fun c => ?_)⟩
          · have hpos : 0 < r.length := by omega
            obtain ⟨v, e, hv, ⟨t, pe, rfl, ht, hpe⟩, hm⟩ := G4.e.mod hpos d4
            have hi0 : (0 : Int) < (ws.length : Int) := by omega
            refine ⟨_, rfl, _, rfl, d, _, 4, _, rfl, rfl, sB.seq hD, atI_nat (j := 4) g4, .inl ⟨_, rfl, _, rfl, p4, _, rfl, .inl hSL, _, _, rfl, rfl, hi0, p4, _, _, _, rfl, rfl, hSL, hv, t, _, 0, _, rfl, rfl, .inl (.inl ht), atI_nat (j := 0) rfl, ?_⟩⟩
            exact ⟨pe, e.1, rfl, rfl, hpe, G4.b.d e hm, G4.b.c e hm⟩
          · exact ⟨b, l, rfl, rfl, sB _ _ hB, hl, fun x hx => Nat.le_trans (hlc x hx) (by decide)⟩
        · rintro σ H5 ⟨c, u, rfl, rfl, hc, hul, huc⟩
          refine ⟨_, rfl, _, rfl, (by show 2 ≤ sizeLine; decide), fun t6 nt6 => ?_⟩
          have s6 : Same H5 (upd H5 t6 (.tup [.ref c, .int 1])) := same_upd nt6
          have ht6 : (upd H5 t6 (.tup [.ref c, .int 1])) t6 = some (.tup [.ref c, .int 1]) := upd_same
          have hc6 := s6 _ _ hc
          generalize upd H5 t6 (.tup [.ref c, .int 1]) = H6 at s6 ht6 hc6 ⊢
          refine ⟨(by show 1 ≤ sizeLine; decide), fun p7 np7 => ?_⟩
          have s7 : Same H6 (upd H6 p7 (.lst [.ref t6])) := same_upd np7
          have hb : PlB [(u, 1)] (k + 1) 10900 := ⟨fun e he => by rw [List.mem_singleton.mp he]; exact hul, fun e he => by rw [List.mem_singleton.mp he]; exact huc⟩
          have G7 := (G4.mono s6).mono s7
          refine ⟨p4, p7, ws, _, r, [(u, 1)], rfl, G7.lst (by omega) (by decide), ⟨upd_same, .cons ⟨t6, c, rfl, s7 _ _ ht6, s7 _ _ hc6⟩ .nil, (by show 1 ≤ 1000; decide), fun e he z => ?_⟩, fun r8 p8 ws8 H8 hr8 sm8 np8 hp8 hE8 => ?_⟩
          · have := hb.d e he
            rw [z] at this
            cases this
          · exact ⟨p8, ws8, r8, _, rfl, ((sB.trans s6).trans s7).trans sm8, .of hr8 hp8 hE8 (by rw [List.length_append]; have := G4.z; show r.length + 1 ≤ 201; omega) (G4.b.app hb)⟩
      · exact ⟨p4, ws, r, y3, rfl, sB, G4.le (by decide) (by decide)⟩
    clear G4 sB
    rintro σ H5 ⟨p5, xs5, es5, y5, rfl, sB, G5⟩
    have hSL : SqL K H5 p5 xs5 := .inl (.inl G5.l)
    have hxl := G5.e.len
    refine ⟨St 201 10901, ?_, ?_⟩
    · refine eqT rfl (fun _ => iteT ?_) (fun _ => iteF (iteF ?_))
      · refine ⟨_, rfl, p5, _, rfl, .inl hSL, _, _, rfl, rfl, _, rfl, iteD (fun c => ?_) (fun c => ?_)⟩
        · have hne : es5 ≠ [] := List.length_pos_iff.mp (by omega)
          obtain ⟨fs, e, rfl⟩ : ∃ fs e, es5 = fs ++ [e] := ⟨es5.dropLast, es5.getLast hne, (List.dropLast_concat_getLast hne).symm⟩
          obtain ⟨us, v, rfl, hU, t, pe, rfl, ht, hpe⟩ := G5.e.unsnoc
          have hel : e.1.length = k + 1 := G5.b.d e (List.mem_append_right _ List.mem_cons_self)
          have hec := G5.b.c e (List.mem_append_right _ List.mem_cons_self)
          have hke : e.1 ≠ [] := fun z => by rw [z] at hel; cases hel
          obtain ⟨kk, x, hkx⟩ : ∃ kk x, e.1 = kk ++ [x] := ⟨e.1.dropLast, e.1.getLast hke, (List.dropLast_concat_getLast hke).symm⟩
          have hT : SqT K H5 t [.ref pe, .int e.2] := .inl (.inl ht)
          have hkl : kk.length = k := by
            rw [hkx, List.length_append] at hel
            have : kk.length + 1 = k + 1 := hel
            omega
          rw [hkx] at hpe hec
          have hpe2 : H5 pe = some (.tup (kk.map V.int ++ [.int x])) := by rw [hpe, List.map_append]; rfl
          refine ⟨_, rfl, 1, rfl, p5, _, _, _, rfl, rfl, hSL, atI_last _ _, t, _, 0, _, rfl, rfl, hT, atI_nat (j := 0) rfl, ?_⟩
          have hV5 : Valid (fs ++ [(kk ++ [x], e.2)]) := by
            have := G5.v
            rw [show e = (kk ++ [x], e.2) from by rw [← hkx]] at this
            exact this
          refine ⟨_, rfl, 1, rfl, _, rfl, p5, _, rfl, hSL, fun p7 np7 => ?_⟩
          rw [show cutV (us ++ [V.ref t]) none (some (-1)) = us from cut_init]
          have s7 : Same H5 (upd H5 p7 (.lst us)) := same_upd np7
          have hp7 : (upd H5 p7 (.lst us)) p7 = some (.lst us) := upd_same
          have hpe7 := s7 _ _ hpe2
          generalize upd H5 p7 (.lst us) = H7 at s7 hp7 hpe7 ⊢
          refine ⟨_, rfl, 1, rfl, _, rfl, pe, _, rfl, .inl (.inl hpe7), fun hw => ?_, fun hw t8 nt8 => ?_⟩
          · exfalso
            have h2 := hw.2
            have e8 : HT.sIx (kk.map V.int ++ [V.int x]).length (kk.map V.int ++ [V.int x]).length (some (-1)) = kk.length := by
              show (if (-1 : Int) < 0 then ((-1 : Int) + ((kk.map V.int ++ [V.int x]).length : Int)).toNat else min (-1 : Int).toNat (kk.map V.int ++ [V.int x]).length) = kk.length
              rw [if_pos (by decide), List.length_append, List.length_map]
              show ((-1 : Int) + ((kk.length + 1 : Nat) : Int)).toNat = kk.length
              omega
            have h3 : kk.length = (kk.map V.int ++ [V.int x]).length := e8.symm.trans h2
            rw [List.length_append, List.length_map] at h3
            have h4 : kk.length = kk.length + 1 := h3
            omega
          rw [show cutV (kk.map V.int ++ [V.int x]) none (some (-1)) = kk.map V.int from cut_init]
          have s8 : Same H7 (upd H7 t8 (.tup (kk.map V.int))) := same_upd nt8
          have ht8 : (upd H7 t8 (.tup (kk.map V.int))) t8 = some (.tup (kk.map V.int)) := upd_same
          have hpe8 := s8 _ _ hpe7
          have hp8 := s8 _ _ hp7
          generalize upd H7 t8 (.tup (kk.map V.int)) = H8 at s8 ht8 hpe8 hp8 ⊢
          refine ⟨_, rfl, 1, rfl, pe, _, _, _, rfl, rfl, .inl (.inl hpe8), atI_last _ _, _, _, rfl, rfl, (by show 1 ≤ sizeLine; decide), fun t9 nt9 => ?_⟩
          have s9 : Same H8 (upd H8 t9 (.tup [.int (x + 1)])) := same_upd nt9
          have ht9 : (upd H8 t9 (.tup [.int (x + 1)])) t9 = some (.tup [.int (x + 1)]) := upd_same
          have ht89 := s9 _ _ ht8
          have hp9 := s9 _ _ hp8
          generalize upd H8 t9 (.tup [.int (x + 1)]) = H9 at s9 ht9 ht89 hp9 ⊢
          refine ⟨t8, t9, _, _, rfl, rfl, .inl (.inl ht89), .inl (.inl ht9), ?_, fun h0 => ?_, fun _ h => (by cases h), fun h0 _ u nu => ?_⟩
          · rw [List.length_map]
            show kk.length + 1 ≤ sizeLine
            exact Nat.le_of_lt (small1000 (by omega))
          · have hk0 : kk = [] := List.map_eq_nil_iff.mp h0
            have hu9 : H9 t9 = some (.tup ((kk ++ [x + 1]).map V.int)) := by rw [hk0]; exact ht9
            have hG9 := G5.mono ((s7.trans s8).trans s9)
            have hT9 : SqT K H9 t [.ref pe, .int e.2] := same_t ((s7.trans s8).trans s9) hT
            refine ⟨_, rfl, 1, rfl, p5, _, _, _, rfl, rfl, .inl (.inl hG9.l), atI_last _ _, t, _, 1, _, rfl, rfl, hT9, atI_nat (j := 1) rfl, (by show 2 ≤ sizeLine; decide), fun t10 nt10 => ?_⟩
            have s10 : Same H9 (upd H9 t10 (.tup [.ref t9, .int e.2])) := same_upd nt10
            have ht10 : (upd H9 t10 (.tup [.ref t9, .int e.2])) t10 = some (.tup [.ref t9, .int e.2]) := upd_same
            have hu10 := s10 _ _ hu9
            have hp10 := s10 _ _ hp9
            generalize upd H9 t10 (.tup [.ref t9, .int e.2]) = H10 at s10 ht10 hu10 hp10 ⊢
            refine ⟨(by show 1 ≤ sizeLine; decide), fun p11 np11 => ?_⟩
            have s11 : Same H10 (upd H10 p11 (.lst [.ref t10])) := same_upd np11
            have hp11 : (upd H10 p11 (.lst [.ref t10])) p11 = some (.lst [.ref t10]) := upd_same
            have hv : EntAt (upd H10 p11 (.lst [.ref t10])) (.ref t10) (kk ++ [x + 1], e.2) := ⟨t10, t9, rfl, s11 _ _ ht10, s11 _ _ hu10⟩
            have hp12 := s11 _ _ hp10
            generalize upd H10 p11 (.lst [.ref t10]) = H11 at s11 hp11 hv hp12 ⊢
            have sZ := (((s7.trans s8).trans s9).trans s10).trans s11
            refine ⟨p7, p11, us, _, rfl, rfl, hp12, hp11, ?_, fun p12 np12 => ?_⟩
            · rw [List.length_append] at hxl
              have := G5.z
              rw [List.length_append] at this hxl
              have h1 : us.length + 1 = fs.length + 1 := hxl
              have h2 : fs.length + 1 ≤ 201 := this
              show us.length + 1 ≤ sizeLine
              exact Nat.le_of_lt (small1000 (by omega))
            have s12 : Same H11 (upd H11 p12 (.lst (us ++ [.ref t10]))) := same_upd np12
            refine ⟨p12, us ++ [.ref t10], fs ++ [(kk ++ [x + 1], e.2)], _, rfl, (sB.trans sZ).trans s12, upd_same, ((hU.mono sZ).app (.cons hv .nil)).mono s12, valid_further hV5, ?_, ?_⟩
            · have := G5.z
              rw [List.length_append] at this ⊢
              exact this
            · refine ⟨fun y hy => ?_, fun y hy z hz => ?_⟩
              · rcases List.mem_append.mp hy with hy | hy
                · exact G5.b.d y (List.mem_append_left _ hy)
                · rw [List.mem_singleton.mp hy]
                  show (kk ++ [x + 1]).length = k + 1
                  rw [List.length_append, hkl]
                  rfl
              · rcases List.mem_append.mp hy with hy | hy
                · exact Nat.le_trans (G5.b.c y (List.mem_append_left _ hy) z hz) (by decide)
                · rw [List.mem_singleton.mp hy] at hz
                  rcases List.mem_append.mp hz with hz | hz
                  · exact Nat.le_trans (hec z (List.mem_append_left _ hz)) (by decide)
                  · rw [List.mem_singleton.mp hz]
                    have := hec x (List.mem_append_right _ List.mem_cons_self)
                    omega
          · have s9' : Same H9 (upd H9 u (.tup (kk.map V.int ++ [.int (x + 1)]))) := same_upd nu
            have hu9 : (upd H9 u (.tup (kk.map V.int ++ [.int (x + 1)]))) u = some (.tup ((kk ++ [x + 1]).map V.int)) := by rw [upd_same, List.map_append]; rfl
            have hp9 := s9' _ _ hp9
            generalize upd H9 u (.tup (kk.map V.int ++ [.int (x + 1)])) = H9' at s9' hu9 hp9 ⊢
            have hG9 := G5.mono (((s7.trans s8).trans s9).trans s9')
            have hT9 : SqT K H9' t [.ref pe, .int e.2] := same_t (((s7.trans s8).trans s9).trans s9') hT
            refine ⟨_, rfl, 1, rfl, p5, _, _, _, rfl, rfl, .inl (.inl hG9.l), atI_last _ _, t, _, 1, _, rfl, rfl, hT9, atI_nat (j := 1) rfl, (by show 2 ≤ sizeLine; decide), fun t10 nt10 => ?_⟩
            have s10 : Same H9' (upd H9' t10 (.tup [.ref u, .int e.2])) := same_upd nt10
            have ht10 : (upd H9' t10 (.tup [.ref u, .int e.2])) t10 = some (.tup [.ref u, .int e.2]) := upd_same
            have hu10 := s10 _ _ hu9
            have hp10 := s10 _ _ hp9
            generalize upd H9' t10 (.tup [.ref u, .int e.2]) = H10 at s10 ht10 hu10 hp10 ⊢
            refine ⟨(by show 1 ≤ sizeLine; decide), fun p11 np11 => ?_⟩
            have s11 : Same H10 (upd H10 p11 (.lst [.ref t10])) := same_upd np11
            have hp11 : (upd H10 p11 (.lst [.ref t10])) p11 = some (.lst [.ref t10]) := upd_same
            have hv : EntAt (upd H10 p11 (.lst [.ref t10])) (.ref t10) (kk ++ [x + 1], e.2) := ⟨t10, u, rfl, s11 _ _ ht10, s11 _ _ hu10⟩
            have hp12 := s11 _ _ hp10
            generalize upd H10 p11 (.lst [.ref t10]) = H11 at s11 hp11 hv hp12 ⊢
            have sZ := ((((s7.trans s8).trans s9).trans s9').trans s10).trans s11
            refine ⟨p7, p11, us, _, rfl, rfl, hp12, hp11, ?_, fun p12 np12 => ?_⟩
            · rw [List.length_append] at hxl
              have := G5.z
              rw [List.length_append] at this hxl
              have h1 : us.length + 1 = fs.length + 1 := hxl
              have h2 : fs.length + 1 ≤ 201 := this
              show us.length + 1 ≤ sizeLine
              exact Nat.le_of_lt (small1000 (by omega))
            have s12 : Same H11 (upd H11 p12 (.lst (us ++ [.ref t10]))) := same_upd np12
            refine ⟨p12, us ++ [.ref t10], fs ++ [(kk ++ [x + 1], e.2)], _, rfl, (sB.trans sZ).trans s12, upd_same, ((hU.mono sZ).app (.cons hv .nil)).mono s12, valid_further hV5, ?_, ?_⟩
            · have := G5.z
              rw [List.length_append] at this ⊢
              exact this
            · refine ⟨fun y hy => ?_, fun y hy z hz => ?_⟩
              · rcases List.mem_append.mp hy with hy | hy
                · exact G5.b.d y (List.mem_append_left _ hy)
                · rw [List.mem_singleton.mp hy]
                  show (kk ++ [x + 1]).length = k + 1
                  rw [List.length_append, hkl]
                  rfl
              · rcases List.mem_append.mp hy with hy | hy
                · exact Nat.le_trans (G5.b.c y (List.mem_append_left _ hy) z hz) (by decide)
                · rw [List.mem_singleton.mp hy] at hz
                  rcases List.mem_append.mp hz with hz | hz
                  · exact Nat.le_trans (hec z (List.mem_append_left _ hz)) (by decide)
                  · rw [List.mem_singleton.mp hz]
                    have := hec x (List.mem_append_right _ List.mem_cons_self)
                    omega
        · exact ⟨p5, xs5, es5, y5, rfl, sB, G5.le (by decide) (by decide)⟩
      · exact ⟨p5, xs5, es5, y5, rfl, sB, G5.le (by decide) (by decide)⟩
    clear G5 sB
    rintro σ H6 ⟨p6, xs6, es6, y6, rfl, sB, G6⟩
    exact ⟨_, rfl, q p6 xs6 es6 (k + 1) H6 (by omega) (by omega) (G6.le (by decide) (by decide)) sB⟩
end
end OT

set_option Elab.async false
set_option linter.all false
set_option maxRecDepth 100000
set_option maxHeartbeats 4000000
namespace OT
open PySem PySem.Spec PyProof.Rows L2
/-- isinstance(e, T), e the held error at a -/
def rIsX (K : PySem.W.Frag) (a : Addr) (c : Value) (d : Option Addr) : List V → Hp → VK → Prop := fun xs H Q => ∃ (C dd : Addr) (fs : List (Str × V)) (y : V) (u : Value) (b : Bool),
    xs = [.ref a, y] ∧ c = .ref C ∧ d = some dd ∧ PySem.W.OtCls K C ∧ H dd = some (.xd fs) ∧ ClsV y u ∧ PySem.W.kitOne K (.ref C) u = some b ∧ Q (.bl b) H
theorem call_isA {X : Cx} {a : Addr} {oe : Obj} {c : Value} {d : Option Addr} (hp : (a, oe) ∈ X.pn) (zc : Zc c d oe) (fld : ∃ fs, oe.data = .fields fs) : CallR X (.builtin "isinstance") (rIsX X.K a c d) := call_isX (p := (a, oe)) hp zc fld
def tCallE (sp : SpE) (a : Addr) (c : Value) (d : Option Addr) (t : TA) : TE := fun σ H Q => t σ H fun vs H1 => sp a c d vs H1 Q E0
theorem pe_callA {X : Cx} {a : Addr} {oe : Obj} {c : Value} {d : Option Addr} {k : Nat} {f : Addr} {fd : FuncData} {ps : List Str} {sp : SpE} {x : Str} {q pos : Pos} {e : Expr} {es : List Expr} {t : TA} (F : FnE X.prog X.w X.K X.mg X.base k f fd ps sp) (hr : L2H.RoomH k X.A) (hp : (a, oe) ∈ X.pn) (zc : Zc c d oe) (fld : ∃ fs, oe.data = .fields fs) (hg : Gl X x) (hm : X.mg x = some (.ref f)) (hk : PySem.W.keepIn X.K (.ref f) = true) (hb : Binds X.K fd ps [])
    (ha : PA X (e :: es) t) (hdb : (x == ("__debug__" : Str)) = false := by decide) (he : starEach (e :: es) X.env = (false, eval e X.env) :: starEach es X.env := by rfl) (hpl : (backTo pos (starEach es X.env)).any (·.1) = false := by rfl) :
    PE X (.Call (.Name x q) (e :: es) [] pos) (tCallE sp a c d t) := pe_callE (p := (a, oe)) F hr hp zc fld hg hm hk hb ha hdb he hpl
section
variable {P : Program} {w : World} {K : PySem.W.Frag} {mg : Str → Option Value} {base : Heap}
/-- the held error bears these fields -/
structure HeldF (K : PySem.W.Frag) (H : Hp) (C dd : Addr) (c : Value) (d : Option Addr) (fs : List (Str × V)) : Prop where
  c : c = .ref C
  d : d = some dd
  t : PySem.W.OtCls K C
  h : H dd = some (.xd fs)
def spErrE (K : PySem.W.Frag) (B : Addr) : SpE := fun a c d vs H Q _ => ∃ (C dd : Addr) (fs : List (Str × V)) (nm : Str), vs = [.ref a, .str nm] ∧ HeldF K H C dd c d fs ∧ PySem.W.findIn K (.ref C) "word" = some none ∧ fs.lookup ("word" : Str) = some (V.str nm) ∧
  PySem.W.kitOne K (.ref C) (.ref B) = some true ∧ PySem.W.kitOne K (.ref C) (.type "ValueError") = some true ∧ Q (.bl true) H
theorem h__law_is_error {f B : Addr} {fd : FuncData} (D : C8.Def K mg "_law_is_error" s__law_is_error f fd) (T : Bi mg) (gB : mg "TableError" = some (.ref B)) (nV : mg "ValueError" = none) : FnE P w K mg base 1 f fd ["_law_e", "_law_word"] (spErrE K B) := by
  refine fnE_of D.fn sc__law_is_error (fun a c d vs H Q E h => ?_) (fun cdv A outer s H vs Q p c d zc fld hr h => ?_)
  · obtain ⟨C, dd, fs, nm, rfl, _⟩ := h
    rfl
  · obtain ⟨C, dd, fs, nm, rfl, hh, nw, lw, kB, kV, q⟩ := h
    have hp : p ∈ (L2H.cxH L2.CX0 P w K mg base ["_law_e", "_law_word"] "_law_is_error" (C8.fnScope s__law_is_error) f cdv A outer s H E0 p).pn := List.mem_cons_self
    refine ⟨_, pss_one (ps_ret (pe_and (pe_callB (call_isX hp zc fld) (by rfl) T.n_isinstance OT.b_isinstance (pa_cons (pv 0) (pa_cons (pe_glob (v := .ref B) (by rfl) gB rfl) pa_nil)))
      (pe_and (pe_callB (call_isX hp zc fld) (by rfl) T.n_isinstance OT.b_isinstance (pa_cons (pv 0) (pa_cons (pe_bltn (v := .ty "ValueError") (by rfl) nV OT.b_ValueError rfl) pa_nil)))
      (pe_and (pe_callB call_isi (by rfl) T.n_isinstance OT.b_isinstance (pa_cons (pe_fX hp zc fld (pv 0)) (pa_cons (pe_bltn (v := .ty "str") (by rfl) T.n_str OT.b_str rfl) pa_nil)))
      (pe_one (pe_cmpR op_eq (pe_fX hp zc fld (pv 0)) (pv 1) (nomark _))))))), ?_⟩
    refine ⟨_, rfl, C, dd, fs, _, _, _, rfl, hh.c, hh.d, hh.t, hh.h, .own B, kB, _, rfl, ?_⟩
    refine iteT ?_
    refine ⟨_, rfl, C, dd, fs, _, _, _, rfl, hh.c, hh.d, hh.t, hh.h, .ty _, kV, _, rfl, ?_⟩
    refine iteT ?_
    refine ⟨_, rfl, C, dd, fs, _, rfl, hh.c, hh.d, hh.t, nw, hh.h, lw, _, _, _, _, _, rfl, .ty _, .base (.str nm), kit_ty kb_ss, _, rfl, ?_⟩
    refine iteT ?_
    refine ⟨_, rfl, C, dd, fs, _, rfl, hh.c, hh.d, hh.t, nw, hh.h, lw, _, rfl, rfl, ?_⟩
    rw [decide_eq_true rfl]
    exact q
/-- what isinstance says of the class at C -/
structure KitE (K : PySem.W.Frag) (B C : Addr) : Prop where
  b : PySem.W.kitOne K (.ref C) (.ref B) = some true
  v : PySem.W.kitOne K (.ref C) (.type "ValueError") = some true
theorem roomH_m {k : Nat} {A : Around} {v : Option Value} (r : Room k A) : L2H.RoomH k (A.mark v) := ⟨r.dp, r.un⟩
/-- the classes told apart: Z is none of M, O; M is none of Z, O -/
structure KitZM (K : PySem.W.Frag) (Z M O : Addr) : Prop where
  zz : PySem.W.kitOne K (.ref Z) (.ref Z) = some true
  zm : PySem.W.kitOne K (.ref Z) (.ref M) = some false
  zo : PySem.W.kitOne K (.ref Z) (.ref O) = some false
  mm : PySem.W.kitOne K (.ref M) (.ref M) = some true
  mz : PySem.W.kitOne K (.ref M) (.ref Z) = some false
  mo : PySem.W.kitOne K (.ref M) (.ref O) = some false
def spZero : Sp := fun vs H Q _ => ∃ i : Int, vs = [.int i] ∧ (i = 0 ∨ i = 1 ∨ i = 2) ∧ ∀ H', Same H H' → Q (.bl true) H'
theorem c__law_zero_asked {f B Z M O fL fS fU fE : Addr} {fd fdL fdS fdU fdE : FuncData} (D : C8.Def K mg "_law_zero_asked" s__law_zero_asked f fd) (b : Binds K fd ["_law_which"] []) (T : Bi mg) (gB : mg "TableError" = some (.ref B)) (gZ : mg "ZeroRow" = some (.ref Z)) (gM : mg "MixedDimensions" = some (.ref M)) (gO : mg "OneDirectionOnly" = some (.ref O))
    (tZ : OtErr K Z "ZeroRow") (eZ : PySem.W.exmOne K (.ref Z) (.ref B) = some true) (kZ : KitE K B Z) (kk : KitZM K Z M O)
    (DL : C8.Def K mg "low_corner" s_low_corner fL fdL) (bL : Binds K fdL ["row"] []) (GL : FnOk P w K mg base (L2.CX P w) 3 fL fdL ["row"] (spExtE K Z IsLow))
    (DS : C8.Def K mg "spans" s_spans fS fdS) (bS : Binds K fdS ["row"] []) (GS : FnOk P w K mg base (L2.CX P w) 3 fS fdS ["row"] (spExtE K Z IsSpan))
    (DU : C8.Def K mg "unit_of" s_unit_of fU fdU) (bU : Binds K fdU ["row"] []) (GU : FnOk P w K mg base (L2.CX P w) 4 fU fdU ["row"] (spUnitE K Z))
    (DE : C8.Def K mg "_law_is_error" s__law_is_error fE fdE) (bE : Binds K fdE ["_law_e", "_law_word"] []) (GE : FnE P w K mg base 1 fE fdE ["_law_e", "_law_word"] (spErrE K B)) : C8.Cal P w K mg base 5 "_law_zero_asked" spZero [] := by
  refine C8.cal0 D b .nil sc__law_zero_asked (fun vs H Q E h => ?_) (fun cdv A outer s H vs Q E hr h => ?_)
  · obtain ⟨i, rfl, _⟩ := h
    rfl
  · obtain ⟨i, rfl, hi, q⟩ := h
    refine ⟨_, pss_cons (ps_try_as (i := 1) (tb := fun W => _) (ts := fun a cls d => _) (Wout := fun _ _ _ _ => False) rfl rfl sc__law_zero_asked.nd rfl rfl ⟨rfl, by decide, Or.inl gB⟩ takes0
        (fun W pn xe tk _ => pss_cons (ps_if (pt_cmpR op_eq (pv 0) pe_int (nomark _)) (pss_one (ps_expr (pe_callS (GL.mono (by decide : 3 ≤ 4)) hr rfl DL.mgf DL.kp bL (fun σ => passAt tk σ) (pa_cons (pe_lst pa_nil) pa_nil)))) pss_nil)
          (pss_cons (ps_if (pt_cmpR op_eq (pv 0) pe_int (nomark _)) (pss_one (ps_expr (pe_callS (GS.mono (by decide : 3 ≤ 4)) hr rfl DS.mgf DS.kp bS (fun σ => passAt tk σ) (pa_cons (pe_lst pa_nil) pa_nil)))) pss_nil)
          (pss_one (ps_if (pt_cmpR op_eq (pv 0) pe_int (nomark _)) (pss_one (ps_expr (pe_callS GU hr rfl DU.mgf DU.kp bU (fun σ => passAt tk σ) (pa_cons (pe_lst pa_nil) pa_nil)))) pss_nil))))
        (fun a oe cls d pn hz hf => by exact pss_cons (ps_if (PW.pt (pw_or (pt_val (pe_callB (show CallR _ _ (rIsX K a cls d) from call_isA List.mem_cons_self hz hf) (by rfl) T.n_isinstance OT.b_isinstance (pa_cons (pv 1) (pa_cons (pe_glob (v := .ref M) (by rfl) gM rfl) pa_nil)))) (pw_or1 (pt_val (pe_callB (show CallR _ _ (rIsX K a cls d) from call_isA List.mem_cons_self hz hf) (by rfl) T.n_isinstance OT.b_isinstance (pa_cons (pv 1) (pa_cons (pe_glob (v := .ref O) (by rfl) gO rfl) pa_nil))))))) (pss_one (ps_ret pe_bl)) pss_nil) (pss_one (ps_ret (pe_and (pe_callB (show CallR _ _ (rIsX K a cls d) from call_isA List.mem_cons_self hz hf) (by rfl) T.n_isinstance OT.b_isinstance (pa_cons (pv 1) (pa_cons (pe_glob (v := .ref Z) (by rfl) gZ rfl) pa_nil))) (pe_one (by exact pe_callA GE (roomH_m (hr.mono (by decide : 1 ≤ 4))) List.mem_cons_self hz hf (by rfl) DE.mgf DE.kp bE (pa_cons (pv 1) (pa_cons pe_str pa_nil)))))))))
      (pss_one (ps_ret pe_bl)), ?_⟩
    have no0 : ∀ {x y : Int}, x ≠ y → x = y → False := fun h e => h e
    rcases hi with rfl | rfl | rfl
    · refine eqT rfl (fun _ => iteT ?_) (fun h => absurd rfl h)
      refine ⟨(by show 0 ≤ sizeLine; decide), fun p np => ?_⟩
      refine ⟨p, [], [], 1, rfl, .nil (.inl (.inl upd_same)) (by decide), fun _ dd H2 sm hd => ?_, fun h => absurd rfl h⟩
      have sA : Same H H2 := (same_upd np).trans sm
      refine ⟨true, eZ, fun _ a na => ?_, fun h => by cases h⟩
      refine ⟨_, rfl, Z, dd, errZ, _, _, _, rfl, rfl, rfl, tZ.oc, hd, .own M, kk.zm, _, rfl, ?_⟩
      refine iteF ?_
      refine ⟨_, rfl, Z, dd, errZ, _, _, _, rfl, rfl, rfl, tZ.oc, hd, .own O, kk.zo, _, rfl, ?_⟩
      refine iteF ?_
      refine ⟨_, rfl, Z, dd, errZ, _, _, _, rfl, rfl, rfl, tZ.oc, hd, .own Z, kk.zz, _, rfl, ?_⟩
      refine iteT ?_
      exact ⟨_, rfl, Z, dd, errZ, "ZeroRow", rfl, ⟨rfl, rfl, tZ.oc, hd⟩, tZ.nw, rfl, kZ.b, kZ.v, q H2 sA⟩
    · refine eqT rfl (fun h => absurd h (by decide)) (fun _ => iteF ?_)
      refine eqT rfl (fun _ => iteT ?_) (fun h => absurd rfl h)
      refine ⟨(by show 0 ≤ sizeLine; decide), fun p np => ?_⟩
      refine ⟨p, [], [], 1, rfl, .nil (.inl (.inl upd_same)) (by decide), fun _ dd H2 sm hd => ?_, fun h => absurd rfl h⟩
      have sA : Same H H2 := (same_upd np).trans sm
      refine ⟨true, eZ, fun _ a na => ?_, fun h => by cases h⟩
      refine ⟨_, rfl, Z, dd, errZ, _, _, _, rfl, rfl, rfl, tZ.oc, hd, .own M, kk.zm, _, rfl, ?_⟩
      refine iteF ?_
      refine ⟨_, rfl, Z, dd, errZ, _, _, _, rfl, rfl, rfl, tZ.oc, hd, .own O, kk.zo, _, rfl, ?_⟩
      refine iteF ?_
      refine ⟨_, rfl, Z, dd, errZ, _, _, _, rfl, rfl, rfl, tZ.oc, hd, .own Z, kk.zz, _, rfl, ?_⟩
      refine iteT ?_
      exact ⟨_, rfl, Z, dd, errZ, "ZeroRow", rfl, ⟨rfl, rfl, tZ.oc, hd⟩, tZ.nw, rfl, kZ.b, kZ.v, q H2 sA⟩
    · refine eqT rfl (fun h => absurd h (by decide)) (fun _ => iteF ?_)
      refine eqT rfl (fun h => absurd h (by decide)) (fun _ => iteF ?_)
      refine eqT rfl (fun _ => iteT ?_) (fun h => absurd rfl h)
      refine ⟨(by show 0 ≤ sizeLine; decide), fun p np => ?_⟩
      refine ⟨p, [], [], 1, rfl, .nil (.inl (.inl upd_same)) (by decide), fun _ dd H2 sm hd => ?_, fun h => absurd rfl h⟩
      have sA : Same H H2 := (same_upd np).trans sm
      refine ⟨true, eZ, fun _ a na => ?_, fun h => by cases h⟩
      refine ⟨_, rfl, Z, dd, errZ, _, _, _, rfl, rfl, rfl, tZ.oc, hd, .own M, kk.zm, _, rfl, ?_⟩
      refine iteF ?_
      refine ⟨_, rfl, Z, dd, errZ, _, _, _, rfl, rfl, rfl, tZ.oc, hd, .own O, kk.zo, _, rfl, ?_⟩
      refine iteF ?_
      refine ⟨_, rfl, Z, dd, errZ, _, _, _, rfl, rfl, rfl, tZ.oc, hd, .own Z, kk.zz, _, rfl, ?_⟩
      refine iteT ?_
      exact ⟨_, rfl, Z, dd, errZ, "ZeroRow", rfl, ⟨rfl, rfl, tZ.oc, hd⟩, tZ.nw, rfl, kZ.b, kZ.v, q H2 sA⟩
end
end OT

set_option Elab.async false
set_option linter.all false
set_option maxRecDepth 100000
set_option maxHeartbeats 4000000
namespace OT
open PySem PySem.Spec PyProof.Rows L2
theorem shaped_pl (k : Pl) : SeqAt.shaped (dPl k) = true := by
  unfold SeqAt.shaped
  have h1 : (dPl k).canLay0 = true := lay_ints k
  rw [h1, Bool.true_and]
  refine decide_eq_true ?_
  simp only [dPl, PyData.depth, depth_ints]
  decide
/-- (sign, place) as data -/
def dUn (s : Int) (k : Pl) : PyData := .tuple [.int s, dPl k]
theorem shaped_un (s : Int) (k : Pl) : SeqAt.shaped (dUn s k) = true := by
  unfold SeqAt.shaped
  have h1 : (dUn s k).canLay0 = true := by
    show (PyData.canLay0 (.int s) && (PyData.canLayAll0 (k.map PyData.int) && true)) = true
    rw [lay_ints]
    rfl
  rw [h1, Bool.true_and]
  refine decide_eq_true ?_
  simp only [dUn, dPl, PyData.depth, PyData.depthAll, depth_ints]
  decide
theorem eqv_pl (k : Pl) : PyData.eqv (dPl k) (dPl k) = true := SeqAt.eqv_refl _ (SeqAt.canLay_of_shaped (shaped_pl k))
theorem eqv_un (s : Int) (k : Pl) : PyData.eqv (dUn s k) (dUn s k) = true := SeqAt.eqv_refl _ (SeqAt.canLay_of_shaped (shaped_un s k))
theorem dp_pl {K : PySem.W.Frag} {H : Hp} {p : Addr} {k : Pl} (h : H p = some (.tup (k.map V.int))) : Dp K H (.ref p) (dPl k) := .tup (.inl (.inl h)) (dp_ints k)
theorem eqv_rows (es : List Ent) : PyData.eqv (dRow es) (dRow es) = true := SeqAt.eqv_refl _ (SeqAt.canLay_of_shaped (shaped_row es))
section
variable {P : Program} {w : World} {K : PySem.W.Frag} {mg : Str → Option Value} {base : Heap}
def spCorA : Sp := fun vs H Q _ => ∃ (a : Addr) (xs : List V) (es : List Ent) (n L C : Nat), vs = [.ref a] ∧ GR H a xs es n L C ∧ es ≠ [] ∧ 1 ≤ n ∧ n ≤ 3 ∧ L ≤ 1000 ∧ ∀ H', Same H H' → Q (.bl true) H'
theorem c__law_corners_asked {f : Addr} {fd : FuncData} (D : C8.Def K mg "_law_corners_asked" s__law_corners_asked f fd) (b : Binds K fd ["_law_row_here"] []) (T : Bi mg) (c__law_corner : C8.Cal P w K mg base 1 "_law_corner" (spExt K IsLow) []) (c__law_top : C8.Cal P w K mg base 1 "_law_top" (spExt K IsTop) [])
    (c_low_corner : C8.Cal P w K mg base 3 "low_corner" (spExtQ K IsLow) []) (c_spans : C8.Cal P w K mg base 3 "spans" (spExtQ K IsSpan) []) (c_unit_of : C8.Cal P w K mg base 4 "unit_of" (spUnitQ K) [])
    (c__law_is_place : C8.Cal P w K mg base 2 "_law_is_place" (spIsPlace K) []) (c__law_is_integer : C8.Cal P w K mg base 1 "_law_is_integer" spIsInt []) : C8.Cal P w K mg base 5 "_law_corners_asked" spCorA [] := by
  refine C8.cal0 D b .nil sc__law_corners_asked (fun vs H Q E h => ?_) (fun cdv A outer s H vs Q E hr h => ?_)
  · obtain ⟨a, xs, es, n, L, C, rfl, _⟩ := h
    rfl
  · obtain ⟨a, xs, es, n, L, C, rfl, hG, hne, h1, h3, hL, q⟩ := h
    refine ⟨_, (pss_cons (ps_set (i := 1) sc__law_corners_asked.nd rfl (Or.inl rfl) (pe_callTy call_list_of (by rfl) T.n_list OT.b_list (pa_cons (pv 0) pa_nil)))
  (pss_cons (ps_set (i := 2) sc__law_corners_asked.nd rfl (Or.inr rfl) (C8.pe_c c__law_corner hr (by decide) (by rfl) (pa_cons (pv 0) pa_nil)))
  (pss_cons (ps_set (i := 3) sc__law_corners_asked.nd rfl (Or.inr rfl) (C8.pe_c c__law_top hr (by decide) (by rfl) (pa_cons (pv 0) pa_nil)))
  (pss_cons (ps_set (i := 4) sc__law_corners_asked.nd rfl (Or.inl rfl) (pe_callTy call_tuple_of (by rfl) T.n_tuple OT.b_tuple (pa_cons (pe_lc (own := [("_law_k", 7)]) (g := (gName 7)) (tt := tYes) rfl sc__law_corners_asked.nd (pi_range1 rfl T.n_range (pa_cons (pe_callB call_len_seq (by rfl) T.n_len OT.b_len (pa_cons (pv 2) pa_nil)) pa_nil)) (blkOk_by (N := ["_law_row_here", "_law_handed", "_law_corner_here", "_law_top_here", "_law_widths", "_law_sign", "_law_told", "_law_k"]) (sc := C8.fnScope s__law_corners_asked) (by decide +kernel)) (fun _ _ _ _ _ => (pg_name (i := 7) sc__law_corners_asked.nd rfl (Or.inl rfl))) (fun _ _ _ _ _ => pts_nil) (fun _ _ _ _ _ => (pe_op op_sub (pe_ix (show IxR _ (rIxT K) from ix_tup) (pv 3) (pv 7) (fun _ _ => rfl)) (pe_ix (show IxR _ (rIxT K) from ix_tup) (pv 2) (pv 7) (fun _ _ => rfl))))) pa_nil)))
  (pss_cons (ps_set (i := 5) sc__law_corners_asked.nd rfl (Or.inl rfl) pe_int)
  (C8.pss_cut (ps_if (pt_cmpR op_lt (pe_ix ix_tup (pe_ix ix_list (pv 0) pe_int (fun _ _ => rfl)) pe_int (fun _ _ => rfl)) pe_int (nomark _)) (pss_one (ps_set (i := 5) sc__law_corners_asked.nd rfl (Or.inl rfl) (pe_un un_neg pe_int))) pss_nil)
  (pss_cons (ps_set (i := 6) sc__law_corners_asked.nd rfl (Or.inl rfl) (C8.pe_c c_low_corner hr (by decide) (by rfl) (pa_cons (pv 1) pa_nil)))
  (pss_cons (ps_if (PW.pt (pw_or (pt_not (pt_val (C8.pe_c c__law_is_place hr (by decide) (by rfl) (pa_cons (pv 6) pa_nil)))) (pw_or1 (pt_cmpR (op_neD hr.units) (pv 6) (pv 2) (nomark _))))) (pss_one (ps_ret pe_bl)) pss_nil)
  (pss_cons (ps_set (i := 6) sc__law_corners_asked.nd rfl (Or.inl rfl) (C8.pe_c c_spans hr (by decide) (by rfl) (pa_cons (pv 1) pa_nil)))
  (pss_cons (ps_if (PW.pt (pw_or (pt_not (pt_val (C8.pe_c c__law_is_place hr (by decide) (by rfl) (pa_cons (pv 6) pa_nil)))) (pw_or1 (pt_cmpR (op_neD hr.units) (pv 6) (pv 4) (nomark _))))) (pss_one (ps_ret pe_bl)) pss_nil)
  (pss_cons (ps_set (i := 6) sc__law_corners_asked.nd rfl (Or.inl rfl) (C8.pe_c c_unit_of hr (by decide) (by rfl) (pa_cons (pv 1) pa_nil)))
  (pss_cons (ps_if (PW.pt (pw_or (pt_not (pt_val (pe_callB call_isi (by rfl) T.n_isinstance OT.b_isinstance (pa_cons (pv 6) (pa_cons (pe_bltn (v := .ty "tuple") (by rfl) T.n_tuple OT.b_tuple rfl) pa_nil))))) (pw_or1 (pt_cmpR op_ne (pe_callB call_len_seq (by rfl) T.n_len OT.b_len (pa_cons (pv 6) pa_nil)) pe_int (nomark _))))) (pss_one (ps_ret pe_bl)) pss_nil)
  (pss_cons (ps_if (PW.pt (pw_or (pt_not (pt_val (C8.pe_c c__law_is_integer hr (by decide) (by rfl) (pa_cons (pe_ix ix_tup (pv 6) pe_int (fun _ _ => rfl)) pa_nil)))) (pw_or1 (pt_not (pt_val (C8.pe_c c__law_is_place hr (by decide) (by rfl) (pa_cons (pe_ix ix_tup (pv 6) pe_int (fun _ _ => rfl)) pa_nil))))))) (pss_one (ps_ret pe_bl)) pss_nil)
  (pss_one (ps_ret (pe_and (pe_cmpR (op_eqD hr.units) (pv 6) (pe_tup (pa_cons (pv 5) (pa_cons (pv 2) pa_nil))) (nomark _)) (pe_one (pe_cmpR (op_eqD hr.units) (pv 1) (pv 0) (nomark _))))))))))))))))))), ?_⟩
    have hS : SqL K H a xs := .inl (.inl hG.l)
    have hz := hG.z
    have hpos : 0 < es.length := List.length_pos_iff.mpr hne
    refine ⟨_, rfl, a, _, rfl, .inl hS, fun hd nhd => ?_⟩
    have s1 : Same H (upd H hd (.lst xs)) := same_upd nhd
    have hhd : (upd H hd (.lst xs)) hd = some (.lst xs) := upd_same
    generalize upd H hd (.lst xs) = H1 at s1 hhd ⊢
    have G1 := hG.mono s1
    have GH : GR H1 hd xs es n L C := ⟨hhd, G1.e, G1.v, G1.z, G1.b⟩
    refine ⟨_, rfl, a, xs, es, n, rfl, .inl (.inl G1.l), G1.e, hpos, by omega, G1.b.d, h3, fun p2 H2 lo hlo hlow s2 hp2 => ?_⟩
    have G2 := G1.mono s2
    refine ⟨_, rfl, a, xs, es, n, rfl, .inl (.inl G2.l), G2.e, hpos, by omega, G2.b.d, h3, fun p3 H3 hi hhi htop s3 hp3 => ?_⟩
    have hp2' := s3 _ _ hp2
    refine ⟨_, rfl, p2, _, rfl, .inr (.inl (.inl hp2')), _, rfl, by omega, b62 (by rw [List.length_map]; omega), fun p4 np4 => ?_⟩
    rw [List.length_map, Int.toNat_natCast]
    have hsl : (subZ hi lo).length = n := subZ_len hlo hhi
    refine lc_range (lo := 0) (n := lo.length) (fun i H4 => Same H3 H4 ∧ H4 p4 = some (.lst (((subZ hi lo).take i).map V.int))) ⟨same_upd np4, upd_same⟩ ?_ ?_
    · rintro i H4 hi4 ⟨sm4, hp4⟩
      have hih : i < hi.length := by omega
      have his : i < (subZ hi lo).length := by omega
      have gl : atI (lo.map V.int) ((0 : Int) + (i : Int)) = some (.int lo[i]) := by
        rw [Int.zero_add]
        exact atI_nat (by rw [List.getElem?_map, List.getElem?_eq_getElem hi4]; rfl)
      have gh : atI (hi.map V.int) ((0 : Int) + (i : Int)) = some (.int hi[i]) := by
        rw [Int.zero_add]
        exact atI_nat (by rw [List.getElem?_map, List.getElem?_eq_getElem hih]; rfl)
      have es : (subZ hi lo)[i]? = some (hi[i] - lo[i]) := subZ_get (List.getElem?_eq_getElem hi4) (List.getElem?_eq_getElem hih)
      refine ⟨rfl, tYes_of ?_⟩
      refine ⟨_, rfl, _, rfl, p3, _, _, _, rfl, rfl, .inl (.inl (sm4 _ _ hp3)), gh, _, rfl, _, rfl, p2, _, _, _, rfl, rfl, .inl (.inl (sm4 _ _ hp2')), gl, _, _, rfl, rfl, _, hp4, ?_, same_mut sm4 np4, ?_⟩
      · rw [List.length_map, List.length_take]
        exact small1000 (by omega)
      · rw [upd_same, List.take_add_one, es, List.map_append]
        rfl
    rintro H4 ⟨sm4, hp4⟩
    rw [hlo, ← hsl, List.take_length] at hp4
    refine ⟨p4, _, rfl, .inl ⟨.inl (.inl hp4), fun p5 np5 => ?_⟩⟩
    have s5 : Same H4 (upd H4 p5 (.tup ((subZ hi lo).map V.int))) := same_upd np5
    have hp5 : (upd H4 p5 (.tup ((subZ hi lo).map V.int))) p5 = some (.tup ((subZ hi lo).map V.int)) := upd_same
    generalize upd H4 p5 (.tup ((subZ hi lo).map V.int)) = H5 at s5 hp5 ⊢
    have s35 := sm4.trans s5
    have s15 := (s2.trans s3).trans s35
    have hp25 := s35 _ _ hp2'
    have G5 := G1.mono s15
    have GH5 := GH.mono s15
    have sA := s1.trans s15
    clear hp4 np4 np5 s5 sm4 hp2 hp2' hp3 s2 s3 s35 s15 G1 G2 GH hhd nhd s1
    obtain ⟨v0, hv0, t0, p0, rfl, ht0, hp0⟩ := G5.e.at (i := 0) hpos
    have hnz : (es[0]'hpos).2 ≠ 0 := G5.v.nz _ (List.getElem_mem hpos)
    have hsg : sgnE es = if (es[0]'hpos).2 > 0 then 1 else -1 := by
      cases es with
      | nil => exact absurd rfl hne
      | cons e r => rfl
    refine ⟨fun σ H6 => σ = [some (.ref a), some (.ref hd), some (.ref p2), some (.ref p3), some (.ref p5), some (.int (sgnE es)), none, none] ∧ H6 = H5, ?_, ?_⟩
    · refine ⟨_, rfl, a, _, 0, _, rfl, rfl, .inl (.inl G5.l), atI_nat (j := 0) hv0, t0, _, 1, _, rfl, rfl, .inl (.inl ht0), atI_nat (j := 1) rfl, _, _, rfl, rfl, _, rfl, iteD (fun d => ?_) (fun d => ?_)⟩
      · refine ⟨1, rfl, ?_, rfl⟩
        rw [hsg, if_neg (by omega)]
        rfl
      · refine ⟨?_, rfl⟩
        rw [hsg, if_pos (by omega)]
        rfl
    rintro σ H6 ⟨rfl, rfl⟩
    have RH := GH5.rowH (K := K) (by omega) hL
    refine ⟨_, rfl, hd, xs, es, n, rfl, RH, hne, fun p7 H7 l7 hl7 hlow7 s7 hp7 => ?_⟩
    have e7 : l7 = lo := hlow7.one (hl7.trans hlo.symm) hlow
    subst e7
    refine ⟨_, rfl, p7, l7, rfl, hp7, by omega, by omega, _, rfl, ?_⟩
    refine iteF ?_
    refine ⟨_, rfl, _, rfl, dPl l7, dPl l7, dp_pl hp7, dp_pl (s7 _ _ hp25), shaped_pl _, shaped_pl _, _, rfl, ?_⟩
    rw [eqv_pl]
    refine iteF ?_
    refine ⟨_, rfl, hd, xs, es, n, rfl, RH.mono s7, hne, fun p8 H8 l8 hl8 hsp8 s8 hp8 => ?_⟩
    have e8 : l8 = subZ hi l7 := hsp8.one (hl8.trans hsl.symm) ⟨l7, hi, hl7.trans hsl.symm, hhi.trans hsl.symm, hlow, htop, rfl⟩
    subst e8
    have s78 := s7.trans s8
    refine ⟨_, rfl, p8, _, rfl, hp8, by omega, by omega, _, rfl, ?_⟩
    refine iteF ?_
    refine ⟨_, rfl, _, rfl, dPl (subZ hi l7), dPl (subZ hi l7), dp_pl hp8, dp_pl (s78 _ _ hp5), shaped_pl _, shaped_pl _, _, rfl, ?_⟩
    rw [eqv_pl]
    refine iteF ?_
    refine ⟨_, rfl, hd, xs, es, n, rfl, RH.mono s78, hne, fun t9 p9 H9 l9 hl9 hlow9 s9 hp9 ht9 => ?_⟩
    have e9 : l9 = l7 := hlow9.one (hl9.trans hl7.symm) hlow7
    subst e9
    have s79 := s78.trans s9
    have hT : SqT K H9 t9 [.int (sgnE es), .ref p9] := .inl (.inl ht9)
    refine ⟨_, rfl, _, _, _, _, _, rfl, .ty _, .base (.tup ht9), kit_ty kb_tt, _, rfl, ?_⟩
    refine iteF ?_
    refine ⟨_, rfl, t9, _, rfl, .inr hT, rfl, _, rfl, ?_⟩
    refine iteF ?_
    refine ⟨_, rfl, t9, _, 0, _, rfl, rfl, hT, atI_nat (j := 0) rfl, _, rfl, _, rfl, ?_⟩
    refine iteF ?_
    refine ⟨_, rfl, t9, _, 1, _, rfl, rfl, hT, atI_nat (j := 1) rfl, p9, _, rfl, hp9, by omega, by omega, _, rfl, ?_⟩
    refine iteF ?_
    refine ⟨_, rfl, _, rfl, _, rfl, (by show 2 ≤ sizeLine; decide), fun t10 nt10 => ?_⟩
    have s10 : Same H9 (upd H9 t10 (.tup [.int (sgnE es), .ref p2])) := same_upd nt10
    have ht10 : (upd H9 t10 (.tup [.int (sgnE es), .ref p2])) t10 = some (.tup [.int (sgnE es), .ref p2]) := upd_same
    generalize upd H9 t10 (.tup [.int (sgnE es), .ref p2]) = H10 at s10 ht10 ⊢
    have s710 := s79.trans s10
    refine ⟨dUn (sgnE es) l9, dUn (sgnE es) l9, .tup (.inl (.inl (s10 _ _ ht9))) (.cons (.int _) (.cons (dp_pl (s10 _ _ hp9)) .nil)), .tup (.inl (.inl ht10)) (.cons (.int _) (.cons (dp_pl (s710 _ _ hp25)) .nil)), shaped_un _ _, shaped_un _ _, _, rfl, ?_⟩
    rw [eqv_un]
    refine iteT ?_
    have GA := GH5.mono s710
    have GB := G5.mono s710
    refine ⟨_, rfl, _, rfl, dRow es, dRow es, GA.dp, GB.dp, shaped_row _, shaped_row _, ?_⟩
    rw [eqv_rows]
    exact q _ (sA.trans s710)
def spBoxC : Sp := fun vs H Q _ => ∃ (a : Addr) (xs : List V) (es : List Ent) (n L C : Nat), vs = [.ref a] ∧ GR H a xs es n L C ∧ 1 ≤ n ∧ n ≤ 3 ∧ L ≤ 1000 ∧ C ≤ 1000000 ∧ ∀ z H', BoxIs es z → Same H H' → Q (.int z) H'
theorem c__law_box_count {f : Addr} {fd : FuncData} (D : C8.Def K mg "_law_box_count" s__law_box_count f fd) (b : Binds K fd ["_law_row_here"] []) (T : Bi mg) (c__law_corner : C8.Cal P w K mg base 1 "_law_corner" (spExt K IsLow) []) (c__law_top : C8.Cal P w K mg base 1 "_law_top" (spExt K IsTop) []) : C8.Cal P w K mg base 2 "_law_box_count" spBoxC [] := by
  refine C8.cal0 D b .nil sc__law_box_count (fun vs H Q E h => ?_) (fun cdv A outer s H vs Q E hr h => ?_)
  · obtain ⟨a, xs, es, n, L, C, rfl, _⟩ := h
    rfl
  · obtain ⟨a, xs, es, n, L, C, rfl, hG, h1, h3, hL, hC, q⟩ := h
    refine ⟨_, (pss_cons (ps_if (pt_cmpR op_eq (pe_callB call_len_seq (by rfl) T.n_len OT.b_len (pa_cons (pv 0) pa_nil)) pe_int (nomark _)) (pss_one (ps_ret pe_int)) pss_nil)
  (pss_cons (ps_set (i := 1) sc__law_box_count.nd rfl (Or.inl rfl) (C8.pe_c c__law_corner hr (by decide) (by rfl) (pa_cons (pv 0) pa_nil)))
  (pss_cons (ps_set (i := 2) sc__law_box_count.nd rfl (Or.inl rfl) (C8.pe_c c__law_top hr (by decide) (by rfl) (pa_cons (pv 0) pa_nil)))
  (pss_cons (ps_set (i := 3) sc__law_box_count.nd rfl (Or.inl rfl) pe_int)
  (pss_cons (ps_for PassesOwn.never rfl (pi_range1 rfl T.n_range (pa_cons (pe_callB call_len_seq (by rfl) T.n_len OT.b_len (pa_cons (pv 1) pa_nil)) pa_nil)) (pg_name (i := 4) sc__law_box_count.nd rfl (Or.inl rfl)) (pss_one (ps_set (i := 3) sc__law_box_count.nd rfl (Or.inl rfl) (pe_op op_mul (pv 3) (pe_op op_add (pe_op op_sub (pe_ix ix_tup (pv 2) (pv 4) (fun _ _ => rfl)) (pe_ix ix_tup (pv 1) (pv 4) (fun _ _ => rfl))) pe_int)))))
  (pss_one (ps_ret (pv 3)))))))), ?_⟩
    have hS : SqL K H a xs := .inl (.inl hG.l)
    have hz := hG.z
    have hxl := hG.e.len
    refine ⟨_, rfl, a, _, rfl, .inl hS, rfl, _, rfl, iteD (fun c => ?_) (fun c => ?_)⟩
    · have he : es = [] := by
        have := V.int.inj c
        exact List.length_eq_zero_iff.mp (by omega)
      exact q 0 H (.inl ⟨he, rfl⟩) (Same.refl _)
    · have hpos : 0 < es.length := by
        cases z : es.length with
        | zero => exact absurd (show V.int (xs.length : Int) = V.int 0 by rw [hxl, z]; rfl) c
        | succ k => exact Nat.succ_pos _
      have hne : es ≠ [] := List.length_pos_iff.mp hpos
      refine ⟨_, rfl, a, xs, es, n, rfl, hS, hG.e, hpos, by omega, hG.b.d, h3, fun p2 H2 lo hlo hlow s2 hp2 => ?_⟩
      have G2 := hG.mono s2
      refine ⟨_, rfl, a, xs, es, n, rfl, .inl (.inl G2.l), G2.e, hpos, by omega, G2.b.d, h3, fun p3 H3 hi hhi htop s3 hp3 => ?_⟩
      have hp2' := s3 _ _ hp2
      have hsl : (subZ hi lo).length = n := subZ_len hlo hhi
      have hsp : IsSpan es (subZ hi lo) := ⟨lo, hi, hlo.trans hsl.symm, hhi.trans hsl.symm, hlow, htop, rfl⟩
      have hb2 := span_bound (fun e he x hx => Nat.le_trans (hG.b.c e he x hx) hC) hsp
      refine ⟨_, rfl, p2, _, rfl, .inr (.inl (.inl hp2')), _, rfl, by omega, b62 (by rw [List.length_map]; omega), ?_⟩
      rw [List.length_map, Int.toNat_natCast]
      refine for_range (lo := 0) (n := lo.length) (fun i σ H4 => ∃ y, σ = [some (.ref a), some (.ref p2), some (.ref p3), some (.int (boxP ((subZ hi lo).take i))), y] ∧ H4 = H3) ⟨none, rfl, rfl⟩ ?_ ?_
      · rintro i σ H4 hi4 ⟨y, rfl, rfl⟩
        have hih : i < hi.length := by omega
        have his : i < (subZ hi lo).length := by omega
        have gl : atI (lo.map V.int) ((0 : Int) + (i : Int)) = some (.int lo[i]) := by
          rw [Int.zero_add]
          exact atI_nat (by rw [List.getElem?_map, List.getElem?_eq_getElem hi4]; rfl)
        have gh : atI (hi.map V.int) ((0 : Int) + (i : Int)) = some (.int hi[i]) := by
          rw [Int.zero_add]
          exact atI_nat (by rw [List.getElem?_map, List.getElem?_eq_getElem hih]; rfl)
        have es' : (subZ hi lo)[i]? = some (hi[i] - lo[i]) := subZ_get (List.getElem?_eq_getElem hi4) (List.getElem?_eq_getElem hih)
        have hbi := hb2 (hi[i] - lo[i]) (List.mem_of_getElem? es')
        refine ⟨_, rfl, _, rfl, _, rfl, p3, _, _, _, rfl, rfl, .inl (.inl hp3), gh, _, rfl, _, rfl, p2, _, _, _, rfl, rfl, .inl (.inl hp2'), gl, _, _, rfl, rfl, _, _, rfl, rfl, _, _, rfl, rfl, .inr ?_, ?_⟩
        · have : (2 : Int) ^ 64 = 18446744073709551616 := by decide
          omega
        · refine ⟨some (V.int ((0 : Int) + (i : Int))), ?_, rfl⟩
          rw [List.take_add_one, es']
          show _ = [some (V.ref a), some (V.ref p2), some (V.ref p3), some (V.int (boxP ((subZ hi lo).take i ++ [hi[i] - lo[i]]))), _]
          rw [boxP_snoc]
          rfl
      · rintro σ H4 ⟨y, rfl, rfl⟩
        rw [hlo, ← hsl, List.take_length]
        exact ⟨_, rfl, q _ H4 (.inr ⟨hne, subZ hi lo, hsl.trans (dimE_eq hG.b.d hne).symm, hsp, rfl⟩) (s2.trans s3)⟩
end
end OT

set_option Elab.async false
set_option linter.all false
set_option maxRecDepth 100000
set_option maxHeartbeats 4000000
namespace OT
open PySem PySem.Spec PyProof.Rows L2
/-- len(r) == 1 and abs(r[0][1]) == 1 -/
theorem unit_read {K : PySem.W.Frag} {σ : L2.St} {H : Hp} {Q : VK} {i : Nat} {a : Addr} {xs : List V} {es : List Ent} {n : Nat} (hs : σ[i]? = some (some (.ref a))) (hR : RowH K H a xs es n) (q : Q (.bl (unitB es)) H) :
    tAndV (tOp rEq (tCB (Evl.rLenS K) (tCons (tVar i) tNil)) (tC (.int 1))) (tOp rEq (tCB (fun xs H Q => ∃ i, xs = [V.int i] ∧ Q (V.int (if i < 0 then -i else i)) H) (tCons (tOp (rIxT K) (tOp (rIxL K) (tVar i) (tC (.int 0))) (tC (.int 1))) tNil)) (tC (.int 1))) σ H Q := by
  have hxl := hR.e.len
  refine ⟨_, hs, a, _, rfl, .inl hR.l, rfl, _, rfl, ?_⟩
  refine iteD (fun c => ?_) (fun c => ?_)
  · have h1 : es.length = 1 := by
      have := V.int.inj c
      omega
    obtain ⟨e, rfl⟩ : ∃ e, es = [e] := List.length_eq_one_iff.mp h1
    obtain ⟨v0, hv0, t0, p0, rfl, ht0, hp0⟩ := hR.e.at (i := 0) (by rw [h1]; decide)
    refine ⟨_, hs, a, _, 0, _, rfl, rfl, hR.l, atI_nat (j := 0) hv0, t0, _, 1, _, rfl, rfl, .inl (.inl ht0), atI_nat (j := 1) rfl, _, rfl, rfl, ?_⟩
    have hd : decide (V.int (if e.2 < 0 then -e.2 else e.2) = V.int 1) = unitB [e] := by
      show _ = decide (e.2 = 1 ∨ e.2 = -1)
      by_cases d : e.2 < 0
      · rw [if_pos d]
        by_cases z : e.2 = -1
        · rw [decide_eq_true (by rw [z]; rfl), decide_eq_true (.inr z)]
        · rw [decide_eq_false (fun h => z (by have := V.int.inj h; omega)), decide_eq_false (fun h => by omega)]
      · rw [if_neg d]
        by_cases z : e.2 = 1
        · rw [decide_eq_true (by rw [z]), decide_eq_true (.inl z)]
        · rw [decide_eq_false (fun h => z (V.int.inj h)), decide_eq_false (fun h => by omega)]
    show Q (V.bl (decide (V.int (if e.2 < 0 then -e.2 else e.2) = V.int 1))) H
    rw [hd]
    exact q
  · have h1 : es.length ≠ 1 := fun z => c (by rw [hxl, z]; rfl)
    have : unitB es = false := by
      match es, h1 with
      | [], _ => rfl
      | [e], h => exact absurd rfl h
      | _ :: _ :: _, _ => rfl
    rw [this] at q
    exact q
section
variable {P : Program} {w : World} {K : PySem.W.Frag} {mg : Str → Option Value} {base : Heap}
def spOneA : Sp := fun vs H Q _ => ∃ (a : Addr) (xs : List V) (es : List Ent) (n L C : Nat), vs = [.ref a] ∧ GR H a xs es n L C ∧ 1 ≤ n ∧ n ≤ 3 ∧ L ≤ 1000 ∧ C ≤ 1000000 ∧ ∀ H', Same H H' → Q (.bl true) H'
theorem c__law_single_asked {f : Addr} {fd : FuncData} (D : C8.Def K mg "_law_single_asked" s__law_single_asked f fd) (b : Binds K fd ["_law_row_here"] []) (T : Bi mg) (c_box_size : C8.Cal P w K mg base 4 "box_size" (spBoxP K) []) (c__law_box_count : C8.Cal P w K mg base 2 "_law_box_count" spBoxC []) (c__law_is_integer : C8.Cal P w K mg base 1 "_law_is_integer" spIsInt [])
    (c_normal : C8.Cal P w K mg base 6 "normal" (spNormal K) []) (c__law_normal : C8.Cal P w K mg base 3 "_law_normal" spLNormal []) (c__law_same : C8.Cal P w K mg base 4 "_law_same" (spSame K) []) (c_is_unit : C8.Cal P w K mg base 1 "is_unit" (spIsUnit K) []) (c__law_truth : C8.Cal P w K mg base 1 "_law_truth" spTruth [])
    (c__law_mirror : C8.Cal P w K mg base 2 "_law_mirror" spMir []) (c_is_symmetric : C8.Cal P w K mg base 2 "is_symmetric" (spSym K) []) (c_is_palindromic : C8.Cal P w K mg base 7 "is_palindromic" (spPal K) []) : C8.Cal P w K mg base 8 "_law_single_asked" spOneA [] := by
  refine C8.cal0 D b .nil sc__law_single_asked (fun vs H Q E h => ?_) (fun cdv A outer s H vs Q E hr h => ?_)
  · obtain ⟨a, xs, es, n, L, C, rfl, _⟩ := h
    rfl
  · obtain ⟨a, xs, es, n, L, C, rfl, hG, h1, h3, hL, hC, q⟩ := h
    refine ⟨_, (pss_cons (ps_set (i := 1) sc__law_single_asked.nd rfl (Or.inl rfl) (pe_callTy call_list_of (by rfl) T.n_list OT.b_list (pa_cons (pv 0) pa_nil)))
  (pss_cons (ps_set (i := 2) sc__law_single_asked.nd rfl (Or.inl rfl) (C8.pe_c c_box_size hr (by decide) (by rfl) (pa_cons (pv 1) pa_nil)))
  (pss_cons (ps_if (PW.pt (pw_or (pt_not (pt_val (C8.pe_c c__law_is_integer hr (by decide) (by rfl) (pa_cons (pv 2) pa_nil)))) (pw_or1 (pt_cmpR op_ne (pv 2) (C8.pe_c c__law_box_count hr (by decide) (by rfl) (pa_cons (pv 0) pa_nil)) (nomark _))))) (pss_one (ps_ret pe_bl)) pss_nil)
  (pss_cons (ps_set (i := 3) sc__law_single_asked.nd rfl (Or.inl rfl) (C8.pe_c c_normal hr (by decide) (by rfl) (pa_cons (pv 1) pa_nil)))
  (pss_cons (ps_if (pt_not (pt_val (C8.pe_c c__law_same hr (by decide) (by rfl) (pa_cons (pv 3) (pa_cons (C8.pe_c c__law_normal hr (by decide) (by rfl) (pa_cons (pv 0) pa_nil)) pa_nil))))) (pss_one (ps_ret pe_bl)) pss_nil)
  (pss_cons (ps_expr (pe_bm PySem.F.plainAttrs_list PySem.F.slot_list_append PySem.F.type_list_append mt_append (pv 3) (pa_cons (pe_tup (pa_cons (pe_tup (pa_cons pe_int pa_nil)) (pa_cons pe_int pa_nil))) pa_nil)))
  (pss_cons (ps_if (pt_not (pt_val (C8.pe_c c__law_truth hr (by decide) (by rfl) (pa_cons (C8.pe_c c_is_unit hr (by decide) (by rfl) (pa_cons (pv 1) pa_nil)) (pa_cons (pe_and (pe_cmpR op_eq (pe_callB call_len_seq (by rfl) T.n_len OT.b_len (pa_cons (pv 0) pa_nil)) pe_int (nomark _)) (pe_one (pe_cmpR op_eq (pe_callB call_abs (by rfl) T.n_abs OT.b_abs (pa_cons (pe_ix ix_tup (pe_ix ix_list (pv 0) pe_int (fun _ _ => rfl)) pe_int (fun _ _ => rfl)) pa_nil)) pe_int (nomark _)))) pa_nil))))) (pss_one (ps_ret pe_bl)) pss_nil)
  (pss_cons (ps_set (i := 4) sc__law_single_asked.nd rfl (Or.inl rfl) (C8.pe_c c__law_mirror hr (by decide) (by rfl) (pa_cons (pv 0) pa_nil)))
  (pss_cons (ps_if (pt_not (pt_val (C8.pe_c c__law_truth hr (by decide) (by rfl) (pa_cons (C8.pe_c c_is_symmetric hr (by decide) (by rfl) (pa_cons (pv 1) pa_nil)) (pa_cons (pe_cmpR (op_eqD hr.units) (pv 0) (pv 4) (nomark _)) pa_nil))))) (pss_one (ps_ret pe_bl)) pss_nil)
  (pss_cons (ps_if (pt_not (pt_val (C8.pe_c c__law_truth hr (by decide) (by rfl) (pa_cons (C8.pe_c c_is_palindromic hr (by decide) (by rfl) (pa_cons (pv 1) pa_nil)) (pa_cons (pe_cmpR (op_eqD hr.units) (C8.pe_c c__law_normal hr (by decide) (by rfl) (pa_cons (pv 0) pa_nil)) (C8.pe_c c__law_normal hr (by decide) (by rfl) (pa_cons (pv 4) pa_nil)) (nomark _)) pa_nil))))) (pss_one (ps_ret pe_bl)) pss_nil)
  (pss_one (ps_ret (pe_cmpR (op_eqD hr.units) (pv 1) (pv 0) (nomark _)))))))))))))), ?_⟩
    have hz := hG.z
    refine ⟨_, rfl, a, _, rfl, .inl (.inl (.inl hG.l)), fun hd nhd => ?_⟩
    have s1 : Same H (upd H hd (.lst xs)) := same_upd nhd
    have hhd : (upd H hd (.lst xs)) hd = some (.lst xs) := upd_same
    generalize upd H hd (.lst xs) = H1 at s1 hhd ⊢
    have G1 := hG.mono s1
    have GH : GR H1 hd xs es n L C := ⟨hhd, G1.e, G1.v, G1.z, G1.b⟩
    have RH := GH.rowH (K := K) (by omega) hL
    refine ⟨_, rfl, hd, xs, es, n, rfl, RH, fun e he x hx => Nat.le_trans (hG.b.c e he x hx) hC, fun z H2 hbz s2 => ?_⟩
    refine ⟨_, rfl, _, rfl, _, rfl, ?_⟩
    refine iteF ?_
    refine ⟨_, rfl, _, rfl, a, xs, es, n, L, C, rfl, G1.mono s2, h1, h3, hL, hC, fun z2 H3 hbz2 s3 => ?_⟩
    have ez := hbz.one hbz2
    subst ez
    refine ⟨rfl, _, rfl, ?_⟩
    rw [decide_eq_true rfl]
    refine iteF ?_
    have s13 := s2.trans s3
    refine ⟨_, rfl, hd, xs, es, n, rfl, (GH.mono s13).l, RH.mono s13, hG.v, fun p4 ws4 g4 H4 hg4 hgd4 hgl4 s4 np4 hp4 hE4 => ?_⟩
    have s14 := s13.trans s4
    refine ⟨_, rfl, _, rfl, a, xs, es, n, L, C, rfl, G1.mono s14, h1, h3, hL, fun p5 ws5 g5 H5 hg5 s5 np5 hp5 hE5 => ?_⟩
    have eg := hg4.one hg5
    subst eg
    have s15 := s14.trans s5
    refine ⟨p4, p5, ws4, ws5, g4, n, rfl, s5 _ _ hp4, hE4.mono s5, hp5, hE5, ⟨hg4.v, h1, h3, hgd4⟩, by omega, _, rfl, ?_⟩
    refine iteF ?_
    refine ⟨_, rfl, .inl ⟨rfl, _, .inl (.inl (s5 _ _ hp4))⟩, (by show 1 ≤ sizeLine; decide), fun t1 nt1 => ⟨(by show 2 ≤ sizeLine; decide), fun t2 nt2 => ?_⟩⟩
    have sm1 : Same H5 (upd H5 t1 (.tup [.int 0])) := same_upd nt1
    have sm2 : Same (upd H5 t1 (.tup [.int 0])) (upd (upd H5 t1 (.tup [.int 0])) t2 (.tup [.ref t1, .int 1])) := same_upd nt2
    have hwr := hE4.len
    refine ⟨p4, ws4, _, rfl, rfl, ((s5.trans sm1).trans sm2) _ _ hp4, small1000 (by omega), ?_⟩
    have sM : Same H3 (upd (upd (upd H5 t1 (.tup [.int 0])) t2 (.tup [.ref t1, .int 1])) p4 (.lst (ws4 ++ [.ref t2]))) := same_mut (((s4.trans s5).trans sm1).trans sm2) np4
    generalize upd (upd (upd H5 t1 (.tup [.int 0])) t2 (.tup [.ref t1, .int 1])) p4 (.lst (ws4 ++ [.ref t2])) = H6 at sM ⊢
    have s16 := s13.trans sM
    have RH6 := RH.mono s16
    have G6 := G1.mono s16
    refine ⟨_, rfl, hd, xs, es, n, rfl, RH6, ?_⟩
    refine unit_read (K := K) (a := a) rfl (G6.rowH (by omega) hL) ?_
    refine ⟨_, _, rfl, ?_⟩
    refine ⟨_, rfl, ?_⟩
    rw [decide_eq_true rfl]
    refine iteF ?_
    refine ⟨_, rfl, a, xs, es, rfl, G6.lst h1 hL, fun e he => by rw [G6.b.d e he]; omega, fun r p7 ws7 H7 hr7 s7 np7 hp7 hE7 => ?_⟩
    have er : r = mirP es := hr7.one (mirP_is hG.v hG.b.d)
    subst er
    have s17 := s16.trans s7
    refine ⟨_, rfl, hd, xs, es, n, rfl, (GH.mono s17).l, RH.mono s17, fun H8 s8 => ?_⟩
    have s18 := s17.trans s8
    refine ⟨_, rfl, _, rfl, dRow es, dRow (mirP es), (G1.mono s18).dp, (hE7.mono s8).dp (.inl (.inl (s8 _ _ hp7))), shaped_row _, shaped_row _, ?_⟩
    rw [eqv_row]
    refine ⟨_, _, rfl, ?_⟩
    refine ⟨_, rfl, ?_⟩
    rw [decide_eq_true rfl]
    refine iteF ?_
    refine ⟨_, rfl, hd, xs, es, n, rfl, (GH.mono s18).l, RH.mono s18, hG.v, fun g h H9 hg hh s9 => ?_⟩
    have s19 := s18.trans s9
    refine ⟨_, rfl, a, xs, es, n, L, C, rfl, G1.mono s19, h1, h3, hL, fun p10 ws10 g10 H10 hg10 s10 np10 hp10 hE10 => ?_⟩
    have s110 := s19.trans s10
    have s810 := s8.trans (s9.trans s10)
    have GB : GR H10 p7 ws7 (mirP es) n L C := (GR.of hr7 hp7 hE7 (by rw [mirL_len]; exact hG.z) hG.b.mir).mono s810
    refine ⟨_, rfl, p7, ws7, _, n, L, C, rfl, GB, h1, h3, hL, fun p11 ws11 g11 H11 hg11 s11 np11 hp11 hE11 => ?_⟩
    refine ⟨dRow g10, dRow g11, (hE10.mono s11).dp (.inl (.inl (s11 _ _ hp10))), hE11.dp (.inl (.inl hp11)), shaped_row _, shaped_row _, ?_⟩
    rw [eqv_row]
    have eg := hg.one hg10
    have eh := hh.one hg11
    subst eg eh
    refine ⟨_, _, rfl, ?_⟩
    refine ⟨_, rfl, ?_⟩
    rw [decide_eq_true rfl]
    refine iteF ?_
    have s111 := s110.trans s11
    refine ⟨_, rfl, _, rfl, dRow es, dRow es, (GH.mono s111).dp, (G1.mono s111).dp, shaped_row _, shaped_row _, ?_⟩
    rw [eqv_rows]
    exact q _ (s1.trans s111)
end
end OT

set_option Elab.async false
set_option linter.all false
set_option maxRecDepth 100000
set_option maxHeartbeats 4000000
namespace OT
open PySem PySem.Spec PyProof.Rows L2
/-- two rows of different dimensions other than 0 -/
def mixB (es fs : List Ent) : Bool := decide (dimE es ≠ 0 ∧ dimE fs ≠ 0 ∧ dimE es ≠ dimE fs)
theorem mixD (es fs : List Ent) : mixL ((dims [es, fs]).filter nz) = mixB es fs := by
  show mixL ([((dimE es : Nat) : Int), ((dimE fs : Nat) : Int)].filter nz) = mixB es fs
  unfold mixB
  generalize dimE es = x
  generalize dimE fs = y
  have nzT : ∀ {z : Nat}, z ≠ 0 → nz (z : Int) = true := fun h => decide_eq_true (by omega)
  have nzF : ∀ {z : Nat}, z = 0 → nz (z : Int) = false := fun h => decide_eq_false (by omega)
  by_cases hx : x = 0
  · rw [List.filter_cons, if_neg (by rw [nzF hx]; decide), decide_eq_false (fun h => h.1 hx)]
    by_cases hy : y = 0
    · rw [List.filter_cons, if_neg (by rw [nzF hy]; decide)]
      rfl
    · rw [List.filter_cons, if_pos (nzT hy)]
      simp [mixL]
  · rw [List.filter_cons, if_pos (nzT hx)]
    by_cases hy : y = 0
    · rw [List.filter_cons, if_neg (by rw [nzF hy]; decide), decide_eq_false (fun h => h.2.1 hy)]
      simp [mixL]
    · rw [List.filter_cons, if_pos (nzT hy)]
      by_cases h : x = y
      · subst h
        rw [decide_eq_false (fun h => h.2.2 rfl)]
        simp [mixL]
      · rw [decide_eq_true ⟨hx, hy, h⟩]
        have : ¬ ((y : Int) = (x : Int)) := fun z => h (by omega)
        simp [mixL, this]
/-- the value of `mixed` -/
theorem mix_read {K : PySem.W.Frag} {σ : L2.St} {H : Hp} {Q : VK} {a b : Addr} {xs ys : List V} {es fs : List Ent} {n m L C : Nat} (h0 : σ[0]? = some (some (.ref a))) (h1 : σ[1]? = some (some (.ref b))) (hn : 1 ≤ n) (hm : 1 ≤ m) (hG : GR H a xs es n L C) (hF : GR H b ys fs m L C) (q : Q (.bl (mixB es fs)) H) :
    tAndV (tOp (rI0 fun i j => V.bl (decide (j < i))) (tCB (Evl.rLenS K) (tCons (tVar 0) tNil)) (tC (.int 0))) (tAndV (tOp (rI0 fun i j => V.bl (decide (j < i))) (tCB (Evl.rLenS K) (tCons (tVar 1) tNil)) (tC (.int 0)))
      (tOp rNe (tCB (Evl.rLenS K) (tCons (tOp (rIxT K) (tOp (rIxL K) (tVar 0) (tC (.int 0))) (tC (.int 0))) tNil)) (tCB (Evl.rLenS K) (tCons (tOp (rIxT K) (tOp (rIxL K) (tVar 1) (tC (.int 0))) (tC (.int 0))) tNil)))) σ H Q := by
  have e1 := hG.e.len
  have e2 := hF.e.len
  refine ⟨_, h0, a, _, rfl, .inl (.inl (.inl hG.l)), _, _, rfl, rfl, _, rfl, iteD (fun c => ?_) (fun c => ?_)⟩
  · refine ⟨_, h1, b, _, rfl, .inl (.inl (.inl hF.l)), _, _, rfl, rfl, _, rfl, iteD (fun d => ?_) (fun d => ?_)⟩
    · have p1 : 0 < es.length := by omega
      have p2 : 0 < fs.length := by omega
      obtain ⟨v0, hv0, t0, q0, rfl, ht0, hq0⟩ := hG.e.at (i := 0) p1
      obtain ⟨v1, hv1, t1, q1, rfl, ht1, hq1⟩ := hF.e.at (i := 0) p2
      refine ⟨_, h0, a, _, 0, _, rfl, rfl, .inl (.inl hG.l), atI_nat (j := 0) hv0, t0, _, 0, _, rfl, rfl, .inl (.inl ht0), atI_nat (j := 0) rfl, q0, _, rfl, .inr (.inl (.inl hq0)),
        _, h1, b, _, 0, _, rfl, rfl, .inl (.inl hF.l), atI_nat (j := 0) hv1, t1, _, 0, _, rfl, rfl, .inl (.inl ht1), atI_nat (j := 0) rfl, q1, _, rfl, .inr (.inl (.inl hq1)), rfl, ?_⟩
      have d1 : dimE es = (es[0]'p1).1.length := by
        cases es with
        | nil => cases p1
        | cons e r => rfl
      have d2 : dimE fs = (fs[0]'p2).1.length := by
        cases fs with
        | nil => cases p2
        | cons e r => rfl
      have z1 : dimE es ≠ 0 := by
        rw [d1, hG.b.d _ (List.getElem_mem p1)]
        omega
      have z2 : dimE fs ≠ 0 := by
        rw [d2, hF.b.d _ (List.getElem_mem p2)]
        omega
      have : mixB es fs = !decide (V.int ((List.map V.int (es[0]'p1).1).length : Int) = V.int ((List.map V.int (fs[0]'p2).1).length : Int)) := by
        rw [List.length_map, List.length_map, ← d1, ← d2]
        unfold mixB
        by_cases z : dimE es = dimE fs
        · rw [decide_eq_false (fun h => h.2.2 z), decide_eq_true (by rw [z])]
          rfl
        · rw [decide_eq_true ⟨z1, z2, z⟩, decide_eq_false (fun h => z (by have := V.int.inj h; omega))]
          rfl
      rw [this] at q
      exact q
    · have hf : fs = [] := List.length_eq_zero_iff.mp (by omega)
      have : mixB es fs = false := by
        rw [hf]
        exact decide_eq_false fun h => h.2.1 rfl
      rw [this] at q
      exact q
  · have hf : es = [] := List.length_eq_zero_iff.mp (by omega)
    have : mixB es fs = false := by
      rw [hf]
      exact decide_eq_false fun h => h.1 rfl
    rw [this] at q
    exact q
section
variable {P : Program} {w : World} {K : PySem.W.Frag} {mg : Str → Option Value} {base : Heap}
def spPairA : Sp := fun vs H Q _ => ∃ (a b : Addr) (xs ys : List V) (es fs : List Ent) (n m L C : Nat), vs = [.ref a, .ref b] ∧ GR H a xs es n L C ∧ GR H b ys fs m L C ∧ 1 ≤ n ∧ n ≤ 3 ∧ 1 ≤ m ∧ m ≤ 3 ∧ L ≤ 1000 ∧ ∀ H', Same H H' → Q (.bl true) H'
theorem c__law_pair_asked {f B Z M O fA fE : Addr} {fd fdA fdE : FuncData} (D : C8.Def K mg "_law_pair_asked" s__law_pair_asked f fd) (b : Binds K fd ["_law_first_here", "_law_second_here"] []) (T : Bi mg) (gB : mg "TableError" = some (.ref B)) (gZ : mg "ZeroRow" = some (.ref Z)) (gM : mg "MixedDimensions" = some (.ref M)) (gO : mg "OneDirectionOnly" = some (.ref O))
    (tM : OtErr K M "MixedDimensions") (eM : PySem.W.exmOne K (.ref M) (.ref B) = some true) (kM : KitE K B M) (kk : KitZM K Z M O)
    (DA : C8.Def K mg "associated" s_associated fA fdA) (bA : Binds K fdA ["first", "second"] []) (GA : FnOk P w K mg base (L2.CX P w) 7 fA fdA ["first", "second"] (spAssoc K M))
    (DE : C8.Def K mg "_law_is_error" s__law_is_error fE fdE) (bE : Binds K fdE ["_law_e", "_law_word"] []) (GE : FnE P w K mg base 1 fE fdE ["_law_e", "_law_word"] (spErrE K B))
    (c__law_normal : C8.Cal P w K mg base 3 "_law_normal" spLNormal []) (c__law_truth : C8.Cal P w K mg base 1 "_law_truth" spTruth []) : C8.Cal P w K mg base 8 "_law_pair_asked" spPairA [] := by
  refine C8.cal0 D b .nil sc__law_pair_asked (fun vs H Q E h => ?_) (fun cdv A outer s H vs Q E hr h => ?_)
  · obtain ⟨a, b, xs, ys, es, fs, n, m, L, C, rfl, _⟩ := h
    rfl
  · obtain ⟨a, b, xs, ys, es, fs, n, m, L, C, rfl, hG, hF, h1, h3, k1, k3, hL, q⟩ := h
    refine ⟨_, (pss_cons (ps_set (i := 2) sc__law_pair_asked.nd rfl (Or.inl rfl) (pe_callTy call_list_of (by rfl) T.n_list OT.b_list (pa_cons (pv 0) pa_nil)))
  (pss_cons (ps_set (i := 3) sc__law_pair_asked.nd rfl (Or.inl rfl) (pe_callTy call_list_of (by rfl) T.n_list OT.b_list (pa_cons (pv 1) pa_nil)))
  (pss_cons (ps_set (i := 4) sc__law_pair_asked.nd rfl (Or.inl rfl) (pe_and (pe_cmpR op_gt (pe_callB call_len_seq (by rfl) T.n_len OT.b_len (pa_cons (pv 0) pa_nil)) pe_int (nomark _)) (pe_and (pe_cmpR op_gt (pe_callB call_len_seq (by rfl) T.n_len OT.b_len (pa_cons (pv 1) pa_nil)) pe_int (nomark _)) (pe_one (pe_cmpR op_ne (pe_callB call_len_seq (by rfl) T.n_len OT.b_len (pa_cons (pe_ix ix_tup (pe_ix ix_list (pv 0) pe_int (fun _ _ => rfl)) pe_int (fun _ _ => rfl)) pa_nil)) (pe_callB call_len_seq (by rfl) T.n_len OT.b_len (pa_cons (pe_ix ix_tup (pe_ix ix_list (pv 1) pe_int (fun _ _ => rfl)) pe_int (fun _ _ => rfl)) pa_nil)) (nomark _))))))
  (pss_cons (ps_try_as (i := 5) (tb := fun W => _) (ts := fun a cls d => _) (Wout := fun _ _ _ _ => False) rfl rfl sc__law_pair_asked.nd rfl rfl ⟨rfl, by decide, Or.inl gB⟩ takes0 (fun W pn xe tk _ => (pss_one (ps_set (i := 6) sc__law_pair_asked.nd rfl (Or.inl rfl) (pe_callS GA hr rfl DA.mgf DA.kp bA (fun σ => passAt tk σ) (pa_cons (pv 2) (pa_cons (pv 3) pa_nil)))))) (fun a oe cls d pn hz hf => by exact (pss_cons (ps_if (PW.pt (pw_or (pt_val (pe_callB (show CallR _ _ (rIsX K a cls d) from call_isA List.mem_cons_self hz hf) (by rfl) T.n_isinstance OT.b_isinstance (pa_cons (pv 5) (pa_cons (pe_glob (v := .ref Z) (by rfl) gZ rfl) pa_nil)))) (pw_or (pt_val (pe_callB (show CallR _ _ (rIsX K a cls d) from call_isA List.mem_cons_self hz hf) (by rfl) T.n_isinstance OT.b_isinstance (pa_cons (pv 5) (pa_cons (pe_glob (v := .ref O) (by rfl) gO rfl) pa_nil)))) (pw_or1 (pt_not (pt_val (pe_callB (show CallR _ _ (rIsX K a cls d) from call_isA List.mem_cons_self hz hf) (by rfl) T.n_isinstance OT.b_isinstance (pa_cons (pv 5) (pa_cons (pe_glob (v := .ref M) (by rfl) gM rfl) pa_nil))))))))) (pss_one (ps_ret pe_bl)) pss_nil)   (pss_one (ps_ret (pe_and (by exact (pv 4)) (pe_and (by exact pe_callA GE (roomH_m (hr.mono (by decide : 1 ≤ 7))) List.mem_cons_self hz hf (by rfl) DE.mgf DE.kp bE (pa_cons (pv 5) (pa_cons pe_str pa_nil))) (pe_and (by exact (pe_cmpR (show OpR _ _ (rEqD K) from op_eqD hr.units) (pv 2) (pv 0) (nomark _))) (pe_one (by exact (pe_cmpR (show OpR _ _ (rEqD K) from op_eqD hr.units) (pv 3) (pv 1) (nomark _))))))))))))
  (pss_cons (ps_if (PW.pt (pw_or (pt_val (pv 4)) (pw_or1 (pt_not (pt_val (C8.pe_c c__law_truth hr (by decide) (by rfl) (pa_cons (pv 6) (pa_cons (pe_cmpR (op_eqD hr.units) (C8.pe_c c__law_normal hr (by decide) (by rfl) (pa_cons (pv 0) pa_nil)) (C8.pe_c c__law_normal hr (by decide) (by rfl) (pa_cons (pv 1) pa_nil)) (nomark _)) pa_nil)))))))) (pss_one (ps_ret pe_bl)) pss_nil)
  (pss_one (ps_ret (pe_and (pe_cmpR (op_eqD hr.units) (pv 2) (pv 0) (nomark _)) (pe_one (pe_cmpR (op_eqD hr.units) (pv 3) (pv 1) (nomark _))))))))))), ?_⟩
    refine ⟨_, rfl, a, _, rfl, .inl (.inl (.inl hG.l)), fun la nla => ?_⟩
    have s1 : Same H (upd H la (.lst xs)) := same_upd nla
    have hla : (upd H la (.lst xs)) la = some (.lst xs) := upd_same
    generalize upd H la (.lst xs) = H1 at s1 hla ⊢
    refine ⟨_, rfl, b, _, rfl, .inl (.inl (.inl (s1 _ _ hF.l))), fun lb nlb => ?_⟩
    have s2 : Same H1 (upd H1 lb (.lst ys)) := same_upd nlb
    have hlb : (upd H1 lb (.lst ys)) lb = some (.lst ys) := upd_same
    have hla2 := s2 _ _ hla
    generalize upd H1 lb (.lst ys) = H2 at s2 hlb hla2 ⊢
    have sA := s1.trans s2
    have G2 := hG.mono sA
    have F2 := hF.mono sA
    have GL : GR H2 la xs es n L C := ⟨hla2, G2.e, G2.v, G2.z, G2.b⟩
    have FL : GR H2 lb ys fs m L C := ⟨hlb, F2.e, F2.v, F2.z, F2.b⟩
    refine mix_read (K := K) (a := a) (b := b) rfl rfl h1 k1 G2 F2 ?_
    have RL := GL.rowH (K := K) (by omega) hL
    have RF := FL.rowH (K := K) (by omega) hL
    refine ⟨_, rfl, _, rfl, la, lb, xs, ys, es, fs, n, m, rfl, GL.l, RL, hG.v, FL.l, RF, hF.v, fun hm dd H3 s3 hd => ?_, fun hm g h H3 hg hh s3 => ?_⟩
    all_goals rw [mixD] at hm
    all_goals rw [hm]
    · refine ⟨true, eM, fun _ ea nea => ?_, fun h => by cases h⟩
      refine ⟨_, rfl, M, dd, errM, _, _, _, rfl, rfl, rfl, tM.oc, hd, .own Z, kk.mz, _, rfl, ?_⟩
      refine iteF ?_
      refine ⟨_, rfl, M, dd, errM, _, _, _, rfl, rfl, rfl, tM.oc, hd, .own O, kk.mo, _, rfl, ?_⟩
      refine iteF ?_
      refine ⟨_, rfl, M, dd, errM, _, _, _, rfl, rfl, rfl, tM.oc, hd, .own M, kk.mm, _, rfl, ?_⟩
      refine iteF ?_
      refine ⟨_, rfl, _, rfl, ?_⟩
      refine iteT ?_
      refine ⟨_, rfl, M, dd, errM, "MixedDimensions", rfl, ⟨rfl, rfl, tM.oc, hd⟩, tM.nw, rfl, kM.b, kM.v, _, rfl, ?_⟩
      refine iteT ?_
      refine ⟨_, rfl, _, rfl, dRow es, dRow es, (GL.mono s3).dp, (G2.mono s3).dp, shaped_row _, shaped_row _, _, rfl, ?_⟩
      rw [eqv_rows]
      refine iteT ?_
      refine ⟨_, rfl, _, rfl, dRow fs, dRow fs, (FL.mono s3).dp, (F2.mono s3).dp, shaped_row _, shaped_row _, ?_⟩
      rw [eqv_rows]
      exact q _ (sA.trans s3)
    · refine ⟨_, rfl, _, rfl, ?_⟩
      refine iteF ?_
      refine ⟨_, rfl, _, rfl, a, xs, es, n, L, C, rfl, G2.mono s3, h1, h3, hL, fun p5 ws5 g5 H5 hg5 s5 np5 hp5 hE5 => ?_⟩
      have s35 := s3.trans s5
      refine ⟨_, rfl, b, ys, fs, m, L, C, rfl, F2.mono s35, k1, k3, hL, fun p6 ws6 g6 H6 hg6 s6 np6 hp6 hE6 => ?_⟩
      refine ⟨dRow g5, dRow g6, (hE5.mono s6).dp (.inl (.inl (s6 _ _ hp5))), hE6.dp (.inl (.inl hp6)), shaped_row _, shaped_row _, ?_⟩
      rw [eqv_row]
      have eg := hg.one hg5
      have eh := hh.one hg6
      subst eg eh
      refine ⟨_, _, rfl, ?_⟩
      refine ⟨_, rfl, ?_⟩
      rw [decide_eq_true rfl]
      refine iteF ?_
      have s36 := s35.trans s6
      refine ⟨_, rfl, _, rfl, dRow es, dRow es, (GL.mono s36).dp, (G2.mono s36).dp, shaped_row _, shaped_row _, _, rfl, ?_⟩
      rw [eqv_rows]
      refine iteT ?_
      refine ⟨_, rfl, _, rfl, dRow fs, dRow fs, (FL.mono s36).dp, (F2.mono s36).dp, shaped_row _, shaped_row _, ?_⟩
      rw [eqv_rows]
      exact q _ (sA.trans s36)
end
end OT

set_option Elab.async false
set_option linter.all false
set_option maxRecDepth 100000
set_option maxHeartbeats 4000000
namespace OT
open PySem PySem.Spec PyProof.Rows L2
theorem GR.emp {H : Hp} {p : Addr} (h : H p = some (.lst [])) : GR H p [] [] 1 300 20000 := ⟨h, .nil, ⟨.nil, fun e h => (by cases h)⟩, by decide, .nil⟩
section
variable {P : Program} {w : World} {K : PySem.W.Frag} {mg : Str → Option Value} {base : Heap}
def spLaw (K : PySem.W.Frag) : Sp := fun vs H Q _ => ∃ (a : Addr) (ns : List Int), vs = [.ref a] ∧ SqL K H a (ns.map V.int) ∧ ns.length ≤ 63 ∧ ∀ H', Q (.bl true) H'
theorem c_law {f : Addr} {fd : FuncData} (D : C8.Def K mg "law" s_law f fd) (b : Binds K fd ["_law_script"] []) (T : Bi mg) (c__law_cell : C8.Cal P w K mg base 1 "_law_cell" (spCell K) []) (c__law_draws : C8.Cal P w K mg base 1 "_law_draws" (spDraws K) []) (c__law_near_or_far : C8.Cal P w K mg base 2 "_law_near_or_far" (spNear K) [])
    (c__law_first : C8.Cal P w K mg base 4 "_law_first" (spFirst K) []) (c__law_second : C8.Cal P w K mg base 4 "_law_second" (spSecond K) []) (c__law_zero_asked : C8.Cal P w K mg base 5 "_law_zero_asked" spZero []) (c__law_normal : C8.Cal P w K mg base 3 "_law_normal" spLNormal []) (c__law_corners_asked : C8.Cal P w K mg base 5 "_law_corners_asked" spCorA [])
    (c__law_single_asked : C8.Cal P w K mg base 8 "_law_single_asked" spOneA []) (c__law_pair_asked : C8.Cal P w K mg base 8 "_law_pair_asked" spPairA []) : FnOk P w K mg base L2.CX0 9 f fd ["_law_script"] (spLaw K) := by
  refine C8.fn0 D.fn sc_law (fun vs H Q E h => ?_) (fun cdv A outer s H vs Q E hr h => ?_)
  · obtain ⟨a, ns, rfl, _⟩ := h
    rfl
  · obtain ⟨a, ns, rfl, hS, hlen, q⟩ := h
    refine ⟨_, (pss_cons (ps_set (i := 1) sc_law.nd rfl (Or.inl rfl) (C8.pe_c c__law_draws hr (by decide) (by rfl) (pa_cons (C8.pe_c c__law_cell hr (by decide) (by rfl) (pa_cons (pv 0) (pa_cons pe_int pa_nil))) (pa_cons (pe_lst (pa_cons pe_int (pa_cons pe_int (pa_cons pe_int (pa_cons pe_int (pa_cons pe_int (pa_cons pe_int (pa_cons pe_int pa_nil)))))))) pa_nil))))
  (pss_cons (ps_set (i := 2) sc_law.nd rfl (Or.inl rfl) (C8.pe_c c__law_near_or_far hr (by decide) (by rfl) (pa_cons (C8.pe_c c__law_cell hr (by decide) (by rfl) (pa_cons (pv 0) (pa_cons pe_int pa_nil))) (pa_cons (pe_op op_add (pe_ix ix_list (pv 1) pe_int (fun _ _ => rfl)) pe_int) pa_nil))))
  (pss_cons (ps_set (i := 3) sc_law.nd rfl (Or.inl rfl) (C8.pe_c c__law_first hr (by decide) (by rfl) (pa_cons (pv 0) (pa_cons (pv 1) (pa_cons (pv 2) pa_nil)))))
  (pss_cons (ps_set (i := 4) sc_law.nd rfl (Or.inl rfl) (C8.pe_c c__law_second hr (by decide) (by rfl) (pa_cons (pv 0) (pa_cons (pv 1) (pa_cons (pv 2) (pa_cons (pv 3) pa_nil))))))
  (pss_cons (ps_for PassesOwn.never rfl (pi_range1 rfl T.n_range (pa_cons pe_int pa_nil)) (pg_name (i := 5) sc_law.nd rfl (Or.inl rfl)) (pss_cons (ps_for PassesOwn.never rfl (pi_range1 rfl T.n_range (pa_cons pe_int pa_nil)) (pg_name (i := 6) sc_law.nd rfl (Or.inl rfl)) (pss_one (ps_if (pt_not (pt_val (C8.pe_c c__law_zero_asked hr (by decide) (by rfl) (pa_cons (pv 6) pa_nil)))) (pss_one (ps_ret pe_bl)) pss_nil)))
  (pss_cons (ps_for PassesOwn.never rfl (pi_list (pe_lst (pa_cons (pv 3) (pa_cons (pv 4) (pa_cons (C8.pe_c c__law_normal hr (by decide) (by rfl) (pa_cons (pv 3) pa_nil)) pa_nil))))) (pg_name (i := 7) sc_law.nd rfl (Or.inl rfl)) (pss_cons (ps_if (PW.pt (pw_and (pt_cmpR op_gt (pe_callB call_len_seq (by rfl) T.n_len OT.b_len (pa_cons (pv 7) pa_nil)) pe_int (nomark _)) (pw_and1 (pt_not (pt_val (C8.pe_c c__law_corners_asked hr (by decide) (by rfl) (pa_cons (pv 7) pa_nil))))))) (pss_one (ps_ret pe_bl)) pss_nil)
  (pss_one (ps_if (PW.pt (pw_or (pt_not (pt_val (C8.pe_c c__law_single_asked hr (by decide) (by rfl) (pa_cons (pv 7) pa_nil)))) (pw_or (pt_not (pt_val (C8.pe_c c__law_single_asked hr (by decide) (by rfl) (pa_cons (pe_lst pa_nil) pa_nil)))) (pw_or1 (pt_not (pt_val (C8.pe_c c__law_pair_asked hr (by decide) (by rfl) (pa_cons (pv 7) (pa_cons (pe_lst pa_nil) pa_nil))))))))) (pss_one (ps_ret pe_bl)) pss_nil))))
  (pss_one (ps_if (PW.pt (pw_or (pt_not (pt_val (C8.pe_c c__law_pair_asked hr (by decide) (by rfl) (pa_cons (pv 3) (pa_cons (pv 4) pa_nil))))) (pw_or1 (pt_not (pt_val (C8.pe_c c__law_pair_asked hr (by decide) (by rfl) (pa_cons (pv 4) (pa_cons (pv 3) pa_nil)))))))) (pss_one (ps_ret pe_bl)) pss_nil)))))
  (pss_one (ps_ret pe_bl))))))), ?_⟩
    refine ⟨_, rfl, a, ns, 0, rfl, hS, by decide, fun c => ?_⟩
    refine ⟨by decide, fun p np => ?_⟩
    refine ⟨p, zs2, c, rfl, .inl (.inl upd_same), by decide, by decide, fun ds H1 p1 hin sm1 np1 hp1 => ?_⟩
    have sA : Same H H1 := (same_upd np).trans sm1
    have L1 : SqL K H1 p1 (ds.map V.int) := .inl (.inl hp1)
    obtain ⟨d0, g0, g0a, g0b⟩ := hin.get (i := 0) (z := 3) rfl
    obtain ⟨k, rfl⟩ := Int.eq_ofNat_of_zero_le g0a
    have hk : ds[0]? = some ((k : Nat) : Int) := by
      rw [List.getElem?_map] at g0
      cases e : ds[0]? with
      | none =>
        rw [e] at g0
        cases g0
      | some z =>
        rw [e] at g0
        exact congrArg some (V.int.inj (Option.some.inj g0))
    refine ⟨_, rfl, a, ns, 2, rfl, sA.seq hS, by decide, fun c2 => ?_⟩
    refine ⟨_, rfl, p1, _, 0, _, rfl, rfl, L1, atI_nat (j := 0) g0, _, _, rfl, rfl, c2, k + 1, rfl, by omega, by omega, fun l p2 H2 hl hlc sm2 hp2 => ?_⟩
    have L2' := sm2.seq L1
    have sB := sA.trans sm2
    refine ⟨_, rfl, _, rfl, _, rfl, a, p1, p2, ns, ds, l, k, rfl, sB.seq hS, L2', hin, hk, hp2, hl, hlc, fun p3 xs es H3 hG sm3 => ?_⟩
    have sC := sB.trans sm3
    refine ⟨_, rfl, _, rfl, _, rfl, _, rfl, a, p1, p2, p3, ns, ds, l, k, xs, es, rfl, sC.seq hS, sm3.seq L2', hin, hk, sm3 _ _ hp2, hl, hlc, hG, fun p4 ys fs m H4 m1 m3 hF sm4 => ?_⟩
    have hG4 := hG.mono sm4
    have hGb := hG4.le (show 200 ≤ 300 by decide) (show 10000 ≤ 20000 by decide)
    refine ⟨2, rfl, by decide, by decide, ?_⟩
    refine for_range (lo := 0) (n := 2) (fun i σ H6 => ∃ y5 y6 y7 : Option V, σ = [some (.ref a), some (.ref p1), some (.ref p2), some (.ref p3), some (.ref p4), y5, y6, y7] ∧ Same H4 H6) ⟨none, none, none, rfl, Same.refl _⟩ ?_ ?_
    · rintro i σ H6 hi ⟨y5, y6, y7, rfl, s6⟩
      refine ⟨3, rfl, by decide, by decide, ?_⟩
      refine for_range (lo := 0) (n := 3) (fun j σ H7 => ∃ y6 y7 : Option V, σ = [some (.ref a), some (.ref p1), some (.ref p2), some (.ref p3), some (.ref p4), some (.int (0 + (i : Int))), y6, y7] ∧ Same H4 H7) ⟨y6, y7, rfl, s6⟩ ?_ ?_
      · rintro j σ H7 hj ⟨y6', y7', rfl, s7⟩
        refine ⟨_, rfl, _, rfl, by omega, fun H8 s8 => ⟨_, rfl, ?_⟩⟩
        refine iteF ?_
        exact ⟨_, _, rfl, s7.trans s8⟩
      · rintro σ H7 ⟨y6', y7', rfl, s7⟩
        refine ⟨_, rfl, _, rfl, _, rfl, p3, xs, es, k + 1, 300, 20000, rfl, hGb.mono s7, by omega, by omega, by decide, fun p5 ws g H8 hg s8 np5 hp5 hE5 => ?_⟩
        have hN : GR H8 p5 ws g (k + 1) 300 20000 := ⟨hp5, hE5, hg.v, Nat.le_trans hg.len hGb.z, (hg.plb hG4.b).le (by decide)⟩
        have s48 := s7.trans s8
        refine ⟨(by show 3 ≤ sizeLine; decide), fun p6 np6 => ?_⟩
        have s9 : Same H8 (upd H8 p6 (.lst [.ref p3, .ref p4, .ref p5])) := same_upd np6
        have hp6 : (upd H8 p6 (.lst [.ref p3, .ref p4, .ref p5])) p6 = some (.lst [.ref p3, .ref p4, .ref p5]) := upd_same
        generalize upd H8 p6 (.lst [.ref p3, .ref p4, .ref p5]) = H9 at s9 hp6 ⊢
        have s49 := s48.trans s9
        have row : ∀ {H' : Hp} {x : V} {j : Nat}, Same H9 H' → [V.ref p3, V.ref p4, V.ref p5][j]? = some x → ∃ (q : Addr) (us : List V) (rs : List Ent) (n : Nat), x = .ref q ∧ 1 ≤ n ∧ n ≤ 3 ∧ GR H' q us rs n 300 20000 := fun {H' x j} s hx => by
          match j, hx with
          | 0, hx => cases hx; exact ⟨p3, xs, es, k + 1, rfl, by omega, by omega, hGb.mono (s49.trans s)⟩
          | 1, hx => cases hx; exact ⟨p4, ys, fs, m, rfl, m1, m3, hF.mono (s49.trans s)⟩
          | 2, hx => cases hx; exact ⟨p5, ws, g, k + 1, rfl, by omega, by omega, hN.mono (s9.trans s)⟩
        refine ⟨p6, rfl, ⟨_, .inl (.inl hp6)⟩, ?_⟩
        refine for_list (K := K) (xs := [.ref p3, .ref p4, .ref p5]) (fun j σ H10 => ∃ y7 : Option V, σ = [some (.ref a), some (.ref p1), some (.ref p2), some (.ref p3), some (.ref p4), some (.int (0 + (i : Int))), y6', y7] ∧ Same H9 H10) ⟨y7', rfl, Same.refl _⟩ ?_ ?_ ?_
        · rintro j σ H10 _ ⟨_, _, s10⟩
          exact .inl (.inl (s10 _ _ hp6))
        · rintro j x σ H10 hx ⟨y7'', rfl, s10⟩
          obtain ⟨qa, us, rs, n, rfl, n1, n3, hR⟩ := row s10 hx
          have hul := hR.e.len
          have tail : ∀ {W} (H11 : Hp), Same H10 H11 → (∀ H', Same H10 H' → W.nx [some (.ref a), some (.ref p1), some (.ref p2), some (.ref p3), some (.ref p4), some (.int (0 + (i : Int))), y6', some (.ref qa)] H') → tIfS (tOr (tNot (tB (tCall spOneA [] C8.E0 (tCons (tVar 7) tNil)))) (tOr (tNot (tB (tCall spOneA [] C8.E0 (tCons (tLst tNil) tNil)))) (tNot (tB (tCall spPairA [] C8.E0 (tCons (tVar 7) (tCons (tLst tNil) tNil))))))) (tRet (tC (.bl false))) tNext
              W [some (.ref a), some (.ref p1), some (.ref p2), some (.ref p3), some (.ref p4), some (.int (0 + (i : Int))), y6', some (.ref qa)] H11 := fun {W} H11 s11 hW => by
            refine ⟨_, rfl, qa, us, rs, n, 300, 20000, rfl, hR.mono s11, n1, n3, by decide, by decide, fun H12 s12 => ⟨_, rfl, ?_⟩⟩
            refine iteF ?_
            refine ⟨by decide, fun e1 ne1 => ?_⟩
            have s13 : Same H12 (upd H12 e1 (.lst [])) := same_upd ne1
            refine ⟨e1, [], [], 1, 300, 20000, rfl, .emp upd_same, by decide, by decide, by decide, by decide, fun H14 s14 => ⟨_, rfl, ?_⟩⟩
            refine iteF ?_
            have s114 := ((s11.trans s12).trans s13).trans s14
            refine ⟨_, rfl, by decide, fun e2 ne2 => ?_⟩
            have s15 : Same H14 (upd H14 e2 (.lst [])) := same_upd ne2
            refine ⟨qa, e2, us, [], rs, [], n, 1, 300, 20000, rfl, hR.mono (s114.trans s15), .emp upd_same, n1, n3, by decide, by decide, by decide, fun H16 s16 => ⟨_, rfl, ?_⟩⟩
            refine iteF ?_
            exact hW _ ((s114.trans s15).trans s16)
          refine ⟨_, rfl, qa, _, rfl, .inl (.inl (.inl hR.l)), _, _, rfl, rfl, _, rfl, iteD (fun h0 => ?_) (fun h0 => ?_)⟩
          · have hne : rs ≠ [] := fun z => by
              subst z
              rw [hul] at h0
              cases h0
            refine ⟨_, rfl, qa, us, rs, n, 300, 20000, rfl, hR, hne, n1, n3, by decide, fun H11 s11 => ⟨_, rfl, ?_⟩⟩
            refine iteF ?_
            exact tail H11 s11 fun H' s' => ⟨_, rfl, s10.trans s'⟩
          · refine iteF ?_
            exact tail H10 (Same.refl _) fun H' s' => ⟨_, rfl, s10.trans s'⟩
        · rintro σ H10 ⟨y7'', rfl, s10⟩
          have s410 := s49.trans s10
          refine ⟨_, rfl, _, rfl, p3, p4, xs, ys, es, fs, k + 1, m, 300, 20000, rfl, hGb.mono s410, hF.mono s410, by omega, by omega, m1, m3, by decide, fun H11 s11 => ⟨_, rfl, ?_⟩⟩
          refine iteF ?_
          have s411 := s410.trans s11
          refine ⟨_, rfl, _, rfl, p4, p3, ys, xs, fs, es, m, k + 1, 300, 20000, rfl, hF.mono s411, hGb.mono s411, m1, m3, by omega, by omega, by decide, fun H12 s12 => ⟨_, rfl, ?_⟩⟩
          refine iteF ?_
          exact ⟨_, _, _, rfl, s411.trans s12⟩
    · rintro σ H6 ⟨y5, y6, y7, rfl, s6⟩
      exact q H6
end
end OT

set_option Elab.async false
set_option linter.all false
set_option maxRecDepth 100000
set_option maxHeartbeats 4000000
namespace OT
open PySem PySem.Spec PyProof.Rows L2
theorem all_mk {l : PySem.W.OpenLaw} {w : World} {K : PySem.W.Frag} {h : Heap} {mg : Str → Option Value} {fa : Addr} {f_bounds f_places_length f_same_lengths f_same_dimension f_plus f_scale f_mirror f_shift f_low_corner f_spans f_unit_of f_box_size f_normal f_is_unit f_associated f_is_symmetric f_is_palindromic f__law_cell f__law_draws f__law_is_integer f__law_is_place f__law_is_row f__law_same f__law_plus f__law_back f__law_row f__law_add f__law_scaled f__law_minus f__law_mirror f__law_moved f__law_corner f__law_top f__law_normal f__law_by_unit f__law_places f__law_drawn f__law_box f__law_is_error f__law_near_or_far f__law_first f__law_second f__law_truth f__law_zero_asked f__law_corners_asked f__law_box_count f__law_single_asked f__law_pair_asked f_law f_te B M Z O : Addr} (X : K.In h) (G : h.Ns mainGlobals mg) (hfa : mg "law" = some (.ref fa))
    {od_bounds an_bounds : Option Addr} {sl_bounds : Array (Option Value)} {oc_bounds kV_bounds dc_bounds pm_bounds cd_bounds ct_bounds : Value}
    {od_places_length an_places_length : Option Addr} {sl_places_length : Array (Option Value)} {oc_places_length kV_places_length dc_places_length pm_places_length cd_places_length ct_places_length : Value}
    {od_same_lengths an_same_lengths : Option Addr} {sl_same_lengths : Array (Option Value)} {oc_same_lengths kV_same_lengths dc_same_lengths pm_same_lengths cd_same_lengths ct_same_lengths : Value}
    {od_same_dimension an_same_dimension : Option Addr} {sl_same_dimension : Array (Option Value)} {oc_same_dimension kV_same_dimension dc_same_dimension pm_same_dimension cd_same_dimension ct_same_dimension : Value}
    {TD_same_dimension A0_same_dimension : Addr} {to_same_dimension uo_same_dimension : Option Addr} {tn_same_dimension un_same_dimension : Nat} {ts_same_dimension us_same_dimension : Array (Option Value)}
    {tc_same_dimension : Value}
    {od_plus an_plus : Option Addr} {sl_plus : Array (Option Value)} {oc_plus kV_plus dc_plus pm_plus cd_plus ct_plus : Value}
    {od_scale an_scale : Option Addr} {sl_scale : Array (Option Value)} {oc_scale kV_scale dc_scale pm_scale cd_scale ct_scale : Value}
    {od_mirror an_mirror : Option Addr} {sl_mirror : Array (Option Value)} {oc_mirror kV_mirror dc_mirror pm_mirror cd_mirror ct_mirror : Value}
    {od_shift an_shift : Option Addr} {sl_shift : Array (Option Value)} {oc_shift kV_shift dc_shift pm_shift cd_shift ct_shift : Value}
    {od_low_corner an_low_corner : Option Addr} {sl_low_corner : Array (Option Value)} {oc_low_corner kV_low_corner dc_low_corner pm_low_corner cd_low_corner ct_low_corner : Value}
    {od_spans an_spans : Option Addr} {sl_spans : Array (Option Value)} {oc_spans kV_spans dc_spans pm_spans cd_spans ct_spans : Value}
    {od_unit_of an_unit_of : Option Addr} {sl_unit_of : Array (Option Value)} {oc_unit_of kV_unit_of dc_unit_of pm_unit_of cd_unit_of ct_unit_of : Value}
    {od_box_size an_box_size : Option Addr} {sl_box_size : Array (Option Value)} {oc_box_size kV_box_size dc_box_size pm_box_size cd_box_size ct_box_size : Value}
    {od_normal an_normal : Option Addr} {sl_normal : Array (Option Value)} {oc_normal kV_normal dc_normal pm_normal cd_normal ct_normal : Value}
    {od_is_unit an_is_unit : Option Addr} {sl_is_unit : Array (Option Value)} {oc_is_unit kV_is_unit dc_is_unit pm_is_unit cd_is_unit ct_is_unit : Value}
    {od_associated an_associated : Option Addr} {sl_associated : Array (Option Value)} {oc_associated kV_associated dc_associated pm_associated cd_associated ct_associated : Value}
    {od_is_symmetric an_is_symmetric : Option Addr} {sl_is_symmetric : Array (Option Value)} {oc_is_symmetric kV_is_symmetric dc_is_symmetric pm_is_symmetric cd_is_symmetric ct_is_symmetric : Value}
    {od_is_palindromic an_is_palindromic : Option Addr} {sl_is_palindromic : Array (Option Value)} {oc_is_palindromic kV_is_palindromic dc_is_palindromic pm_is_palindromic cd_is_palindromic ct_is_palindromic : Value}
    {od__law_cell an__law_cell : Option Addr} {sl__law_cell : Array (Option Value)} {oc__law_cell kV__law_cell dc__law_cell pm__law_cell cd__law_cell ct__law_cell : Value}
    {od__law_draws an__law_draws : Option Addr} {sl__law_draws : Array (Option Value)} {oc__law_draws kV__law_draws dc__law_draws pm__law_draws cd__law_draws ct__law_draws : Value}
    {od__law_is_integer an__law_is_integer : Option Addr} {sl__law_is_integer : Array (Option Value)} {oc__law_is_integer kV__law_is_integer dc__law_is_integer pm__law_is_integer cd__law_is_integer ct__law_is_integer : Value}
    {od__law_is_place an__law_is_place : Option Addr} {sl__law_is_place : Array (Option Value)} {oc__law_is_place kV__law_is_place dc__law_is_place pm__law_is_place cd__law_is_place ct__law_is_place : Value}
    {od__law_is_row an__law_is_row : Option Addr} {sl__law_is_row : Array (Option Value)} {oc__law_is_row kV__law_is_row dc__law_is_row pm__law_is_row cd__law_is_row ct__law_is_row : Value}
    {od__law_same an__law_same : Option Addr} {sl__law_same : Array (Option Value)} {oc__law_same kV__law_same dc__law_same pm__law_same cd__law_same ct__law_same : Value}
    {od__law_plus an__law_plus : Option Addr} {sl__law_plus : Array (Option Value)} {oc__law_plus kV__law_plus dc__law_plus pm__law_plus cd__law_plus ct__law_plus : Value}
    {od__law_back an__law_back : Option Addr} {sl__law_back : Array (Option Value)} {oc__law_back kV__law_back dc__law_back pm__law_back cd__law_back ct__law_back : Value}
    {od__law_row an__law_row : Option Addr} {sl__law_row : Array (Option Value)} {oc__law_row kV__law_row dc__law_row pm__law_row cd__law_row ct__law_row : Value}
    {od__law_add an__law_add : Option Addr} {sl__law_add : Array (Option Value)} {oc__law_add kV__law_add dc__law_add pm__law_add cd__law_add ct__law_add : Value}
    {od__law_scaled an__law_scaled : Option Addr} {sl__law_scaled : Array (Option Value)} {oc__law_scaled kV__law_scaled dc__law_scaled pm__law_scaled cd__law_scaled ct__law_scaled : Value}
    {od__law_minus an__law_minus : Option Addr} {sl__law_minus : Array (Option Value)} {oc__law_minus kV__law_minus dc__law_minus pm__law_minus cd__law_minus ct__law_minus : Value}
    {od__law_mirror an__law_mirror : Option Addr} {sl__law_mirror : Array (Option Value)} {oc__law_mirror kV__law_mirror dc__law_mirror pm__law_mirror cd__law_mirror ct__law_mirror : Value}
    {od__law_moved an__law_moved : Option Addr} {sl__law_moved : Array (Option Value)} {oc__law_moved kV__law_moved dc__law_moved pm__law_moved cd__law_moved ct__law_moved : Value}
    {od__law_corner an__law_corner : Option Addr} {sl__law_corner : Array (Option Value)} {oc__law_corner kV__law_corner dc__law_corner pm__law_corner cd__law_corner ct__law_corner : Value}
    {od__law_top an__law_top : Option Addr} {sl__law_top : Array (Option Value)} {oc__law_top kV__law_top dc__law_top pm__law_top cd__law_top ct__law_top : Value}
    {od__law_normal an__law_normal : Option Addr} {sl__law_normal : Array (Option Value)} {oc__law_normal kV__law_normal dc__law_normal pm__law_normal cd__law_normal ct__law_normal : Value}
    {od__law_by_unit an__law_by_unit : Option Addr} {sl__law_by_unit : Array (Option Value)} {oc__law_by_unit kV__law_by_unit dc__law_by_unit pm__law_by_unit cd__law_by_unit ct__law_by_unit : Value}
    {od__law_places an__law_places : Option Addr} {sl__law_places : Array (Option Value)} {oc__law_places kV__law_places dc__law_places pm__law_places cd__law_places ct__law_places : Value}
    {od__law_drawn an__law_drawn : Option Addr} {sl__law_drawn : Array (Option Value)} {oc__law_drawn kV__law_drawn dc__law_drawn pm__law_drawn cd__law_drawn ct__law_drawn : Value}
    {od__law_box an__law_box : Option Addr} {sl__law_box : Array (Option Value)} {oc__law_box kV__law_box dc__law_box pm__law_box cd__law_box ct__law_box : Value}
    {od__law_is_error an__law_is_error : Option Addr} {sl__law_is_error : Array (Option Value)} {oc__law_is_error kV__law_is_error dc__law_is_error pm__law_is_error cd__law_is_error ct__law_is_error : Value}
    {od__law_near_or_far an__law_near_or_far : Option Addr} {sl__law_near_or_far : Array (Option Value)} {oc__law_near_or_far kV__law_near_or_far dc__law_near_or_far pm__law_near_or_far cd__law_near_or_far ct__law_near_or_far : Value}
    {od__law_first an__law_first : Option Addr} {sl__law_first : Array (Option Value)} {oc__law_first kV__law_first dc__law_first pm__law_first cd__law_first ct__law_first : Value}
    {od__law_second an__law_second : Option Addr} {sl__law_second : Array (Option Value)} {oc__law_second kV__law_second dc__law_second pm__law_second cd__law_second ct__law_second : Value}
    {od__law_truth an__law_truth : Option Addr} {sl__law_truth : Array (Option Value)} {oc__law_truth kV__law_truth dc__law_truth pm__law_truth cd__law_truth ct__law_truth : Value}
    {od__law_zero_asked an__law_zero_asked : Option Addr} {sl__law_zero_asked : Array (Option Value)} {oc__law_zero_asked kV__law_zero_asked dc__law_zero_asked pm__law_zero_asked cd__law_zero_asked ct__law_zero_asked : Value}
    {od__law_corners_asked an__law_corners_asked : Option Addr} {sl__law_corners_asked : Array (Option Value)} {oc__law_corners_asked kV__law_corners_asked dc__law_corners_asked pm__law_corners_asked cd__law_corners_asked ct__law_corners_asked : Value}
    {od__law_box_count an__law_box_count : Option Addr} {sl__law_box_count : Array (Option Value)} {oc__law_box_count kV__law_box_count dc__law_box_count pm__law_box_count cd__law_box_count ct__law_box_count : Value}
    {od__law_single_asked an__law_single_asked : Option Addr} {sl__law_single_asked : Array (Option Value)} {oc__law_single_asked kV__law_single_asked dc__law_single_asked pm__law_single_asked cd__law_single_asked ct__law_single_asked : Value}
    {od__law_pair_asked an__law_pair_asked : Option Addr} {sl__law_pair_asked : Array (Option Value)} {oc__law_pair_asked kV__law_pair_asked dc__law_pair_asked pm__law_pair_asked cd__law_pair_asked ct__law_pair_asked : Value}
    {od_law an_law : Option Addr} {sl_law : Array (Option Value)} {oc_law kV_law dc_law pm_law cd_law ct_law : Value}
    {od_te an_te : Option Addr} {sl_te : Array (Option Value)} {oc_te kV_te dc_te pm_te cd_te ct_te : Value}
    {nm_M q_M : Str} {N_M : Addr} {bs_M bm_M : List Value} {sn_M : List Str} {sub_M : List Value} {ab_M : Bool} {col_M : Option Bool} {dd_M : Option Addr} {m0_M m1_M m3_M m5_M : Option Value} {tk_M : Tok}
    {nm_Z q_Z : Str} {N_Z : Addr} {bs_Z bm_Z : List Value} {sn_Z : List Str} {sub_Z : List Value} {ab_Z : Bool} {col_Z : Option Bool} {dd_Z : Option Addr} {m0_Z m1_Z m3_Z m5_Z : Option Value} {tk_Z : Tok}
    (z_len : PySem.W.nsIn K mainGlobals "len" = some none)
    (z_int : PySem.W.nsIn K mainGlobals "int" = some none)
    (z_str : PySem.W.nsIn K mainGlobals "str" = some none)
    (z_bool : PySem.W.nsIn K mainGlobals "bool" = some none)
    (z_list : PySem.W.nsIn K mainGlobals "list" = some none)
    (z_tuple : PySem.W.nsIn K mainGlobals "tuple" = some none)
    (z_range : PySem.W.nsIn K mainGlobals "range" = some none)
    (z_enumerate : PySem.W.nsIn K mainGlobals "enumerate" = some none)
    (z_isinstance : PySem.W.nsIn K mainGlobals "isinstance" = some none)
    (z_sorted : PySem.W.nsIn K mainGlobals "sorted" = some none)
    (z_abs : PySem.W.nsIn K mainGlobals "abs" = some none)
    (z_any : PySem.W.nsIn K mainGlobals "any" = some none)
    (z_min : PySem.W.nsIn K mainGlobals "min" = some none)
    (z_max : PySem.W.nsIn K mainGlobals "max" = some none)
    (z_zip : PySem.W.nsIn K mainGlobals "zip" = some none)
    (z_ValueError : PySem.W.nsIn K mainGlobals "ValueError" = some none)
    (a_bounds : PySem.W.nsIn K mainGlobals "bounds" = some (some (.ref f_bounds)))
    (l_bounds : K.lookup f_bounds = some ⟨oc_bounds, od_bounds, .func (PySem.W.fnOf "bounds" "bounds" (C8.fnArgs s_bounds) (C8.fnBody s_bounds) (C8.fnScope s_bounds) .none kV_bounds dc_bounds pm_bounds an_bounds cd_bounds ct_bounds), sl_bounds⟩)
    (co_bounds : PySem.W.codeIn K cd_bounds "bounds" = true)
    (k_bounds : PySem.W.keepIn K (.ref f_bounds) = true)
    (a_places_length : PySem.W.nsIn K mainGlobals "places_length" = some (some (.ref f_places_length)))
    (l_places_length : K.lookup f_places_length = some ⟨oc_places_length, od_places_length, .func (PySem.W.fnOf "places_length" "places_length" (C8.fnArgs s_places_length) (C8.fnBody s_places_length) (C8.fnScope s_places_length) .none kV_places_length dc_places_length pm_places_length an_places_length cd_places_length ct_places_length), sl_places_length⟩)
    (co_places_length : PySem.W.codeIn K cd_places_length "places_length" = true)
    (k_places_length : PySem.W.keepIn K (.ref f_places_length) = true)
    (a_same_lengths : PySem.W.nsIn K mainGlobals "same_lengths" = some (some (.ref f_same_lengths)))
    (l_same_lengths : K.lookup f_same_lengths = some ⟨oc_same_lengths, od_same_lengths, .func (PySem.W.fnOf "same_lengths" "same_lengths" (C8.fnArgs s_same_lengths) (C8.fnBody s_same_lengths) (C8.fnScope s_same_lengths) .none kV_same_lengths dc_same_lengths pm_same_lengths an_same_lengths cd_same_lengths ct_same_lengths), sl_same_lengths⟩)
    (co_same_lengths : PySem.W.codeIn K cd_same_lengths "same_lengths" = true)
    (k_same_lengths : PySem.W.keepIn K (.ref f_same_lengths) = true)
    (a_same_dimension : PySem.W.nsIn K mainGlobals "same_dimension" = some (some (.ref f_same_dimension)))
    (l_same_dimension : K.lookup f_same_dimension = some ⟨oc_same_dimension, od_same_dimension, .func (PySem.W.fnOf "same_dimension" "same_dimension" (C8.fnArgs s_same_dimension) (C8.fnBody s_same_dimension) (C8.fnScope s_same_dimension) (.ref TD_same_dimension) kV_same_dimension dc_same_dimension pm_same_dimension an_same_dimension cd_same_dimension ct_same_dimension), sl_same_dimension⟩)
    (lt_same_dimension : K.lookup TD_same_dimension = some ⟨tc_same_dimension, to_same_dimension, .seq #[.ref A0_same_dimension] tn_same_dimension, ts_same_dimension⟩)
    (lu_same_dimension : K.lookup A0_same_dimension = some ⟨.type "tuple", uo_same_dimension, .seq #[] un_same_dimension, us_same_dimension⟩)
    (co_same_dimension : PySem.W.codeIn K cd_same_dimension "same_dimension" = true)
    (k_same_dimension : PySem.W.keepIn K (.ref f_same_dimension) = true)
    (a_plus : PySem.W.nsIn K mainGlobals "plus" = some (some (.ref f_plus)))
    (l_plus : K.lookup f_plus = some ⟨oc_plus, od_plus, .func (PySem.W.fnOf "plus" "plus" (C8.fnArgs s_plus) (C8.fnBody s_plus) (C8.fnScope s_plus) .none kV_plus dc_plus pm_plus an_plus cd_plus ct_plus), sl_plus⟩)
    (co_plus : PySem.W.codeIn K cd_plus "plus" = true)
    (k_plus : PySem.W.keepIn K (.ref f_plus) = true)
    (a_scale : PySem.W.nsIn K mainGlobals "scale" = some (some (.ref f_scale)))
    (l_scale : K.lookup f_scale = some ⟨oc_scale, od_scale, .func (PySem.W.fnOf "scale" "scale" (C8.fnArgs s_scale) (C8.fnBody s_scale) (C8.fnScope s_scale) .none kV_scale dc_scale pm_scale an_scale cd_scale ct_scale), sl_scale⟩)
    (co_scale : PySem.W.codeIn K cd_scale "scale" = true)
    (k_scale : PySem.W.keepIn K (.ref f_scale) = true)
    (a_mirror : PySem.W.nsIn K mainGlobals "mirror" = some (some (.ref f_mirror)))
    (l_mirror : K.lookup f_mirror = some ⟨oc_mirror, od_mirror, .func (PySem.W.fnOf "mirror" "mirror" (C8.fnArgs s_mirror) (C8.fnBody s_mirror) (C8.fnScope s_mirror) .none kV_mirror dc_mirror pm_mirror an_mirror cd_mirror ct_mirror), sl_mirror⟩)
    (co_mirror : PySem.W.codeIn K cd_mirror "mirror" = true)
    (k_mirror : PySem.W.keepIn K (.ref f_mirror) = true)
    (a_shift : PySem.W.nsIn K mainGlobals "shift" = some (some (.ref f_shift)))
    (l_shift : K.lookup f_shift = some ⟨oc_shift, od_shift, .func (PySem.W.fnOf "shift" "shift" (C8.fnArgs s_shift) (C8.fnBody s_shift) (C8.fnScope s_shift) .none kV_shift dc_shift pm_shift an_shift cd_shift ct_shift), sl_shift⟩)
    (co_shift : PySem.W.codeIn K cd_shift "shift" = true)
    (k_shift : PySem.W.keepIn K (.ref f_shift) = true)
    (a_low_corner : PySem.W.nsIn K mainGlobals "low_corner" = some (some (.ref f_low_corner)))
    (l_low_corner : K.lookup f_low_corner = some ⟨oc_low_corner, od_low_corner, .func (PySem.W.fnOf "low_corner" "low_corner" (C8.fnArgs s_low_corner) (C8.fnBody s_low_corner) (C8.fnScope s_low_corner) .none kV_low_corner dc_low_corner pm_low_corner an_low_corner cd_low_corner ct_low_corner), sl_low_corner⟩)
    (co_low_corner : PySem.W.codeIn K cd_low_corner "low_corner" = true)
    (k_low_corner : PySem.W.keepIn K (.ref f_low_corner) = true)
    (a_spans : PySem.W.nsIn K mainGlobals "spans" = some (some (.ref f_spans)))
    (l_spans : K.lookup f_spans = some ⟨oc_spans, od_spans, .func (PySem.W.fnOf "spans" "spans" (C8.fnArgs s_spans) (C8.fnBody s_spans) (C8.fnScope s_spans) .none kV_spans dc_spans pm_spans an_spans cd_spans ct_spans), sl_spans⟩)
    (co_spans : PySem.W.codeIn K cd_spans "spans" = true)
    (k_spans : PySem.W.keepIn K (.ref f_spans) = true)
    (a_unit_of : PySem.W.nsIn K mainGlobals "unit_of" = some (some (.ref f_unit_of)))
    (l_unit_of : K.lookup f_unit_of = some ⟨oc_unit_of, od_unit_of, .func (PySem.W.fnOf "unit_of" "unit_of" (C8.fnArgs s_unit_of) (C8.fnBody s_unit_of) (C8.fnScope s_unit_of) .none kV_unit_of dc_unit_of pm_unit_of an_unit_of cd_unit_of ct_unit_of), sl_unit_of⟩)
    (co_unit_of : PySem.W.codeIn K cd_unit_of "unit_of" = true)
    (k_unit_of : PySem.W.keepIn K (.ref f_unit_of) = true)
    (a_box_size : PySem.W.nsIn K mainGlobals "box_size" = some (some (.ref f_box_size)))
    (l_box_size : K.lookup f_box_size = some ⟨oc_box_size, od_box_size, .func (PySem.W.fnOf "box_size" "box_size" (C8.fnArgs s_box_size) (C8.fnBody s_box_size) (C8.fnScope s_box_size) .none kV_box_size dc_box_size pm_box_size an_box_size cd_box_size ct_box_size), sl_box_size⟩)
    (co_box_size : PySem.W.codeIn K cd_box_size "box_size" = true)
    (k_box_size : PySem.W.keepIn K (.ref f_box_size) = true)
    (a_normal : PySem.W.nsIn K mainGlobals "normal" = some (some (.ref f_normal)))
    (l_normal : K.lookup f_normal = some ⟨oc_normal, od_normal, .func (PySem.W.fnOf "normal" "normal" (C8.fnArgs s_normal) (C8.fnBody s_normal) (C8.fnScope s_normal) .none kV_normal dc_normal pm_normal an_normal cd_normal ct_normal), sl_normal⟩)
    (co_normal : PySem.W.codeIn K cd_normal "normal" = true)
    (k_normal : PySem.W.keepIn K (.ref f_normal) = true)
    (a_is_unit : PySem.W.nsIn K mainGlobals "is_unit" = some (some (.ref f_is_unit)))
    (l_is_unit : K.lookup f_is_unit = some ⟨oc_is_unit, od_is_unit, .func (PySem.W.fnOf "is_unit" "is_unit" (C8.fnArgs s_is_unit) (C8.fnBody s_is_unit) (C8.fnScope s_is_unit) .none kV_is_unit dc_is_unit pm_is_unit an_is_unit cd_is_unit ct_is_unit), sl_is_unit⟩)
    (co_is_unit : PySem.W.codeIn K cd_is_unit "is_unit" = true)
    (k_is_unit : PySem.W.keepIn K (.ref f_is_unit) = true)
    (a_associated : PySem.W.nsIn K mainGlobals "associated" = some (some (.ref f_associated)))
    (l_associated : K.lookup f_associated = some ⟨oc_associated, od_associated, .func (PySem.W.fnOf "associated" "associated" (C8.fnArgs s_associated) (C8.fnBody s_associated) (C8.fnScope s_associated) .none kV_associated dc_associated pm_associated an_associated cd_associated ct_associated), sl_associated⟩)
    (co_associated : PySem.W.codeIn K cd_associated "associated" = true)
    (k_associated : PySem.W.keepIn K (.ref f_associated) = true)
    (a_is_symmetric : PySem.W.nsIn K mainGlobals "is_symmetric" = some (some (.ref f_is_symmetric)))
    (l_is_symmetric : K.lookup f_is_symmetric = some ⟨oc_is_symmetric, od_is_symmetric, .func (PySem.W.fnOf "is_symmetric" "is_symmetric" (C8.fnArgs s_is_symmetric) (C8.fnBody s_is_symmetric) (C8.fnScope s_is_symmetric) .none kV_is_symmetric dc_is_symmetric pm_is_symmetric an_is_symmetric cd_is_symmetric ct_is_symmetric), sl_is_symmetric⟩)
    (co_is_symmetric : PySem.W.codeIn K cd_is_symmetric "is_symmetric" = true)
    (k_is_symmetric : PySem.W.keepIn K (.ref f_is_symmetric) = true)
    (a_is_palindromic : PySem.W.nsIn K mainGlobals "is_palindromic" = some (some (.ref f_is_palindromic)))
    (l_is_palindromic : K.lookup f_is_palindromic = some ⟨oc_is_palindromic, od_is_palindromic, .func (PySem.W.fnOf "is_palindromic" "is_palindromic" (C8.fnArgs s_is_palindromic) (C8.fnBody s_is_palindromic) (C8.fnScope s_is_palindromic) .none kV_is_palindromic dc_is_palindromic pm_is_palindromic an_is_palindromic cd_is_palindromic ct_is_palindromic), sl_is_palindromic⟩)
    (co_is_palindromic : PySem.W.codeIn K cd_is_palindromic "is_palindromic" = true)
    (k_is_palindromic : PySem.W.keepIn K (.ref f_is_palindromic) = true)
    (a__law_cell : PySem.W.nsIn K mainGlobals "_law_cell" = some (some (.ref f__law_cell)))
    (l__law_cell : K.lookup f__law_cell = some ⟨oc__law_cell, od__law_cell, .func (PySem.W.fnOf "_law_cell" "_law_cell" (C8.fnArgs s__law_cell) (C8.fnBody s__law_cell) (C8.fnScope s__law_cell) .none kV__law_cell dc__law_cell pm__law_cell an__law_cell cd__law_cell ct__law_cell), sl__law_cell⟩)
    (co__law_cell : PySem.W.codeIn K cd__law_cell "_law_cell" = true)
    (k__law_cell : PySem.W.keepIn K (.ref f__law_cell) = true)
    (a__law_draws : PySem.W.nsIn K mainGlobals "_law_draws" = some (some (.ref f__law_draws)))
    (l__law_draws : K.lookup f__law_draws = some ⟨oc__law_draws, od__law_draws, .func (PySem.W.fnOf "_law_draws" "_law_draws" (C8.fnArgs s__law_draws) (C8.fnBody s__law_draws) (C8.fnScope s__law_draws) .none kV__law_draws dc__law_draws pm__law_draws an__law_draws cd__law_draws ct__law_draws), sl__law_draws⟩)
    (co__law_draws : PySem.W.codeIn K cd__law_draws "_law_draws" = true)
    (k__law_draws : PySem.W.keepIn K (.ref f__law_draws) = true)
    (a__law_is_integer : PySem.W.nsIn K mainGlobals "_law_is_integer" = some (some (.ref f__law_is_integer)))
    (l__law_is_integer : K.lookup f__law_is_integer = some ⟨oc__law_is_integer, od__law_is_integer, .func (PySem.W.fnOf "_law_is_integer" "_law_is_integer" (C8.fnArgs s__law_is_integer) (C8.fnBody s__law_is_integer) (C8.fnScope s__law_is_integer) .none kV__law_is_integer dc__law_is_integer pm__law_is_integer an__law_is_integer cd__law_is_integer ct__law_is_integer), sl__law_is_integer⟩)
    (co__law_is_integer : PySem.W.codeIn K cd__law_is_integer "_law_is_integer" = true)
    (k__law_is_integer : PySem.W.keepIn K (.ref f__law_is_integer) = true)
    (a__law_is_place : PySem.W.nsIn K mainGlobals "_law_is_place" = some (some (.ref f__law_is_place)))
    (l__law_is_place : K.lookup f__law_is_place = some ⟨oc__law_is_place, od__law_is_place, .func (PySem.W.fnOf "_law_is_place" "_law_is_place" (C8.fnArgs s__law_is_place) (C8.fnBody s__law_is_place) (C8.fnScope s__law_is_place) .none kV__law_is_place dc__law_is_place pm__law_is_place an__law_is_place cd__law_is_place ct__law_is_place), sl__law_is_place⟩)
    (co__law_is_place : PySem.W.codeIn K cd__law_is_place "_law_is_place" = true)
    (k__law_is_place : PySem.W.keepIn K (.ref f__law_is_place) = true)
    (a__law_is_row : PySem.W.nsIn K mainGlobals "_law_is_row" = some (some (.ref f__law_is_row)))
    (l__law_is_row : K.lookup f__law_is_row = some ⟨oc__law_is_row, od__law_is_row, .func (PySem.W.fnOf "_law_is_row" "_law_is_row" (C8.fnArgs s__law_is_row) (C8.fnBody s__law_is_row) (C8.fnScope s__law_is_row) .none kV__law_is_row dc__law_is_row pm__law_is_row an__law_is_row cd__law_is_row ct__law_is_row), sl__law_is_row⟩)
    (co__law_is_row : PySem.W.codeIn K cd__law_is_row "_law_is_row" = true)
    (k__law_is_row : PySem.W.keepIn K (.ref f__law_is_row) = true)
    (a__law_same : PySem.W.nsIn K mainGlobals "_law_same" = some (some (.ref f__law_same)))
    (l__law_same : K.lookup f__law_same = some ⟨oc__law_same, od__law_same, .func (PySem.W.fnOf "_law_same" "_law_same" (C8.fnArgs s__law_same) (C8.fnBody s__law_same) (C8.fnScope s__law_same) .none kV__law_same dc__law_same pm__law_same an__law_same cd__law_same ct__law_same), sl__law_same⟩)
    (co__law_same : PySem.W.codeIn K cd__law_same "_law_same" = true)
    (k__law_same : PySem.W.keepIn K (.ref f__law_same) = true)
    (a__law_plus : PySem.W.nsIn K mainGlobals "_law_plus" = some (some (.ref f__law_plus)))
    (l__law_plus : K.lookup f__law_plus = some ⟨oc__law_plus, od__law_plus, .func (PySem.W.fnOf "_law_plus" "_law_plus" (C8.fnArgs s__law_plus) (C8.fnBody s__law_plus) (C8.fnScope s__law_plus) .none kV__law_plus dc__law_plus pm__law_plus an__law_plus cd__law_plus ct__law_plus), sl__law_plus⟩)
    (co__law_plus : PySem.W.codeIn K cd__law_plus "_law_plus" = true)
    (k__law_plus : PySem.W.keepIn K (.ref f__law_plus) = true)
    (a__law_back : PySem.W.nsIn K mainGlobals "_law_back" = some (some (.ref f__law_back)))
    (l__law_back : K.lookup f__law_back = some ⟨oc__law_back, od__law_back, .func (PySem.W.fnOf "_law_back" "_law_back" (C8.fnArgs s__law_back) (C8.fnBody s__law_back) (C8.fnScope s__law_back) .none kV__law_back dc__law_back pm__law_back an__law_back cd__law_back ct__law_back), sl__law_back⟩)
    (co__law_back : PySem.W.codeIn K cd__law_back "_law_back" = true)
    (k__law_back : PySem.W.keepIn K (.ref f__law_back) = true)
    (a__law_row : PySem.W.nsIn K mainGlobals "_law_row" = some (some (.ref f__law_row)))
    (l__law_row : K.lookup f__law_row = some ⟨oc__law_row, od__law_row, .func (PySem.W.fnOf "_law_row" "_law_row" (C8.fnArgs s__law_row) (C8.fnBody s__law_row) (C8.fnScope s__law_row) .none kV__law_row dc__law_row pm__law_row an__law_row cd__law_row ct__law_row), sl__law_row⟩)
    (co__law_row : PySem.W.codeIn K cd__law_row "_law_row" = true)
    (k__law_row : PySem.W.keepIn K (.ref f__law_row) = true)
    (a__law_add : PySem.W.nsIn K mainGlobals "_law_add" = some (some (.ref f__law_add)))
    (l__law_add : K.lookup f__law_add = some ⟨oc__law_add, od__law_add, .func (PySem.W.fnOf "_law_add" "_law_add" (C8.fnArgs s__law_add) (C8.fnBody s__law_add) (C8.fnScope s__law_add) .none kV__law_add dc__law_add pm__law_add an__law_add cd__law_add ct__law_add), sl__law_add⟩)
    (co__law_add : PySem.W.codeIn K cd__law_add "_law_add" = true)
    (k__law_add : PySem.W.keepIn K (.ref f__law_add) = true)
    (a__law_scaled : PySem.W.nsIn K mainGlobals "_law_scaled" = some (some (.ref f__law_scaled)))
    (l__law_scaled : K.lookup f__law_scaled = some ⟨oc__law_scaled, od__law_scaled, .func (PySem.W.fnOf "_law_scaled" "_law_scaled" (C8.fnArgs s__law_scaled) (C8.fnBody s__law_scaled) (C8.fnScope s__law_scaled) .none kV__law_scaled dc__law_scaled pm__law_scaled an__law_scaled cd__law_scaled ct__law_scaled), sl__law_scaled⟩)
    (co__law_scaled : PySem.W.codeIn K cd__law_scaled "_law_scaled" = true)
    (k__law_scaled : PySem.W.keepIn K (.ref f__law_scaled) = true)
    (a__law_minus : PySem.W.nsIn K mainGlobals "_law_minus" = some (some (.ref f__law_minus)))
    (l__law_minus : K.lookup f__law_minus = some ⟨oc__law_minus, od__law_minus, .func (PySem.W.fnOf "_law_minus" "_law_minus" (C8.fnArgs s__law_minus) (C8.fnBody s__law_minus) (C8.fnScope s__law_minus) .none kV__law_minus dc__law_minus pm__law_minus an__law_minus cd__law_minus ct__law_minus), sl__law_minus⟩)
    (co__law_minus : PySem.W.codeIn K cd__law_minus "_law_minus" = true)
    (k__law_minus : PySem.W.keepIn K (.ref f__law_minus) = true)
    (a__law_mirror : PySem.W.nsIn K mainGlobals "_law_mirror" = some (some (.ref f__law_mirror)))
    (l__law_mirror : K.lookup f__law_mirror = some ⟨oc__law_mirror, od__law_mirror, .func (PySem.W.fnOf "_law_mirror" "_law_mirror" (C8.fnArgs s__law_mirror) (C8.fnBody s__law_mirror) (C8.fnScope s__law_mirror) .none kV__law_mirror dc__law_mirror pm__law_mirror an__law_mirror cd__law_mirror ct__law_mirror), sl__law_mirror⟩)
    (co__law_mirror : PySem.W.codeIn K cd__law_mirror "_law_mirror" = true)
    (k__law_mirror : PySem.W.keepIn K (.ref f__law_mirror) = true)
    (a__law_moved : PySem.W.nsIn K mainGlobals "_law_moved" = some (some (.ref f__law_moved)))
    (l__law_moved : K.lookup f__law_moved = some ⟨oc__law_moved, od__law_moved, .func (PySem.W.fnOf "_law_moved" "_law_moved" (C8.fnArgs s__law_moved) (C8.fnBody s__law_moved) (C8.fnScope s__law_moved) .none kV__law_moved dc__law_moved pm__law_moved an__law_moved cd__law_moved ct__law_moved), sl__law_moved⟩)
    (co__law_moved : PySem.W.codeIn K cd__law_moved "_law_moved" = true)
    (k__law_moved : PySem.W.keepIn K (.ref f__law_moved) = true)
    (a__law_corner : PySem.W.nsIn K mainGlobals "_law_corner" = some (some (.ref f__law_corner)))
    (l__law_corner : K.lookup f__law_corner = some ⟨oc__law_corner, od__law_corner, .func (PySem.W.fnOf "_law_corner" "_law_corner" (C8.fnArgs s__law_corner) (C8.fnBody s__law_corner) (C8.fnScope s__law_corner) .none kV__law_corner dc__law_corner pm__law_corner an__law_corner cd__law_corner ct__law_corner), sl__law_corner⟩)
    (co__law_corner : PySem.W.codeIn K cd__law_corner "_law_corner" = true)
    (k__law_corner : PySem.W.keepIn K (.ref f__law_corner) = true)
    (a__law_top : PySem.W.nsIn K mainGlobals "_law_top" = some (some (.ref f__law_top)))
    (l__law_top : K.lookup f__law_top = some ⟨oc__law_top, od__law_top, .func (PySem.W.fnOf "_law_top" "_law_top" (C8.fnArgs s__law_top) (C8.fnBody s__law_top) (C8.fnScope s__law_top) .none kV__law_top dc__law_top pm__law_top an__law_top cd__law_top ct__law_top), sl__law_top⟩)
    (co__law_top : PySem.W.codeIn K cd__law_top "_law_top" = true)
    (k__law_top : PySem.W.keepIn K (.ref f__law_top) = true)
    (a__law_normal : PySem.W.nsIn K mainGlobals "_law_normal" = some (some (.ref f__law_normal)))
    (l__law_normal : K.lookup f__law_normal = some ⟨oc__law_normal, od__law_normal, .func (PySem.W.fnOf "_law_normal" "_law_normal" (C8.fnArgs s__law_normal) (C8.fnBody s__law_normal) (C8.fnScope s__law_normal) .none kV__law_normal dc__law_normal pm__law_normal an__law_normal cd__law_normal ct__law_normal), sl__law_normal⟩)
    (co__law_normal : PySem.W.codeIn K cd__law_normal "_law_normal" = true)
    (k__law_normal : PySem.W.keepIn K (.ref f__law_normal) = true)
    (a__law_by_unit : PySem.W.nsIn K mainGlobals "_law_by_unit" = some (some (.ref f__law_by_unit)))
    (l__law_by_unit : K.lookup f__law_by_unit = some ⟨oc__law_by_unit, od__law_by_unit, .func (PySem.W.fnOf "_law_by_unit" "_law_by_unit" (C8.fnArgs s__law_by_unit) (C8.fnBody s__law_by_unit) (C8.fnScope s__law_by_unit) .none kV__law_by_unit dc__law_by_unit pm__law_by_unit an__law_by_unit cd__law_by_unit ct__law_by_unit), sl__law_by_unit⟩)
    (co__law_by_unit : PySem.W.codeIn K cd__law_by_unit "_law_by_unit" = true)
    (k__law_by_unit : PySem.W.keepIn K (.ref f__law_by_unit) = true)
    (a__law_places : PySem.W.nsIn K mainGlobals "_law_places" = some (some (.ref f__law_places)))
    (l__law_places : K.lookup f__law_places = some ⟨oc__law_places, od__law_places, .func (PySem.W.fnOf "_law_places" "_law_places" (C8.fnArgs s__law_places) (C8.fnBody s__law_places) (C8.fnScope s__law_places) .none kV__law_places dc__law_places pm__law_places an__law_places cd__law_places ct__law_places), sl__law_places⟩)
    (co__law_places : PySem.W.codeIn K cd__law_places "_law_places" = true)
    (k__law_places : PySem.W.keepIn K (.ref f__law_places) = true)
    (a__law_drawn : PySem.W.nsIn K mainGlobals "_law_drawn" = some (some (.ref f__law_drawn)))
    (l__law_drawn : K.lookup f__law_drawn = some ⟨oc__law_drawn, od__law_drawn, .func (PySem.W.fnOf "_law_drawn" "_law_drawn" (C8.fnArgs s__law_drawn) (C8.fnBody s__law_drawn) (C8.fnScope s__law_drawn) .none kV__law_drawn dc__law_drawn pm__law_drawn an__law_drawn cd__law_drawn ct__law_drawn), sl__law_drawn⟩)
    (co__law_drawn : PySem.W.codeIn K cd__law_drawn "_law_drawn" = true)
    (k__law_drawn : PySem.W.keepIn K (.ref f__law_drawn) = true)
    (a__law_box : PySem.W.nsIn K mainGlobals "_law_box" = some (some (.ref f__law_box)))
    (l__law_box : K.lookup f__law_box = some ⟨oc__law_box, od__law_box, .func (PySem.W.fnOf "_law_box" "_law_box" (C8.fnArgs s__law_box) (C8.fnBody s__law_box) (C8.fnScope s__law_box) .none kV__law_box dc__law_box pm__law_box an__law_box cd__law_box ct__law_box), sl__law_box⟩)
    (co__law_box : PySem.W.codeIn K cd__law_box "_law_box" = true)
    (k__law_box : PySem.W.keepIn K (.ref f__law_box) = true)
    (a__law_is_error : PySem.W.nsIn K mainGlobals "_law_is_error" = some (some (.ref f__law_is_error)))
    (l__law_is_error : K.lookup f__law_is_error = some ⟨oc__law_is_error, od__law_is_error, .func (PySem.W.fnOf "_law_is_error" "_law_is_error" (C8.fnArgs s__law_is_error) (C8.fnBody s__law_is_error) (C8.fnScope s__law_is_error) .none kV__law_is_error dc__law_is_error pm__law_is_error an__law_is_error cd__law_is_error ct__law_is_error), sl__law_is_error⟩)
    (co__law_is_error : PySem.W.codeIn K cd__law_is_error "_law_is_error" = true)
    (k__law_is_error : PySem.W.keepIn K (.ref f__law_is_error) = true)
    (a__law_near_or_far : PySem.W.nsIn K mainGlobals "_law_near_or_far" = some (some (.ref f__law_near_or_far)))
    (l__law_near_or_far : K.lookup f__law_near_or_far = some ⟨oc__law_near_or_far, od__law_near_or_far, .func (PySem.W.fnOf "_law_near_or_far" "_law_near_or_far" (C8.fnArgs s__law_near_or_far) (C8.fnBody s__law_near_or_far) (C8.fnScope s__law_near_or_far) .none kV__law_near_or_far dc__law_near_or_far pm__law_near_or_far an__law_near_or_far cd__law_near_or_far ct__law_near_or_far), sl__law_near_or_far⟩)
    (co__law_near_or_far : PySem.W.codeIn K cd__law_near_or_far "_law_near_or_far" = true)
    (k__law_near_or_far : PySem.W.keepIn K (.ref f__law_near_or_far) = true)
    (a__law_first : PySem.W.nsIn K mainGlobals "_law_first" = some (some (.ref f__law_first)))
    (l__law_first : K.lookup f__law_first = some ⟨oc__law_first, od__law_first, .func (PySem.W.fnOf "_law_first" "_law_first" (C8.fnArgs s__law_first) (C8.fnBody s__law_first) (C8.fnScope s__law_first) .none kV__law_first dc__law_first pm__law_first an__law_first cd__law_first ct__law_first), sl__law_first⟩)
    (co__law_first : PySem.W.codeIn K cd__law_first "_law_first" = true)
    (k__law_first : PySem.W.keepIn K (.ref f__law_first) = true)
    (a__law_second : PySem.W.nsIn K mainGlobals "_law_second" = some (some (.ref f__law_second)))
    (l__law_second : K.lookup f__law_second = some ⟨oc__law_second, od__law_second, .func (PySem.W.fnOf "_law_second" "_law_second" (C8.fnArgs s__law_second) (C8.fnBody s__law_second) (C8.fnScope s__law_second) .none kV__law_second dc__law_second pm__law_second an__law_second cd__law_second ct__law_second), sl__law_second⟩)
    (co__law_second : PySem.W.codeIn K cd__law_second "_law_second" = true)
    (k__law_second : PySem.W.keepIn K (.ref f__law_second) = true)
    (a__law_truth : PySem.W.nsIn K mainGlobals "_law_truth" = some (some (.ref f__law_truth)))
    (l__law_truth : K.lookup f__law_truth = some ⟨oc__law_truth, od__law_truth, .func (PySem.W.fnOf "_law_truth" "_law_truth" (C8.fnArgs s__law_truth) (C8.fnBody s__law_truth) (C8.fnScope s__law_truth) .none kV__law_truth dc__law_truth pm__law_truth an__law_truth cd__law_truth ct__law_truth), sl__law_truth⟩)
    (co__law_truth : PySem.W.codeIn K cd__law_truth "_law_truth" = true)
    (k__law_truth : PySem.W.keepIn K (.ref f__law_truth) = true)
    (a__law_zero_asked : PySem.W.nsIn K mainGlobals "_law_zero_asked" = some (some (.ref f__law_zero_asked)))
    (l__law_zero_asked : K.lookup f__law_zero_asked = some ⟨oc__law_zero_asked, od__law_zero_asked, .func (PySem.W.fnOf "_law_zero_asked" "_law_zero_asked" (C8.fnArgs s__law_zero_asked) (C8.fnBody s__law_zero_asked) (C8.fnScope s__law_zero_asked) .none kV__law_zero_asked dc__law_zero_asked pm__law_zero_asked an__law_zero_asked cd__law_zero_asked ct__law_zero_asked), sl__law_zero_asked⟩)
    (co__law_zero_asked : PySem.W.codeIn K cd__law_zero_asked "_law_zero_asked" = true)
    (k__law_zero_asked : PySem.W.keepIn K (.ref f__law_zero_asked) = true)
    (a__law_corners_asked : PySem.W.nsIn K mainGlobals "_law_corners_asked" = some (some (.ref f__law_corners_asked)))
    (l__law_corners_asked : K.lookup f__law_corners_asked = some ⟨oc__law_corners_asked, od__law_corners_asked, .func (PySem.W.fnOf "_law_corners_asked" "_law_corners_asked" (C8.fnArgs s__law_corners_asked) (C8.fnBody s__law_corners_asked) (C8.fnScope s__law_corners_asked) .none kV__law_corners_asked dc__law_corners_asked pm__law_corners_asked an__law_corners_asked cd__law_corners_asked ct__law_corners_asked), sl__law_corners_asked⟩)
    (co__law_corners_asked : PySem.W.codeIn K cd__law_corners_asked "_law_corners_asked" = true)
    (k__law_corners_asked : PySem.W.keepIn K (.ref f__law_corners_asked) = true)
    (a__law_box_count : PySem.W.nsIn K mainGlobals "_law_box_count" = some (some (.ref f__law_box_count)))
    (l__law_box_count : K.lookup f__law_box_count = some ⟨oc__law_box_count, od__law_box_count, .func (PySem.W.fnOf "_law_box_count" "_law_box_count" (C8.fnArgs s__law_box_count) (C8.fnBody s__law_box_count) (C8.fnScope s__law_box_count) .none kV__law_box_count dc__law_box_count pm__law_box_count an__law_box_count cd__law_box_count ct__law_box_count), sl__law_box_count⟩)
    (co__law_box_count : PySem.W.codeIn K cd__law_box_count "_law_box_count" = true)
    (k__law_box_count : PySem.W.keepIn K (.ref f__law_box_count) = true)
    (a__law_single_asked : PySem.W.nsIn K mainGlobals "_law_single_asked" = some (some (.ref f__law_single_asked)))
    (l__law_single_asked : K.lookup f__law_single_asked = some ⟨oc__law_single_asked, od__law_single_asked, .func (PySem.W.fnOf "_law_single_asked" "_law_single_asked" (C8.fnArgs s__law_single_asked) (C8.fnBody s__law_single_asked) (C8.fnScope s__law_single_asked) .none kV__law_single_asked dc__law_single_asked pm__law_single_asked an__law_single_asked cd__law_single_asked ct__law_single_asked), sl__law_single_asked⟩)
    (co__law_single_asked : PySem.W.codeIn K cd__law_single_asked "_law_single_asked" = true)
    (k__law_single_asked : PySem.W.keepIn K (.ref f__law_single_asked) = true)
    (a__law_pair_asked : PySem.W.nsIn K mainGlobals "_law_pair_asked" = some (some (.ref f__law_pair_asked)))
    (l__law_pair_asked : K.lookup f__law_pair_asked = some ⟨oc__law_pair_asked, od__law_pair_asked, .func (PySem.W.fnOf "_law_pair_asked" "_law_pair_asked" (C8.fnArgs s__law_pair_asked) (C8.fnBody s__law_pair_asked) (C8.fnScope s__law_pair_asked) .none kV__law_pair_asked dc__law_pair_asked pm__law_pair_asked an__law_pair_asked cd__law_pair_asked ct__law_pair_asked), sl__law_pair_asked⟩)
    (co__law_pair_asked : PySem.W.codeIn K cd__law_pair_asked "_law_pair_asked" = true)
    (k__law_pair_asked : PySem.W.keepIn K (.ref f__law_pair_asked) = true)
    (a_law : PySem.W.nsIn K mainGlobals "law" = some (some (.ref f_law)))
    (l_law : K.lookup f_law = some ⟨oc_law, od_law, .func (PySem.W.fnOf "law" "law" (C8.fnArgs s_law) (C8.fnBody s_law) (C8.fnScope s_law) .none kV_law dc_law pm_law an_law cd_law ct_law), sl_law⟩)
    (co_law : PySem.W.codeIn K cd_law "law" = true)
    (k_law : PySem.W.keepIn K (.ref f_law) = true)
    (a_te : PySem.W.findIn K (.ref B) "__init__" = some (some (.ref f_te)))
    (l_te : K.lookup f_te = some ⟨oc_te, od_te, .func (PySem.W.fnOf "__init__" "TableError.__init__" (C8.fnArgs s_TableError___init__) (C8.fnBody s_TableError___init__) (C8.fnScope s_TableError___init__) .none kV_te dc_te pm_te an_te cd_te ct_te), sl_te⟩)
    (co_te : PySem.W.codeIn K cd_te "TableError.__init__" = true)
    (k_te : PySem.W.keepIn K (.ref f_te) = true)
    (g_B : PySem.W.nsIn K mainGlobals "TableError" = some (some (.ref B)))
    (g_M : PySem.W.nsIn K mainGlobals "MixedDimensions" = some (some (.ref M)))
    (g_Z : PySem.W.nsIn K mainGlobals "ZeroRow" = some (some (.ref Z)))
    (g_O : PySem.W.nsIn K mainGlobals "OneDirectionOnly" = some (some (.ref O)))
    (xl_M : K.lookup M = some (excClassObj nm_M q_M M N_M bs_M bm_M true sn_M sub_M ab_M col_M dd_M m0_M m1_M (some (.str "MixedDimensions" tk_M)) m3_M m5_M "ValueError.__new__"))
    (vb_M : PySem.HandSPX.refsVE bm_M = true)
    (sa_M : PySem.W.findIn K (.ref M) "__setattr__" = some (some (.builtin "object.__setattr__")))
    (ex_M : PySem.W.subIn K (.ref M) (.type "BaseException") = some true)
    (ty_M : PySem.W.typeIn K (.ref M) = some (.type "type"))
    (kc_M : PySem.W.keepIn K (.ref M) = true)
    (ga_M : PySem.W.findIn K (.ref M) "__getattribute__" = some (some (.builtin "BaseException.__getattribute__")))
    (gg_M : PySem.W.findIn K (.ref M) "__getattr__" = some none)
    (hd_M : PySem.W.hasDictIn K M = true)
    (ha_M : PySem.W.findIn K (.ref M) "__class__" = some (some (.builtin "object.__class__")))
    (mr_M : PySem.W.mroIn K M (.type "object") = some true)
    (rd_M : PySem.W.readsIn K M (.type "type") = true)
    (fn_M : PySem.W.findCls K (.ref M) (.type "type") "__name__" = some (.get (.builtin "getset_descriptor.__get__") (.builtin "type.__name__") (.ref M) (.type "type")))
    (nw_M : PySem.W.findIn K (.ref M) "word" = some none)
    (ni_M : PySem.W.findIn K (.ref M) "index" = some none)
    (in_M : PySem.W.findIn K (.ref M) "__init__" = some (some (.ref f_te)))
    (xl_Z : K.lookup Z = some (excClassObj nm_Z q_Z Z N_Z bs_Z bm_Z true sn_Z sub_Z ab_Z col_Z dd_Z m0_Z m1_Z (some (.str "ZeroRow" tk_Z)) m3_Z m5_Z "ValueError.__new__"))
    (vb_Z : PySem.HandSPX.refsVE bm_Z = true)
    (sa_Z : PySem.W.findIn K (.ref Z) "__setattr__" = some (some (.builtin "object.__setattr__")))
    (ex_Z : PySem.W.subIn K (.ref Z) (.type "BaseException") = some true)
    (ty_Z : PySem.W.typeIn K (.ref Z) = some (.type "type"))
    (kc_Z : PySem.W.keepIn K (.ref Z) = true)
    (ga_Z : PySem.W.findIn K (.ref Z) "__getattribute__" = some (some (.builtin "BaseException.__getattribute__")))
    (gg_Z : PySem.W.findIn K (.ref Z) "__getattr__" = some none)
    (hd_Z : PySem.W.hasDictIn K Z = true)
    (ha_Z : PySem.W.findIn K (.ref Z) "__class__" = some (some (.builtin "object.__class__")))
    (mr_Z : PySem.W.mroIn K Z (.type "object") = some true)
    (rd_Z : PySem.W.readsIn K Z (.type "type") = true)
    (fn_Z : PySem.W.findCls K (.ref Z) (.type "type") "__name__" = some (.get (.builtin "getset_descriptor.__get__") (.builtin "type.__name__") (.ref Z) (.type "type")))
    (nw_Z : PySem.W.findIn K (.ref Z) "word" = some none)
    (ni_Z : PySem.W.findIn K (.ref Z) "index" = some none)
    (in_Z : PySem.W.findIn K (.ref Z) "__init__" = some (some (.ref f_te)))
    (hn : PySem.W.specialIn K (.builtin "object.__class__") "__get__" = some (some (.builtin "getset_descriptor.__get__")))
    (ht : PySem.W.takesIn K (.builtin "object.__class__") = some true)
    (ti_te : PySem.W.typeIn K (.ref f_te) = some (.type "function"))
    (xM : PySem.W.exmOne K (.ref M) (.ref B) = some true)
    (xZ : PySem.W.exmOne K (.ref Z) (.ref B) = some true)
    (kBM : PySem.W.kitOne K (.ref M) (.ref B) = some true)
    (kVM : PySem.W.kitOne K (.ref M) (.type "ValueError") = some true)
    (kBZ : PySem.W.kitOne K (.ref Z) (.ref B) = some true)
    (kVZ : PySem.W.kitOne K (.ref Z) (.type "ValueError") = some true)
    (k1 : PySem.W.kitOne K (.ref Z) (.ref Z) = some true)
    (k2 : PySem.W.kitOne K (.ref Z) (.ref M) = some false)
    (k3 : PySem.W.kitOne K (.ref Z) (.ref O) = some false)
    (k4 : PySem.W.kitOne K (.ref M) (.ref M) = some true)
    (k5 : PySem.W.kitOne K (.ref M) (.ref Z) = some false)
    (k6 : PySem.W.kitOne K (.ref M) (.ref O) = some false) :
    ∃ fd : FuncData, (∀ (s : Shared) (v : Value), BindsTo s fd ⟨[v], []⟩ [("_law_script", v)]) ∧ ∀ base : Heap, K.In base → base.Ns mainGlobals mg → FnOk l.prog w K mg base L2.CX0 9 fa fd ["_law_script"] (spLaw K) := by
  have e := hfa.symm.trans (PySem.W.mg_of X G a_law)
  cases e
  have T : Bi mg := ⟨PySem.W.mg_none_of X G z_len, PySem.W.mg_none_of X G z_int, PySem.W.mg_none_of X G z_str, PySem.W.mg_none_of X G z_bool, PySem.W.mg_none_of X G z_list, PySem.W.mg_none_of X G z_tuple, PySem.W.mg_none_of X G z_range, PySem.W.mg_none_of X G z_enumerate, PySem.W.mg_none_of X G z_isinstance, PySem.W.mg_none_of X G z_sorted, PySem.W.mg_none_of X G z_abs, PySem.W.mg_none_of X G z_any, PySem.W.mg_none_of X G z_min, PySem.W.mg_none_of X G z_max, PySem.W.mg_none_of X G z_zip⟩
  have D_bounds : C8.Def K mg "bounds" s_bounds f_bounds _ := ⟨⟨⟨_, _, _, _, _, _, _, _, _, _, rfl, l_bounds, co_bounds⟩⟩, PySem.W.mg_of X G a_bounds, k_bounds⟩
  have b_bounds := D_bounds.fn.binds (ps := ["row"]) rfl fun _ _ _ _ _ _ us hl => match us, hl with | [_], _ => rfl
  have D_places_length : C8.Def K mg "places_length" s_places_length f_places_length _ := ⟨⟨⟨_, _, _, _, _, _, _, _, _, _, rfl, l_places_length, co_places_length⟩⟩, PySem.W.mg_of X G a_places_length, k_places_length⟩
  have b_places_length := D_places_length.fn.binds (ps := ["row"]) rfl fun _ _ _ _ _ _ us hl => match us, hl with | [_], _ => rfl
  have D_same_lengths : C8.Def K mg "same_lengths" s_same_lengths f_same_lengths _ := ⟨⟨⟨_, _, _, _, _, _, _, _, _, _, rfl, l_same_lengths, co_same_lengths⟩⟩, PySem.W.mg_of X G a_same_lengths, k_same_lengths⟩
  have b_same_lengths := D_same_lengths.fn.binds (ps := ["lengths"]) rfl fun _ _ _ _ _ _ us hl => match us, hl with | [_], _ => rfl
  have D_same_dimension : C8.Def K mg "same_dimension" s_same_dimension f_same_dimension _ := ⟨⟨⟨_, _, _, _, _, _, _, _, _, _, rfl, l_same_dimension, co_same_dimension⟩⟩, PySem.W.mg_of X G a_same_dimension, k_same_dimension⟩
  have D_plus : C8.Def K mg "plus" s_plus f_plus _ := ⟨⟨⟨_, _, _, _, _, _, _, _, _, _, rfl, l_plus, co_plus⟩⟩, PySem.W.mg_of X G a_plus, k_plus⟩
  have b_plus := D_plus.fn.binds (ps := ["first", "second"]) rfl fun _ _ _ _ _ _ us hl => match us, hl with | [_, _], _ => rfl
  have D_scale : C8.Def K mg "scale" s_scale f_scale _ := ⟨⟨⟨_, _, _, _, _, _, _, _, _, _, rfl, l_scale, co_scale⟩⟩, PySem.W.mg_of X G a_scale, k_scale⟩
  have b_scale := D_scale.fn.binds (ps := ["row", "factor"]) rfl fun _ _ _ _ _ _ us hl => match us, hl with | [_, _], _ => rfl
  have D_mirror : C8.Def K mg "mirror" s_mirror f_mirror _ := ⟨⟨⟨_, _, _, _, _, _, _, _, _, _, rfl, l_mirror, co_mirror⟩⟩, PySem.W.mg_of X G a_mirror, k_mirror⟩
  have b_mirror := D_mirror.fn.binds (ps := ["row"]) rfl fun _ _ _ _ _ _ us hl => match us, hl with | [_], _ => rfl
  have D_shift : C8.Def K mg "shift" s_shift f_shift _ := ⟨⟨⟨_, _, _, _, _, _, _, _, _, _, rfl, l_shift, co_shift⟩⟩, PySem.W.mg_of X G a_shift, k_shift⟩
  have b_shift := D_shift.fn.binds (ps := ["row", "by"]) rfl fun _ _ _ _ _ _ us hl => match us, hl with | [_, _], _ => rfl
  have D_low_corner : C8.Def K mg "low_corner" s_low_corner f_low_corner _ := ⟨⟨⟨_, _, _, _, _, _, _, _, _, _, rfl, l_low_corner, co_low_corner⟩⟩, PySem.W.mg_of X G a_low_corner, k_low_corner⟩
  have b_low_corner := D_low_corner.fn.binds (ps := ["row"]) rfl fun _ _ _ _ _ _ us hl => match us, hl with | [_], _ => rfl
  have D_spans : C8.Def K mg "spans" s_spans f_spans _ := ⟨⟨⟨_, _, _, _, _, _, _, _, _, _, rfl, l_spans, co_spans⟩⟩, PySem.W.mg_of X G a_spans, k_spans⟩
  have b_spans := D_spans.fn.binds (ps := ["row"]) rfl fun _ _ _ _ _ _ us hl => match us, hl with | [_], _ => rfl
  have D_unit_of : C8.Def K mg "unit_of" s_unit_of f_unit_of _ := ⟨⟨⟨_, _, _, _, _, _, _, _, _, _, rfl, l_unit_of, co_unit_of⟩⟩, PySem.W.mg_of X G a_unit_of, k_unit_of⟩
  have b_unit_of := D_unit_of.fn.binds (ps := ["row"]) rfl fun _ _ _ _ _ _ us hl => match us, hl with | [_], _ => rfl
  have D_box_size : C8.Def K mg "box_size" s_box_size f_box_size _ := ⟨⟨⟨_, _, _, _, _, _, _, _, _, _, rfl, l_box_size, co_box_size⟩⟩, PySem.W.mg_of X G a_box_size, k_box_size⟩
  have b_box_size := D_box_size.fn.binds (ps := ["row"]) rfl fun _ _ _ _ _ _ us hl => match us, hl with | [_], _ => rfl
  have D_normal : C8.Def K mg "normal" s_normal f_normal _ := ⟨⟨⟨_, _, _, _, _, _, _, _, _, _, rfl, l_normal, co_normal⟩⟩, PySem.W.mg_of X G a_normal, k_normal⟩
  have b_normal := D_normal.fn.binds (ps := ["row"]) rfl fun _ _ _ _ _ _ us hl => match us, hl with | [_], _ => rfl
  have D_is_unit : C8.Def K mg "is_unit" s_is_unit f_is_unit _ := ⟨⟨⟨_, _, _, _, _, _, _, _, _, _, rfl, l_is_unit, co_is_unit⟩⟩, PySem.W.mg_of X G a_is_unit, k_is_unit⟩
  have b_is_unit := D_is_unit.fn.binds (ps := ["row"]) rfl fun _ _ _ _ _ _ us hl => match us, hl with | [_], _ => rfl
  have D_associated : C8.Def K mg "associated" s_associated f_associated _ := ⟨⟨⟨_, _, _, _, _, _, _, _, _, _, rfl, l_associated, co_associated⟩⟩, PySem.W.mg_of X G a_associated, k_associated⟩
  have b_associated := D_associated.fn.binds (ps := ["first", "second"]) rfl fun _ _ _ _ _ _ us hl => match us, hl with | [_, _], _ => rfl
  have D_is_symmetric : C8.Def K mg "is_symmetric" s_is_symmetric f_is_symmetric _ := ⟨⟨⟨_, _, _, _, _, _, _, _, _, _, rfl, l_is_symmetric, co_is_symmetric⟩⟩, PySem.W.mg_of X G a_is_symmetric, k_is_symmetric⟩
  have b_is_symmetric := D_is_symmetric.fn.binds (ps := ["row"]) rfl fun _ _ _ _ _ _ us hl => match us, hl with | [_], _ => rfl
  have D_is_palindromic : C8.Def K mg "is_palindromic" s_is_palindromic f_is_palindromic _ := ⟨⟨⟨_, _, _, _, _, _, _, _, _, _, rfl, l_is_palindromic, co_is_palindromic⟩⟩, PySem.W.mg_of X G a_is_palindromic, k_is_palindromic⟩
  have b_is_palindromic := D_is_palindromic.fn.binds (ps := ["row"]) rfl fun _ _ _ _ _ _ us hl => match us, hl with | [_], _ => rfl
  have D__law_cell : C8.Def K mg "_law_cell" s__law_cell f__law_cell _ := ⟨⟨⟨_, _, _, _, _, _, _, _, _, _, rfl, l__law_cell, co__law_cell⟩⟩, PySem.W.mg_of X G a__law_cell, k__law_cell⟩
  have b__law_cell := D__law_cell.fn.binds (ps := ["_law_script", "_law_k"]) rfl fun _ _ _ _ _ _ us hl => match us, hl with | [_, _], _ => rfl
  have D__law_draws : C8.Def K mg "_law_draws" s__law_draws f__law_draws _ := ⟨⟨⟨_, _, _, _, _, _, _, _, _, _, rfl, l__law_draws, co__law_draws⟩⟩, PySem.W.mg_of X G a__law_draws, k__law_draws⟩
  have b__law_draws := D__law_draws.fn.binds (ps := ["_law_cell_here", "_law_sizes"]) rfl fun _ _ _ _ _ _ us hl => match us, hl with | [_, _], _ => rfl
  have D__law_is_integer : C8.Def K mg "_law_is_integer" s__law_is_integer f__law_is_integer _ := ⟨⟨⟨_, _, _, _, _, _, _, _, _, _, rfl, l__law_is_integer, co__law_is_integer⟩⟩, PySem.W.mg_of X G a__law_is_integer, k__law_is_integer⟩
  have b__law_is_integer := D__law_is_integer.fn.binds (ps := ["_law_actual"]) rfl fun _ _ _ _ _ _ us hl => match us, hl with | [_], _ => rfl
  have D__law_is_place : C8.Def K mg "_law_is_place" s__law_is_place f__law_is_place _ := ⟨⟨⟨_, _, _, _, _, _, _, _, _, _, rfl, l__law_is_place, co__law_is_place⟩⟩, PySem.W.mg_of X G a__law_is_place, k__law_is_place⟩
  have b__law_is_place := D__law_is_place.fn.binds (ps := ["_law_actual"]) rfl fun _ _ _ _ _ _ us hl => match us, hl with | [_], _ => rfl
  have D__law_is_row : C8.Def K mg "_law_is_row" s__law_is_row f__law_is_row _ := ⟨⟨⟨_, _, _, _, _, _, _, _, _, _, rfl, l__law_is_row, co__law_is_row⟩⟩, PySem.W.mg_of X G a__law_is_row, k__law_is_row⟩
  have b__law_is_row := D__law_is_row.fn.binds (ps := ["_law_actual"]) rfl fun _ _ _ _ _ _ us hl => match us, hl with | [_], _ => rfl
  have D__law_same : C8.Def K mg "_law_same" s__law_same f__law_same _ := ⟨⟨⟨_, _, _, _, _, _, _, _, _, _, rfl, l__law_same, co__law_same⟩⟩, PySem.W.mg_of X G a__law_same, k__law_same⟩
  have b__law_same := D__law_same.fn.binds (ps := ["_law_actual", "_law_expected"]) rfl fun _ _ _ _ _ _ us hl => match us, hl with | [_, _], _ => rfl
  have D__law_plus : C8.Def K mg "_law_plus" s__law_plus f__law_plus _ := ⟨⟨⟨_, _, _, _, _, _, _, _, _, _, rfl, l__law_plus, co__law_plus⟩⟩, PySem.W.mg_of X G a__law_plus, k__law_plus⟩
  have b__law_plus := D__law_plus.fn.binds (ps := ["_law_place", "_law_other"]) rfl fun _ _ _ _ _ _ us hl => match us, hl with | [_, _], _ => rfl
  have D__law_back : C8.Def K mg "_law_back" s__law_back f__law_back _ := ⟨⟨⟨_, _, _, _, _, _, _, _, _, _, rfl, l__law_back, co__law_back⟩⟩, PySem.W.mg_of X G a__law_back, k__law_back⟩
  have b__law_back := D__law_back.fn.binds (ps := ["_law_place"]) rfl fun _ _ _ _ _ _ us hl => match us, hl with | [_], _ => rfl
  have D__law_row : C8.Def K mg "_law_row" s__law_row f__law_row _ := ⟨⟨⟨_, _, _, _, _, _, _, _, _, _, rfl, l__law_row, co__law_row⟩⟩, PySem.W.mg_of X G a__law_row, k__law_row⟩
  have b__law_row := D__law_row.fn.binds (ps := ["_law_pairs"]) rfl fun _ _ _ _ _ _ us hl => match us, hl with | [_], _ => rfl
  have D__law_add : C8.Def K mg "_law_add" s__law_add f__law_add _ := ⟨⟨⟨_, _, _, _, _, _, _, _, _, _, rfl, l__law_add, co__law_add⟩⟩, PySem.W.mg_of X G a__law_add, k__law_add⟩
  have b__law_add := D__law_add.fn.binds (ps := ["_law_first_here", "_law_second_here"]) rfl fun _ _ _ _ _ _ us hl => match us, hl with | [_, _], _ => rfl
  have D__law_scaled : C8.Def K mg "_law_scaled" s__law_scaled f__law_scaled _ := ⟨⟨⟨_, _, _, _, _, _, _, _, _, _, rfl, l__law_scaled, co__law_scaled⟩⟩, PySem.W.mg_of X G a__law_scaled, k__law_scaled⟩
  have b__law_scaled := D__law_scaled.fn.binds (ps := ["_law_row_here", "_law_factor"]) rfl fun _ _ _ _ _ _ us hl => match us, hl with | [_, _], _ => rfl
  have D__law_minus : C8.Def K mg "_law_minus" s__law_minus f__law_minus _ := ⟨⟨⟨_, _, _, _, _, _, _, _, _, _, rfl, l__law_minus, co__law_minus⟩⟩, PySem.W.mg_of X G a__law_minus, k__law_minus⟩
  have b__law_minus := D__law_minus.fn.binds (ps := ["_law_first_here", "_law_second_here"]) rfl fun _ _ _ _ _ _ us hl => match us, hl with | [_, _], _ => rfl
  have D__law_mirror : C8.Def K mg "_law_mirror" s__law_mirror f__law_mirror _ := ⟨⟨⟨_, _, _, _, _, _, _, _, _, _, rfl, l__law_mirror, co__law_mirror⟩⟩, PySem.W.mg_of X G a__law_mirror, k__law_mirror⟩
  have b__law_mirror := D__law_mirror.fn.binds (ps := ["_law_row_here"]) rfl fun _ _ _ _ _ _ us hl => match us, hl with | [_], _ => rfl
  have D__law_moved : C8.Def K mg "_law_moved" s__law_moved f__law_moved _ := ⟨⟨⟨_, _, _, _, _, _, _, _, _, _, rfl, l__law_moved, co__law_moved⟩⟩, PySem.W.mg_of X G a__law_moved, k__law_moved⟩
  have b__law_moved := D__law_moved.fn.binds (ps := ["_law_row_here", "_law_by"]) rfl fun _ _ _ _ _ _ us hl => match us, hl with | [_, _], _ => rfl
  have D__law_corner : C8.Def K mg "_law_corner" s__law_corner f__law_corner _ := ⟨⟨⟨_, _, _, _, _, _, _, _, _, _, rfl, l__law_corner, co__law_corner⟩⟩, PySem.W.mg_of X G a__law_corner, k__law_corner⟩
  have b__law_corner := D__law_corner.fn.binds (ps := ["_law_row_here"]) rfl fun _ _ _ _ _ _ us hl => match us, hl with | [_], _ => rfl
  have D__law_top : C8.Def K mg "_law_top" s__law_top f__law_top _ := ⟨⟨⟨_, _, _, _, _, _, _, _, _, _, rfl, l__law_top, co__law_top⟩⟩, PySem.W.mg_of X G a__law_top, k__law_top⟩
  have b__law_top := D__law_top.fn.binds (ps := ["_law_row_here"]) rfl fun _ _ _ _ _ _ us hl => match us, hl with | [_], _ => rfl
  have D__law_normal : C8.Def K mg "_law_normal" s__law_normal f__law_normal _ := ⟨⟨⟨_, _, _, _, _, _, _, _, _, _, rfl, l__law_normal, co__law_normal⟩⟩, PySem.W.mg_of X G a__law_normal, k__law_normal⟩
  have b__law_normal := D__law_normal.fn.binds (ps := ["_law_row_here"]) rfl fun _ _ _ _ _ _ us hl => match us, hl with | [_], _ => rfl
  have D__law_by_unit : C8.Def K mg "_law_by_unit" s__law_by_unit f__law_by_unit _ := ⟨⟨⟨_, _, _, _, _, _, _, _, _, _, rfl, l__law_by_unit, co__law_by_unit⟩⟩, PySem.W.mg_of X G a__law_by_unit, k__law_by_unit⟩
  have b__law_by_unit := D__law_by_unit.fn.binds (ps := ["_law_row_here", "_law_sign", "_law_place"]) rfl fun _ _ _ _ _ _ us hl => match us, hl with | [_, _, _], _ => rfl
  have D__law_places : C8.Def K mg "_law_places" s__law_places f__law_places _ := ⟨⟨⟨_, _, _, _, _, _, _, _, _, _, rfl, l__law_places, co__law_places⟩⟩, PySem.W.mg_of X G a__law_places, k__law_places⟩
  have b__law_places := D__law_places.fn.binds (ps := ["_law_box_here"]) rfl fun _ _ _ _ _ _ us hl => match us, hl with | [_], _ => rfl
  have D__law_drawn : C8.Def K mg "_law_drawn" s__law_drawn f__law_drawn _ := ⟨⟨⟨_, _, _, _, _, _, _, _, _, _, rfl, l__law_drawn, co__law_drawn⟩⟩, PySem.W.mg_of X G a__law_drawn, k__law_drawn⟩
  have b__law_drawn := D__law_drawn.fn.binds (ps := ["_law_cell_here", "_law_box_here", "_law_reach", "_law_moves"]) rfl fun _ _ _ _ _ _ us hl => match us, hl with | [_, _, _, _], _ => rfl
  have D__law_box : C8.Def K mg "_law_box" s__law_box f__law_box _ := ⟨⟨⟨_, _, _, _, _, _, _, _, _, _, rfl, l__law_box, co__law_box⟩⟩, PySem.W.mg_of X G a__law_box, k__law_box⟩
  have b__law_box := D__law_box.fn.binds (ps := ["_law_kind", "_law_wide"]) rfl fun _ _ _ _ _ _ us hl => match us, hl with | [_, _], _ => rfl
  have D__law_is_error : C8.Def K mg "_law_is_error" s__law_is_error f__law_is_error _ := ⟨⟨⟨_, _, _, _, _, _, _, _, _, _, rfl, l__law_is_error, co__law_is_error⟩⟩, PySem.W.mg_of X G a__law_is_error, k__law_is_error⟩
  have b__law_is_error := D__law_is_error.fn.binds (ps := ["_law_e", "_law_word"]) rfl fun _ _ _ _ _ _ us hl => match us, hl with | [_, _], _ => rfl
  have D__law_near_or_far : C8.Def K mg "_law_near_or_far" s__law_near_or_far f__law_near_or_far _ := ⟨⟨⟨_, _, _, _, _, _, _, _, _, _, rfl, l__law_near_or_far, co__law_near_or_far⟩⟩, PySem.W.mg_of X G a__law_near_or_far, k__law_near_or_far⟩
  have b__law_near_or_far := D__law_near_or_far.fn.binds (ps := ["_law_cell_here", "_law_size"]) rfl fun _ _ _ _ _ _ us hl => match us, hl with | [_, _], _ => rfl
  have D__law_first : C8.Def K mg "_law_first" s__law_first f__law_first _ := ⟨⟨⟨_, _, _, _, _, _, _, _, _, _, rfl, l__law_first, co__law_first⟩⟩, PySem.W.mg_of X G a__law_first, k__law_first⟩
  have b__law_first := D__law_first.fn.binds (ps := ["_law_script", "_law_draws_here", "_law_by"]) rfl fun _ _ _ _ _ _ us hl => match us, hl with | [_, _, _], _ => rfl
  have D__law_second : C8.Def K mg "_law_second" s__law_second f__law_second _ := ⟨⟨⟨_, _, _, _, _, _, _, _, _, _, rfl, l__law_second, co__law_second⟩⟩, PySem.W.mg_of X G a__law_second, k__law_second⟩
  have b__law_second := D__law_second.fn.binds (ps := ["_law_script", "_law_draws_here", "_law_by", "_law_row_here"]) rfl fun _ _ _ _ _ _ us hl => match us, hl with | [_, _, _, _], _ => rfl
  have D__law_truth : C8.Def K mg "_law_truth" s__law_truth f__law_truth _ := ⟨⟨⟨_, _, _, _, _, _, _, _, _, _, rfl, l__law_truth, co__law_truth⟩⟩, PySem.W.mg_of X G a__law_truth, k__law_truth⟩
  have b__law_truth := D__law_truth.fn.binds (ps := ["_law_actual", "_law_expected"]) rfl fun _ _ _ _ _ _ us hl => match us, hl with | [_, _], _ => rfl
  have D__law_zero_asked : C8.Def K mg "_law_zero_asked" s__law_zero_asked f__law_zero_asked _ := ⟨⟨⟨_, _, _, _, _, _, _, _, _, _, rfl, l__law_zero_asked, co__law_zero_asked⟩⟩, PySem.W.mg_of X G a__law_zero_asked, k__law_zero_asked⟩
  have b__law_zero_asked := D__law_zero_asked.fn.binds (ps := ["_law_which"]) rfl fun _ _ _ _ _ _ us hl => match us, hl with | [_], _ => rfl
  have D__law_corners_asked : C8.Def K mg "_law_corners_asked" s__law_corners_asked f__law_corners_asked _ := ⟨⟨⟨_, _, _, _, _, _, _, _, _, _, rfl, l__law_corners_asked, co__law_corners_asked⟩⟩, PySem.W.mg_of X G a__law_corners_asked, k__law_corners_asked⟩
  have b__law_corners_asked := D__law_corners_asked.fn.binds (ps := ["_law_row_here"]) rfl fun _ _ _ _ _ _ us hl => match us, hl with | [_], _ => rfl
  have D__law_box_count : C8.Def K mg "_law_box_count" s__law_box_count f__law_box_count _ := ⟨⟨⟨_, _, _, _, _, _, _, _, _, _, rfl, l__law_box_count, co__law_box_count⟩⟩, PySem.W.mg_of X G a__law_box_count, k__law_box_count⟩
  have b__law_box_count := D__law_box_count.fn.binds (ps := ["_law_row_here"]) rfl fun _ _ _ _ _ _ us hl => match us, hl with | [_], _ => rfl
  have D__law_single_asked : C8.Def K mg "_law_single_asked" s__law_single_asked f__law_single_asked _ := ⟨⟨⟨_, _, _, _, _, _, _, _, _, _, rfl, l__law_single_asked, co__law_single_asked⟩⟩, PySem.W.mg_of X G a__law_single_asked, k__law_single_asked⟩
  have b__law_single_asked := D__law_single_asked.fn.binds (ps := ["_law_row_here"]) rfl fun _ _ _ _ _ _ us hl => match us, hl with | [_], _ => rfl
  have D__law_pair_asked : C8.Def K mg "_law_pair_asked" s__law_pair_asked f__law_pair_asked _ := ⟨⟨⟨_, _, _, _, _, _, _, _, _, _, rfl, l__law_pair_asked, co__law_pair_asked⟩⟩, PySem.W.mg_of X G a__law_pair_asked, k__law_pair_asked⟩
  have b__law_pair_asked := D__law_pair_asked.fn.binds (ps := ["_law_first_here", "_law_second_here"]) rfl fun _ _ _ _ _ _ us hl => match us, hl with | [_, _], _ => rfl
  have D_law : C8.Def K mg "law" s_law fa _ := ⟨⟨⟨_, _, _, _, _, _, _, _, _, _, rfl, l_law, co_law⟩⟩, hfa, k_law⟩
  have b_law := D_law.fn.binds (ps := ["_law_script"]) rfl fun _ _ _ _ _ _ us hl => match us, hl with | [_], _ => rfl
  have D_te : C8.Fun K "__init__" "TableError.__init__" s_TableError___init__ f_te _ := ⟨⟨_, _, _, _, _, _, _, _, _, _, rfl, l_te, co_te⟩⟩
  have b_te := D_te.binds (ps := ["self"]) rfl fun _ _ _ _ _ _ us hl => match us, hl with | [_], _ => rfl
  have oc_M : PySem.W.OtCls K M := ⟨ga_M, gg_M, ex_M, hd_M, ha_M, hn, ht, mr_M⟩
  have er_M : OtErr K M "MixedDimensions" := ⟨⟨⟨_, _, _, _, _, _, _, _, _, _, _, _, _, _, _, xl_M, vb_M⟩, sa_M, ex_M, ty_M, kc_M⟩, oc_M, ⟨⟨_, _, _, _, _, xl_M, rfl⟩, rd_M, ty_M, fn_M⟩, nw_M, ni_M⟩
  have ei_M : ErrI K mg "MixedDimensions" M f_te := ⟨PySem.W.mg_of X G g_M, er_M, in_M, ti_te⟩
  have oc_Z : PySem.W.OtCls K Z := ⟨ga_Z, gg_Z, ex_Z, hd_Z, ha_Z, hn, ht, mr_Z⟩
  have er_Z : OtErr K Z "ZeroRow" := ⟨⟨⟨_, _, _, _, _, _, _, _, _, _, _, _, _, _, _, xl_Z, vb_Z⟩, sa_Z, ex_Z, ty_Z, kc_Z⟩, oc_Z, ⟨⟨_, _, _, _, _, xl_Z, rfl⟩, rd_Z, ty_Z, fn_Z⟩, nw_Z, ni_Z⟩
  have ei_Z : ErrI K mg "ZeroRow" Z f_te := ⟨PySem.W.mg_of X G g_Z, er_Z, in_Z, ti_te⟩
  refine ⟨PySem.W.fnOf "law" "law" (C8.fnArgs s_law) (C8.fnBody s_law) (C8.fnScope s_law) .none kV_law dc_law pm_law an_law cd_law ct_law, fun s v => .of_eq rfl, fun base _ _ => ?_⟩
  have FD : FunD K "same_dimension" "same_dimension" (C8.fnArgs s_same_dimension) (C8.fnBody s_same_dimension) (C8.fnScope s_same_dimension) [V.ref A0_same_dimension] [] f_same_dimension _ := ⟨⟨_, _, _, _, _, _, _, _, _, _, rfl, l_same_dimension, co_same_dimension, .inr ⟨by simp, TD_same_dimension, _, [.ref A0_same_dimension], _, rfl, lt_same_dimension, rfl, .cons rfl .nil⟩, .inl rfl⟩, k_same_dimension⟩
  obtain ⟨ds1, vd1, bD1⟩ := FD.binds1 (ps := ["rows", "places"]) 1 0 (by simp) rfl fun T kV doc pm an cdv ct us its h1 h2 => match us, its, h1, h2 with | [_], [_], _, _ => ⟨_, rfl, rfl⟩
  obtain ⟨ds2, vd2, bD2⟩ := FD.binds1 (ps := ["rows", "places"]) 2 1 (by simp) rfl fun T kV doc pm an cdv ct us its h1 h2 => match us, its, h1, h2 with | [_, _], [_], _, _ => ⟨_, rfl, rfl⟩
  have e2 : ds2 = [] := by cases vd2; rfl
  subst e2
  have hA0 : ∀ H, SqT K H A0_same_dimension [] := fun H => .inr (⟨_, _, _, lu_same_dimension, rfl, rfl, Nat.zero_le _, .nil⟩)
  have GT : FnOk l.prog w K mg base L2.CX0 1 f_te _ ["self"] (spTE K) := ok_te D_te
  have gB := PySem.W.mg_of X G g_B
  have gZ := PySem.W.mg_of X G g_Z
  have gM := PySem.W.mg_of X G g_M
  have gO := PySem.W.mg_of X G g_O
  have c1 := c__law_cell (P := l.prog) (w := w) (base := base) D__law_cell b__law_cell T
  have c2 : C8.Cal l.prog w K mg base 1 "_law_draws" (spDraws K) [] := c__law_draws D__law_draws b__law_draws T
  have c3 := c__law_is_integer (P := l.prog) (w := w) (base := base) D__law_is_integer b__law_is_integer T
  have c4 := c__law_is_place D__law_is_place b__law_is_place T c3
  have c5 := c__law_is_row D__law_is_row b__law_is_row T c4 c3
  have c6 := c__law_same D__law_same b__law_same T c5
  have c7 := c__law_back (P := l.prog) (w := w) (base := base) D__law_back b__law_back T
  have c8 := c__law_row (P := l.prog) (w := w) (base := base) D__law_row b__law_row T
  have c9 := c__law_plus (P := l.prog) (w := w) (base := base) D__law_plus b__law_plus T
  have c10 := c__law_places (P := l.prog) (w := w) (base := base) D__law_places b__law_places T
  have c11 := c__law_box (P := l.prog) (w := w) (base := base) D__law_box b__law_box T
  have c12 := c__law_moved D__law_moved b__law_moved T c9
  have c13 := c__law_drawn D__law_drawn b__law_drawn T c10 c2 c8 c12
  have c14 := c__law_add D__law_add b__law_add T c8
  have c15 := c__law_scaled D__law_scaled b__law_scaled T c8
  have c16 := c__law_minus D__law_minus b__law_minus T c8 c15
  have c17 := c__law_mirror D__law_mirror b__law_mirror T c8 c7
  have c18 := c__law_by_unit D__law_by_unit b__law_by_unit T c12 c15
  have c19 := c__law_near_or_far D__law_near_or_far b__law_near_or_far T c2
  have c20 := c__law_corner (P := l.prog) (w := w) (base := base) D__law_corner b__law_corner T
  have c21 := c__law_top (P := l.prog) (w := w) (base := base) D__law_top b__law_top T
  have c22 := c__law_truth (P := l.prog) (w := w) (base := base) D__law_truth b__law_truth T
  have d1 := c_plus (P := l.prog) (w := w) (base := base) D_plus b_plus T
  have d2 := c_scale (P := l.prog) (w := w) (base := base) D_scale b_scale T
  have d3 := c_places_length (P := l.prog) (w := w) (base := base) D_places_length b_places_length T
  have d4 := c_mirror (P := l.prog) (w := w) (base := base) D_mirror b_mirror T
  have d5 := c_bounds (P := l.prog) (w := w) (base := base) D_bounds b_bounds T
  have d6 := c_is_unit (P := l.prog) (w := w) (base := base) D_is_unit b_is_unit T
  have GS := ok_same_lengths D_same_lengths T ei_M GT b_te
  have GD := ok_same_dimension D_same_dimension T D_same_lengths b_same_lengths GS d3
  have GDT := ok_same_dimensionT D_same_dimension T D_same_lengths b_same_lengths GS d3
  have GSh := ok_shift D_shift T D_same_dimension bD2 GD d1
  have GLo := ok_low_corner D_low_corner T ei_Z GT b_te d5
  have GSp := ok_spans D_spans T ei_Z GT b_te d5
  have GUn := ok_unit_of D_unit_of T D_low_corner b_low_corner GLo
  have q1 := quietC D_low_corner b_low_corner .nil GLo extQ
  have q2 := quietC D_spans b_spans .nil GSp extQ
  have q3 := quietC D_unit_of b_unit_of .nil GUn unitQ
  have q4 := quietC D_shift b_shift .nil GSh shiftQ
  have d7 := c_normal D_normal b_normal T q3 d2 q4
  have d8 := c_box_size D_box_size b_box_size T q2
  have GAs := ok_associated D_associated T D_same_dimension bD1 vd1 hA0 GDT d7
  have d9 := c_is_symmetric D_is_symmetric b_is_symmetric T d4
  have d10 := c_is_palindromic D_is_palindromic b_is_palindromic T d4 d7
  have c23 := c__law_normal D__law_normal b__law_normal T c20 c7 c12 c15
  have c24 := c__law_first D__law_first b__law_first T c1 c11 c13 c15 c14 c17 c16 c8 c7 c18
  have c25 := c__law_second D__law_second b__law_second T c1 c11 c13 c14 c17 c18
  have h1 := h__law_is_error (P := l.prog) (w := w) (base := base) D__law_is_error T gB (PySem.W.mg_none_of X G z_ValueError)
  have c26 := c__law_zero_asked D__law_zero_asked b__law_zero_asked T gB gZ gM gO er_Z xZ ⟨kBZ, kVZ⟩ ⟨k1, k2, k3, k4, k5, k6⟩ D_low_corner b_low_corner GLo D_spans b_spans GSp D_unit_of b_unit_of GUn D__law_is_error b__law_is_error h1
  have c27 := c__law_corners_asked D__law_corners_asked b__law_corners_asked T c20 c21 q1 q2 q3 c4 c3
  have c28 := c__law_box_count D__law_box_count b__law_box_count T c20 c21
  have c29 := c__law_single_asked D__law_single_asked b__law_single_asked T d8 c28 c3 d7 c23 c6 d6 c22 c17 d9 d10
  have c30 := c__law_pair_asked D__law_pair_asked b__law_pair_asked T gB gZ gM gO er_M xM ⟨kBM, kVM⟩ ⟨k1, k2, k3, k4, k5, k6⟩ D_associated b_associated GAs D__law_is_error b__law_is_error h1 c23 c22
  exact c_law D_law b_law T c1 c2 c19 c24 c25 c26 c23 c27 c29 c30
theorem walk {l : PySem.W.OpenLaw} {q : Program} {loose : List Str} {XP : (Str → Option Value) → Heap → Prop} {YP : World → Heap → Prop} {d : DefRec} {K : Params → PySem.W.Frag} (hn : l.most = some 63) (hdf : d.params.defaults = [])
    (hY : ∀ (w : World) (h : Heap), YP w h → (K w.params).In h)
    (F : ∀ (w : World) (mg : Str → Option Value) (fa : Addr) (h : Heap), (K w.params).In h → h.Ns mainGlobals mg → mg d.name = some (.ref fa) →
      ∃ fd : FuncData, (∀ (s : Shared) (u : Value), BindsTo s fd ⟨[u], []⟩ [("_law_script", u)]) ∧ ∀ base : Heap, (K w.params).In base → base.Ns mainGlobals mg → FnOk l.prog w (K w.params) mg base L2.CX0 9 fa fd ["_law_script"] (spLaw (K w.params))) :
    PySem.W.WalkO q loose XP YP l.row.toRowW d [] (fun f vs => PySem.call f vs) :=
  L2.walk_ofK (n := 63) (k := 9) (x := "_law_script") (CX := L2.CX0) (sp := spLaw) hn (by decide) hdf ⟨rfl, by decide, by decide⟩ hY F (fun _ _ a ns hl _ hS => ⟨a, ns, rfl, hS, hl, fun _ => rfl⟩) fun _ _ _ _ z => z
end OT
open PySem PySem.W PyProof.Rows
set_option maxRecDepth 100000 in
set_option maxHeartbeats 0 in
theorem PySem.Challenge.cw_owntables_k02_normal_rows_holds : PySem.Challenge.rw_owntables_k02_normal_rows.Holds := by
  w_on; o_law; k_head; (case hw => w_witness2)
  k_fill
  refine OT.walk (l := PySem.Challenge.rw_owntables_k02_normal_rows) rfl rfl (fun w h Y => PySem.W.kIn_of Y) ?F
  case F =>
    intro w mg fa h KX G hmg
    refine' OT.all_mk KX G hmg ?z_len ?z_int ?z_str ?z_bool ?z_list ?z_tuple ?z_range ?z_enumerate ?z_isinstance ?z_sorted ?z_abs ?z_any ?z_min ?z_max ?z_zip ?z_ValueError ?a_bounds ?l_bounds ?co_bounds ?k_bounds ?a_places_length ?l_places_length ?co_places_length ?k_places_length ?a_same_lengths ?l_same_lengths ?co_same_lengths ?k_same_lengths ?a_same_dimension ?l_same_dimension ?lt_same_dimension ?lu_same_dimension ?co_same_dimension ?k_same_dimension ?a_plus ?l_plus ?co_plus ?k_plus ?a_scale ?l_scale ?co_scale ?k_scale ?a_mirror ?l_mirror ?co_mirror ?k_mirror ?a_shift ?l_shift ?co_shift ?k_shift ?a_low_corner ?l_low_corner ?co_low_corner ?k_low_corner ?a_spans ?l_spans ?co_spans ?k_spans ?a_unit_of ?l_unit_of ?co_unit_of ?k_unit_of ?a_box_size ?l_box_size ?co_box_size ?k_box_size ?a_normal ?l_normal ?co_normal ?k_normal ?a_is_unit ?l_is_unit ?co_is_unit ?k_is_unit ?a_associated ?l_associated ?co_associated ?k_associated ?a_is_symmetric ?l_is_symmetric ?co_is_symmetric ?k_is_symmetric ?a_is_palindromic ?l_is_palindromic ?co_is_palindromic ?k_is_palindromic ?a__law_cell ?l__law_cell ?co__law_cell ?k__law_cell ?a__law_draws ?l__law_draws ?co__law_draws ?k__law_draws ?a__law_is_integer ?l__law_is_integer ?co__law_is_integer ?k__law_is_integer ?a__law_is_place ?l__law_is_place ?co__law_is_place ?k__law_is_place ?a__law_is_row ?l__law_is_row ?co__law_is_row ?k__law_is_row ?a__law_same ?l__law_same ?co__law_same ?k__law_same ?a__law_plus ?l__law_plus ?co__law_plus ?k__law_plus ?a__law_back ?l__law_back ?co__law_back ?k__law_back ?a__law_row ?l__law_row ?co__law_row ?k__law_row ?a__law_add ?l__law_add ?co__law_add ?k__law_add ?a__law_scaled ?l__law_scaled ?co__law_scaled ?k__law_scaled ?a__law_minus ?l__law_minus ?co__law_minus ?k__law_minus ?a__law_mirror ?l__law_mirror ?co__law_mirror ?k__law_mirror ?a__law_moved ?l__law_moved ?co__law_moved ?k__law_moved ?a__law_corner ?l__law_corner ?co__law_corner ?k__law_corner ?a__law_top ?l__law_top ?co__law_top ?k__law_top ?a__law_normal ?l__law_normal ?co__law_normal ?k__law_normal ?a__law_by_unit ?l__law_by_unit ?co__law_by_unit ?k__law_by_unit ?a__law_places ?l__law_places ?co__law_places ?k__law_places ?a__law_drawn ?l__law_drawn ?co__law_drawn ?k__law_drawn ?a__law_box ?l__law_box ?co__law_box ?k__law_box ?a__law_is_error ?l__law_is_error ?co__law_is_error ?k__law_is_error ?a__law_near_or_far ?l__law_near_or_far ?co__law_near_or_far ?k__law_near_or_far ?a__law_first ?l__law_first ?co__law_first ?k__law_first ?a__law_second ?l__law_second ?co__law_second ?k__law_second ?a__law_truth ?l__law_truth ?co__law_truth ?k__law_truth ?a__law_zero_asked ?l__law_zero_asked ?co__law_zero_asked ?k__law_zero_asked ?a__law_corners_asked ?l__law_corners_asked ?co__law_corners_asked ?k__law_corners_asked ?a__law_box_count ?l__law_box_count ?co__law_box_count ?k__law_box_count ?a__law_single_asked ?l__law_single_asked ?co__law_single_asked ?k__law_single_asked ?a__law_pair_asked ?l__law_pair_asked ?co__law_pair_asked ?k__law_pair_asked ?a_law ?l_law ?co_law ?k_law ?a_te ?l_te ?co_te ?k_te ?g_B ?g_M ?g_Z ?g_O ?xl_M ?vb_M ?sa_M ?ex_M ?ty_M ?kc_M ?ga_M ?gg_M ?hd_M ?ha_M ?mr_M ?rd_M ?fn_M ?nw_M ?ni_M ?in_M ?xl_Z ?vb_Z ?sa_Z ?ex_Z ?ty_Z ?kc_Z ?ga_Z ?gg_Z ?hd_Z ?ha_Z ?mr_Z ?rd_Z ?fn_Z ?nw_Z ?ni_Z ?in_Z ?hn ?ht ?ti_te ?xM ?xZ ?kBM ?kVM ?kBZ ?kVZ ?k1 ?k2 ?k3 ?k4 ?k5 ?k6
    (case g_B => k_is)
    (case g_M => k_is)
    (case g_Z => k_is)
    (case g_O => k_is)
    (case a_bounds => k_is)
    (case a_places_length => k_is)
    (case a_same_lengths => k_is)
    (case a_same_dimension => k_is)
    (case a_plus => k_is)
    (case a_scale => k_is)
    (case a_mirror => k_is)
    (case a_shift => k_is)
    (case a_low_corner => k_is)
    (case a_spans => k_is)
    (case a_unit_of => k_is)
    (case a_box_size => k_is)
    (case a_normal => k_is)
    (case a_is_unit => k_is)
    (case a_associated => k_is)
    (case a_is_symmetric => k_is)
    (case a_is_palindromic => k_is)
    (case a__law_cell => k_is)
    (case a__law_draws => k_is)
    (case a__law_is_integer => k_is)
    (case a__law_is_place => k_is)
    (case a__law_is_row => k_is)
    (case a__law_same => k_is)
    (case a__law_plus => k_is)
    (case a__law_back => k_is)
    (case a__law_row => k_is)
    (case a__law_add => k_is)
    (case a__law_scaled => k_is)
    (case a__law_minus => k_is)
    (case a__law_mirror => k_is)
    (case a__law_moved => k_is)
    (case a__law_corner => k_is)
    (case a__law_top => k_is)
    (case a__law_normal => k_is)
    (case a__law_by_unit => k_is)
    (case a__law_places => k_is)
    (case a__law_drawn => k_is)
    (case a__law_box => k_is)
    (case a__law_is_error => k_is)
    (case a__law_near_or_far => k_is)
    (case a__law_first => k_is)
    (case a__law_second => k_is)
    (case a__law_truth => k_is)
    (case a__law_zero_asked => k_is)
    (case a__law_corners_asked => k_is)
    (case a__law_box_count => k_is)
    (case a__law_single_asked => k_is)
    (case a__law_pair_asked => k_is)
    (case a_law => k_is)
    (case a_te => k_is)
    (case xl_M => k_is)
    (case in_M => k_is)
    (case xl_Z => k_is)
    (case in_Z => k_is)
    (case z_len => k_is)
    (case z_int => k_is)
    (case z_str => k_is)
    (case z_bool => k_is)
    (case z_list => k_is)
    (case z_tuple => k_is)
    (case z_range => k_is)
    (case z_enumerate => k_is)
    (case z_isinstance => k_is)
    (case z_sorted => k_is)
    (case z_abs => k_is)
    (case z_any => k_is)
    (case z_min => k_is)
    (case z_max => k_is)
    (case z_zip => k_is)
    (case z_ValueError => k_is)
    (case l_bounds => k_is)
    (case co_bounds => k_is)
    (case k_bounds => k_is)
    (case l_places_length => k_is)
    (case co_places_length => k_is)
    (case k_places_length => k_is)
    (case l_same_lengths => k_is)
    (case co_same_lengths => k_is)
    (case k_same_lengths => k_is)
    (case l_same_dimension => k_is)
    (case lt_same_dimension => first | rfl | k_is)
    (case lu_same_dimension => first | rfl | k_is)
    (case co_same_dimension => k_is)
    (case k_same_dimension => k_is)
    (case l_plus => k_is)
    (case co_plus => k_is)
    (case k_plus => k_is)
    (case l_scale => k_is)
    (case co_scale => k_is)
    (case k_scale => k_is)
    (case l_mirror => k_is)
    (case co_mirror => k_is)
    (case k_mirror => k_is)
    (case l_shift => k_is)
    (case co_shift => k_is)
    (case k_shift => k_is)
    (case l_low_corner => k_is)
    (case co_low_corner => k_is)
    (case k_low_corner => k_is)
    (case l_spans => k_is)
    (case co_spans => k_is)
    (case k_spans => k_is)
    (case l_unit_of => k_is)
    (case co_unit_of => k_is)
    (case k_unit_of => k_is)
    (case l_box_size => k_is)
    (case co_box_size => k_is)
    (case k_box_size => k_is)
    (case l_normal => k_is)
    (case co_normal => k_is)
    (case k_normal => k_is)
    (case l_is_unit => k_is)
    (case co_is_unit => k_is)
    (case k_is_unit => k_is)
    (case l_associated => k_is)
    (case co_associated => k_is)
    (case k_associated => k_is)
    (case l_is_symmetric => k_is)
    (case co_is_symmetric => k_is)
    (case k_is_symmetric => k_is)
    (case l_is_palindromic => k_is)
    (case co_is_palindromic => k_is)
    (case k_is_palindromic => k_is)
    (case l__law_cell => k_is)
    (case co__law_cell => k_is)
    (case k__law_cell => k_is)
    (case l__law_draws => k_is)
    (case co__law_draws => k_is)
    (case k__law_draws => k_is)
    (case l__law_is_integer => k_is)
    (case co__law_is_integer => k_is)
    (case k__law_is_integer => k_is)
    (case l__law_is_place => k_is)
    (case co__law_is_place => k_is)
    (case k__law_is_place => k_is)
    (case l__law_is_row => k_is)
    (case co__law_is_row => k_is)
    (case k__law_is_row => k_is)
    (case l__law_same => k_is)
    (case co__law_same => k_is)
    (case k__law_same => k_is)
    (case l__law_plus => k_is)
    (case co__law_plus => k_is)
    (case k__law_plus => k_is)
    (case l__law_back => k_is)
    (case co__law_back => k_is)
    (case k__law_back => k_is)
    (case l__law_row => k_is)
    (case co__law_row => k_is)
    (case k__law_row => k_is)
    (case l__law_add => k_is)
    (case co__law_add => k_is)
    (case k__law_add => k_is)
    (case l__law_scaled => k_is)
    (case co__law_scaled => k_is)
    (case k__law_scaled => k_is)
    (case l__law_minus => k_is)
    (case co__law_minus => k_is)
    (case k__law_minus => k_is)
    (case l__law_mirror => k_is)
    (case co__law_mirror => k_is)
    (case k__law_mirror => k_is)
    (case l__law_moved => k_is)
    (case co__law_moved => k_is)
    (case k__law_moved => k_is)
    (case l__law_corner => k_is)
    (case co__law_corner => k_is)
    (case k__law_corner => k_is)
    (case l__law_top => k_is)
    (case co__law_top => k_is)
    (case k__law_top => k_is)
    (case l__law_normal => k_is)
    (case co__law_normal => k_is)
    (case k__law_normal => k_is)
    (case l__law_by_unit => k_is)
    (case co__law_by_unit => k_is)
    (case k__law_by_unit => k_is)
    (case l__law_places => k_is)
    (case co__law_places => k_is)
    (case k__law_places => k_is)
    (case l__law_drawn => k_is)
    (case co__law_drawn => k_is)
    (case k__law_drawn => k_is)
    (case l__law_box => k_is)
    (case co__law_box => k_is)
    (case k__law_box => k_is)
    (case l__law_is_error => k_is)
    (case co__law_is_error => k_is)
    (case k__law_is_error => k_is)
    (case l__law_near_or_far => k_is)
    (case co__law_near_or_far => k_is)
    (case k__law_near_or_far => k_is)
    (case l__law_first => k_is)
    (case co__law_first => k_is)
    (case k__law_first => k_is)
    (case l__law_second => k_is)
    (case co__law_second => k_is)
    (case k__law_second => k_is)
    (case l__law_truth => k_is)
    (case co__law_truth => k_is)
    (case k__law_truth => k_is)
    (case l__law_zero_asked => k_is)
    (case co__law_zero_asked => k_is)
    (case k__law_zero_asked => k_is)
    (case l__law_corners_asked => k_is)
    (case co__law_corners_asked => k_is)
    (case k__law_corners_asked => k_is)
    (case l__law_box_count => k_is)
    (case co__law_box_count => k_is)
    (case k__law_box_count => k_is)
    (case l__law_single_asked => k_is)
    (case co__law_single_asked => k_is)
    (case k__law_single_asked => k_is)
    (case l__law_pair_asked => k_is)
    (case co__law_pair_asked => k_is)
    (case k__law_pair_asked => k_is)
    (case l_law => k_is)
    (case co_law => k_is)
    (case k_law => k_is)
    (case l_te => k_is)
    (case co_te => k_is)
    (case k_te => k_is)
    (case vb_M => decide +kernel)
    (case sa_M => k_is)
    (case ex_M => k_is)
    (case ty_M => k_is)
    (case kc_M => k_is)
    (case ga_M => k_is)
    (case gg_M => k_is)
    (case hd_M => k_is)
    (case ha_M => k_is)
    (case mr_M => k_is)
    (case rd_M => k_is)
    (case fn_M => k_is)
    (case nw_M => k_is)
    (case ni_M => k_is)
    (case vb_Z => decide +kernel)
    (case sa_Z => k_is)
    (case ex_Z => k_is)
    (case ty_Z => k_is)
    (case kc_Z => k_is)
    (case ga_Z => k_is)
    (case gg_Z => k_is)
    (case hd_Z => k_is)
    (case ha_Z => k_is)
    (case mr_Z => k_is)
    (case rd_Z => k_is)
    (case fn_Z => k_is)
    (case nw_Z => k_is)
    (case ni_Z => k_is)
    (case hn => k_is)
    (case ht => k_is)
    (case ti_te => k_is)
    (case xM => first | rfl | k_is)
    (case xZ => first | rfl | k_is)
    (case kBM => first | rfl | k_is)
    (case kVM => first | rfl | k_is)
    (case kBZ => first | rfl | k_is)
    (case kVZ => first | rfl | k_is)
    (case k1 => first | rfl | k_is)
    (case k2 => first | rfl | k_is)
    (case k3 => first | rfl | k_is)
    (case k4 => first | rfl | k_is)
    (case k5 => first | rfl | k_is)
    (case k6 => first | rfl | k_is)

