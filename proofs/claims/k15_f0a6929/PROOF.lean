import PyProof.Rows.All
import Wide.All
import OpenK.AllK
import Wide.FinOn
import KE.KTypeName
import HandS.ForMost
import HandS.ForExc
import HandS.ExcInit
import HandS.ExcIs
import HandS.ExcField
import HandS.IsInst
import HandS.HotCalls
import HandS.Codes
import HandS.StrMore
import HandS.TupAny
import HandS.Walk
import HandS.TupSets
import HandS.DictTup
import HandS.FStr
import KE.KExcIs
import HandS.SortKw
import KE.KSortTupG
import HandS.Conv
import HandS.More
import HandS.Zip
import HandS.Star
import KE.DatumOrd
import HandS.SortInts
import HandS.Wide
import HandS.Evl
import HandS.Style
import HandS.CallSlots
import HandS.Defaults
import PyProof.EqAt
import PyProof.EqKinds
import PyProof.TupleCall
import PySem.Challenge.RW_owntables_k15_whole_own_tables
set_option Elab.async false
set_option linter.all false
set_option maxRecDepth 100000
set_option maxHeartbeats 2000000
/-! Own errors of the package: word, index, made and told. -/
namespace PySem.W
open PySem PySem.Calls PyProof.Rows Builtin Builtin.ObjectAttr Builtin.Getset_descriptor
section
variable {prog : Program} {w : World} {A : Around} {E : Value → Shared → Prop} {s : Shared} {K : Frag} {x D : Addr} {ox : Obj}
/-- what a class says of the attribute «class» of its instances -/
structure OtCls (K : Frag) (D : Addr) : Prop where
  hga : findIn K (.ref D) "__getattribute__" = some (some (.builtin "BaseException.__getattribute__"))
  hgt : findIn K (.ref D) "__getattr__" = some none
  hsub : subIn K (.ref D) (.type "BaseException") = some true
  hdct : hasDictIn K D = true
  ha : findIn K (.ref D) "__class__" = some (some (.builtin "object.__class__"))
  hn : specialIn K (.builtin "object.__class__") "__get__" = some (some (.builtin "getset_descriptor.__get__"))
  htk : takesIn K (.builtin "object.__class__") = some true
  hm : mroIn K D (.type "object") = some true
theorem ot_class {expr : Bool} {Q : Value → Shared → Prop} (T : OtCls K D) (X : K.In s.heap) (I : InstAt s.heap x ox D none)
    (h : Q (.ref D) { s with toks := s.toks + 1 }) : wpAny (model prog w) A (getAttr (.ref x) "__class__" expr) Q E s := by
  obtain ⟨hga, hgt, hsub, hdct, ha, hn, htk, hm⟩ := T
  have found : findObj K D none "__class__" = some (.bind (.builtin "getset_descriptor.__get__") (.builtin "object.__class__")) :=
    findObj_dataN (by obtain ⟨cd, q, _⟩ := any_some hdct; rw [q]; rfl) ha hn htk
  obtain ⟨hp, gens, dr, tk, os⟩ := s
  have ty := I.type (M := model prog w)
  have l1 := looks_findIn (M := model prog w) X hga
  have l2 := looks_findIn (M := model prog w) X hgt
  have l3 := looks_find (M := model prog w) X I found
  have isx : Looks (model prog w) hp (isInstance (.ref x) (.type "BaseException")) true := ty.andThen (looks_subIn X hsub)
  have e0 : (Value.builtin "BaseException.__getattribute__" == Value.builtin "object.__getattribute__") = false := by decide +kernel
  unfold getAttr getAttrBy
  apply wpAny_bind; apply wpAny_mkText; apply wpAny_holding
  apply wpAny_bind; apply ty.at
  apply wpAny_bind; apply l1.at
  show wpAny _ _ (if (onTheHeap (Value.ref D) && _) = true then _ else _) _ _ _
  rw [e0, Bool.and_false, if_neg Bool.false_ne_true]
  unfold getAttrByItsOwn hookBefore
  apply wpAny_bind
  rw [if_pos (show onTheHeap (Value.ref D) = true from rfl)]
  apply l2.at
  apply wpAny_bind; apply wpAny_attempt; apply wpAny_holding
  unfold callGetattribute
  rw [(by cases expr <;> rfl : (expr && onTheHeap (Value.builtin "BaseException.__getattribute__")) = false), if_neg Bool.false_ne_true]
  unfold boundAndCalled
  rw [PySem.F.excAttr_ValueError.ga.bind (.ref x)]
  apply wpAny_bind; apply wpAny_pure
  show wpAny _ _ (call (.builtin "BaseException.__getattribute__") [.ref x, .str "__class__" tk]) _ _ _
  apply wpAny_call
  apply codeAny_call_builtin PySem.F.excAttr_ValueError.ga.plain PySem.F.entry_bexc_ga
  apply @check_slot (model prog w) _ _ ⟨hp, gens, dr, tk + 1, os⟩ "BaseException.__getattribute__" "BaseException" "__getattribute__" (.ref x) [.str "__class__" tk] [] _ (by decide +kernel) (by decide +kernel) isx (PySem.F.args_bexc_ga (.ref x) (.str "__class__" tk))
  unfold Builtin.«object.__getattribute__»
  refine wpAny_bind (wpAny_of_eq (a := ((Value.ref x : Value), [Value.str "__class__" tk])) (by first | rfl | (simp only [slotArgs]; rfl)) ?_)
  apply wpAny_bind; apply wpAny_pure
  apply wpAny_bind; apply ty.at
  apply wpAny_bind; apply l3.at
  show wpAny _ _ (holding [Value.builtin "object.__class__"] (call _ [.builtin "object.__class__", .ref x, .ref D]) >>= ret) _ _ _
  apply wpAny_bind; apply wpAny_holding; apply wpAny_call
  refine class_get (s := ⟨hp, gens, dr, tk + 1, os⟩) (ox := ox) (od := none) X I hm ?_
  apply wpAny_pure
  show wpAny _ _ (handedOut (.ref D)) _ _ _
  rw [handedOut_of (v := .ref D) rfl]
  exact wpAny_pure h
/-- the written part's class at C keeps its name nm -/
structure OtName (K : Frag) (C : Addr) (nm : Str) : Prop where
  keeps : ∃ (c : Value) (dd : Option Addr) (dat : Data) (sl : Array (Option Value)) (tk : Tok), K.lookup C = some ⟨c, dd, dat, sl⟩ ∧ sl[2]? = some (some (.str nm tk))
  reads : readsIn K C (.type "type") = true
  ty : typeIn K (.ref C) = some (.type "type")
  found : findCls K (.ref C) (.type "type") "__name__" = some (.get (.builtin "getset_descriptor.__get__") (.builtin "type.__name__") (.ref C) (.type "type"))
theorem ot_dga (d tp : Value) (C : Addr) : descrGetArgs ⟨[d, .ref C, tp], []⟩ = pure (d, some (.ref C), given tp) := by kernel_rfl
theorem ot_name {expr : Bool} {nm : Str} {Q : Value → Shared → Prop} (T : OtName K D nm) (X : K.In s.heap)
    (h : ∀ tk u, Q (.str nm tk) { s with toks := u }) : wpAny (model prog w) A (getAttr (.ref D) "__name__" expr) Q E s := by
  obtain ⟨⟨c, dd, dat, sl, tk, hk, hsl⟩, hr, ty, hf⟩ := T
  refine cls_bind X hr hf ?_
  obtain ⟨hp, gens, dr, tks, os⟩ := s
  have t0 : Looks (model prog w) hp (typeOf (.ref D)) (.type "type") := looks_typeIn X ty
  have t1 : Looks (model prog w) hp (isSubtype (.type "type") (.type "type")) true := Looks.of_pure (by rw [isSubtype_type]; kernel_rfl)
  refine wpAny_call (codeAny_call_builtin KF.slot_gs.plain KF.entry_gs (KF.slot_gs.check _ _ _ _ _ _ _ _ ktyn_type (KF.args_gs _ _ _) ?_))
  unfold Builtin.«getset_descriptor.__get__» descrGet
  rw [ot_dga]
  apply wpAny_bind
  apply wpAny_pure
  unfold descrGetter descrCheckInstance descrNameAndClass isInstance
  simp only [ktyn_owner]
  repeat lk
  refine ⟨Code.quiet_builtin _ (by decide +kernel), codeAny_builtin ktyn_entry ?_⟩
  unfold Builtin.«type.__name__» keptObject slotAt
  dsimp only
  refine wpAny_bind (wpAny_bind (wpAny_loadPart (X _ _ hk) (wpAny_pure ?_)))
  dsimp only
  rw [hsl]
  exact wpAny_pure (handed_on rfl (h _ _))
end
end PySem.W
namespace L2
open PySem PySem.Spec PyProof.Rows
/-! ### an exception's own __init__ -/
section
variable {X : Cx} {pos p1 p2 : Pos} {e : Expr} {es : List Expr} {te : TE} {ta : TA}
/-- e.__class__.__name__, e an exception that is being made, without a field so far -/
def tOtName (K : PySem.W.Frag) (te : TE) : TE := fun σ H Q => te σ H fun x H1 => ∃ (a C : Addr) (nm : Str), x = .ref a ∧ H1 a = some (exo a C none) ∧ PySem.W.OtCls K C ∧ PySem.W.OtName K C nm ∧ Q (.str nm) H1
theorem pe_otname (he : PE X e te) (hb : attributeBase e "__class__" X.env (eval e X.env) = eval e X.env := by rfl)
    (hb2 : attributeBase (.Attribute e "__class__" p1) "__name__" X.env (eval (.Attribute e "__class__" p1) X.env) = eval (.Attribute e "__class__" p1) X.env := by rfl) :
    PE X (.Attribute (.Attribute e "__class__" p1) "__name__" pos) (tOtName X.K te) := by
  refine ⟨fun pins s σ H Q I h => ?_⟩
  refine attr_of hb2 (attr_of hb (thn (he.run pins s σ H _ I h) fun u s1 hh => ?_))
  obtain ⟨x, H1, I1, rx, a, C, nm, ex, ea, tc, tn, q⟩ := hh
  subst ex
  obtain rfl : u = Value.ref a := rx
  obtain ⟨t1, ho⟩ := exo_at I1.hok ea
  have J : PySem.W.InstAt s1.heap a _ C none := ⟨ho, rfl, rfl, True.intro⟩
  refine PySem.W.ot_class tc I1.kIn J ?_
  refine PySem.W.ot_name tn I1.kIn fun tk u => ?_
  exact ⟨.str nm, H1, I1.tok u, ⟨tk, rfl⟩, q⟩
/-- a class of the text, its attributes read by the type's own way -/
structure OtRead (K : PySem.W.Frag) (C : Addr) (m : Str) (f : Addr) : Prop where
  rd : PySem.W.readsIn K C (.type "type") = true
  ga : PySem.W.specialIn K (.ref C) "__getattribute__" = some (some (.builtin "type.__getattribute__"))
  at_ : PySem.W.findCls K (.ref C) (.type "type") m = some (.val (.ref f))
  kp : PySem.W.keepIn K (.ref f) = true
/-- B.m(e, ..), B a class of the text, m a def of it -/
theorem pe_otcall {CX : CXT} {k : Nat} {f C : Addr} {fd : FuncData} {ps : List Str} {sp : Sp} {E : XK} {o : Expr} {to : TE} {m : Str} {pl : Sem Bool} (ho : PE X o to) (R : OtRead X.K C m f) (F : FnOk X.prog X.w X.K X.mg X.base CX k f fd ps sp) (hr : Room k X.A) (hb : Binds X.K fd ps []) (hx : Passes CX X E) (ha : PA X (e :: es) ta)
    (hc : eval (.Call (.Attribute o m p2) (e :: es) [] pos) X.env = (do
      let ov ← eval o X.env
      standAt p2.atName
      let (f, first) ← holding [ov] (getMethod ov m pl)
      callWith pos f first (backTo pos (starEach (e :: es) X.env)) (backToKw pos (keywordEach [] X.env))) := by rfl)
    (he : starEach (e :: es) X.env = (false, eval e X.env) :: starEach es X.env := by rfl) (hpl : (backTo pos (starEach es X.env)).any (·.1) = false := by rfl) :
    PE X (.Call (.Attribute o m p2) (e :: es) [] pos) (fun σ H Q => to σ H fun x H1 => x = .ref C ∧ ta σ H1 fun vs H2 => sp vs H2 Q E) := by
  refine ⟨fun pins s σ H Q I h => ?_⟩
  refine PySem.W.methodCall_KW (thn (ho.run pins s σ H _ I h) fun u s1 hh => ?_) hc
  obtain ⟨x, H1, I1, rx, ex, q⟩ := hh
  subst ex
  obtain rfl : u = Value.ref C := rx
  refine PySem.W.method_cls I1.kIn R.ga (PySem.W.cls_value I1.kIn R.rd R.at_ rfl ?_)
  have I2 := I1.tok (s1.toks + 1)
  show wpAny _ _ (callWith pos (Value.ref f) [] (backTo pos (starEach (e :: es) X.env)) []) _ _ _
  refine PySem.W.callWith_K (h₀ := X.base) I2.ok.mod.kin R.kp (thn (ha.run pos pins _ σ H1 _ I2 q) fun us s2 hh2 => ?_) he hpl
  obtain ⟨vs, H2, I3, r3, q3⟩ := hh2
  exact ⟨I3.kIn, run_fn F hr hb .nil hx I3 r3 (by rw [List.append_nil]; exact q3)⟩
end
end L2

namespace L2
open PySem PySem.Spec PyProof.Rows
/-- all that is asked of an own class of error, its name nm -/
structure OtErr (K : PySem.W.Frag) (C : Addr) (nm : Str) : Prop where
  ox : OexC K C
  oc : PySem.W.OtCls K C
  on : PySem.W.OtName K C nm
  nw : PySem.W.findIn K (.ref C) "word" = some none
  ni : PySem.W.findIn K (.ref C) "index" = some none
section
variable {P : Program} {w : World} {K : PySem.W.Frag} {mg : Str → Option Value} {base : Heap}
/-- TableError.__init__ -/
def spTE (K : PySem.W.Frag) : Sp := fun vs H Q _ => ∃ (a C : Addr) (nm : Str), vs = [.ref a] ∧ H a = some (exo a C none) ∧ OtErr K C nm ∧
  ∀ d, H d = none → d ≠ a → Q .non (upd (upd H d (exd d [("word", .str nm)])) a (exo a C (some d)))
theorem ok_te {q : Str} {st : Stmt} {f : Addr} {fd : FuncData} {p1 p2 p3 p4 p5 p6 : Pos} (F : Fun K "__init__" q st f fd) (S : FnScope ["self"] ["self"] (defScope st))
    (v : Vis (defScope st) "self") (hb : defBody st = [.Assign [.Attribute (.Name "self" p1) "word" p2] (.Attribute (.Attribute (.Name "self" p3) "__class__" p4) "__name__" p5) p6]) :
    FnOk P w K mg base CX0 1 f fd ["self"] (spTE K) := by
  refine F.ok S (fun vs H Q E h => ?_) (fun cdv A outer s H vs Q E hr h => ?_)
  · obtain ⟨a, C, nm, rfl, _⟩ := h
    rfl
  · obtain ⟨a, C, nm, rfl, ha, T, k⟩ := h
    rw [hb]
    refine ⟨_, pss_one (ps_ost (pv 0 rfl v) (pe_otname (pv 0 rfl v))), ?_⟩
    refine ⟨_, rfl, a, C, nm, rfl, ha, T.oc, T.on, _, rfl, a, C, rfl, T.ox, T.nw, Or.inl ⟨ha, fun d nd ne => ?_⟩⟩
    exact k d nd ne
/-- IndexedError.__init__ -/
def spIE (K : PySem.W.Frag) : Sp := fun vs H Q _ => ∃ (a C : Addr) (nm : Str) (v : V), vs = [.ref a, v] ∧ H a = some (exo a C none) ∧ OtErr K C nm ∧
  ∀ d, H d = none → d ≠ a → Q .non (upd (upd (upd H d (exd d [("word", .str nm)])) a (exo a C (some d))) d (exd d [("index", v), ("word", .str nm)]))
end
end L2

/-! ### defs that are handed the error that an except suite holds -/
namespace L2
open PySem PySem.Spec PyProof.Rows
/-- a promise that knows the held error: where it stands, its class, its dict -/
abbrev SpE := Addr → Value → Option Addr → Sp
structure FnE (P : Program) (w : World) (K : PySem.W.Frag) (mg : Str → Option Value) (base : Heap) (k : Nat) (f : Addr) (fd : FuncData) (ps : List Str) (sp : SpE) : Prop where
  len : ∀ a c d vs H Q E, sp a c d vs H Q E → vs.length = ps.length
  run : ∀ (A : Around) (outer : List Env) (s : Shared) (H : Hp) (args : Args) (us : List Value) (vs : List V) (Q : VK) (p : Addr × Obj) (c : Value) (d : Option Addr), L2H.RoomH k A → L2H.PinOk outer H s p → Zc c d p.2 → (∃ fs, p.2.data = .fields fs) →
    Env0 P w K mg base A outer s H → BindsTo s fd args (ps.zip us) → Vals vs us → sp p.1 c d vs H Q E0 → codeAny (model P w) A (.call (.ref f) args) (CR CX0 outer P w H s Q E0) s
theorem fnE_of {P : Program} {w : World} {K : PySem.W.Frag} {mg : Str → Option Value} {base : Heap} {k : Nat} {x : Str} {st : Stmt} {f : Addr} {fd : FuncData} {N ps : List Str} {sp : SpE} (F : C8.Fun K x x st f fd) (S : FnScope N ps (C8.fnScope st))
    (len : ∀ a c d vs H Q E, sp a c d vs H Q E → vs.length = ps.length)
    (body : ∀ (cdv : Value) (A : Around) (outer : List Env) (s : Shared) (H : Hp) (vs : List V) (Q : VK) (p : Addr × Obj) (c : Value) (d : Option Addr), Zc c d p.2 → (∃ fs, p.2.data = .fields fs) → L2H.RoomH k (A.deeper (envOfC x (C8.fnScope st) s.heap.objs.size f cdv)) → sp p.1 c d vs H Q E0 →
      ∃ t, PSs (L2H.cxH CX0 P w K mg base N x (C8.fnScope st) f cdv A outer s H E0 p) (C8.fnBody st) t ∧ t { nx := fun _ H' => Q .non H', rt := Q } (L2.start N vs) H) :
    FnE P w K mg base (k + 1) f fd ps sp := by
  obtain ⟨oc, od, dV, kV, doc, pm, an, cdv, ct, osl, rfl, lk, hcd⟩ := F.ex
  constructor
  · exact len
  intro A outer s H args us vs Q p c d room pin zc fld env binds rel want
  have size := len _ _ _ _ _ _ _ want
  have old : ∀ b o, base.get? b = some o → s.heap.get? b = some o := fun b o z => (env.bs b o z).1
  have inK : K.In s.heap := env.mod.kin.keeps old
  have kinds : ∀ y ∈ ps.zip us, (C8.fnScope st).names.lookup y.1 = some .local ∨
      ((C8.fnScope st).names.lookup y.1 = some .cell ∧ ((cellsFrom (s.heap.objs.size + 1) (C8.fnScope st).names []).lookup y.1).isSome = true) := by
    intro y hy
    have my := (List.of_mem_zip (a := y.1) (b := y.2) hy).1
    exact (S.par y.1 my).imp id fun z => ⟨z, PySem.W.cellsFrom_some _ _ _ (Or.inl z)⟩
  apply codeAny_call_function room.depth (inK _ _ lk) rfl S.co S.gen rfl (PySem.W.codeRec_of inK hcd)
  apply binds
  apply wpAny_newFunctionEnv_cells S.kind kinds
  intro env1 he s1 called
  subst he
  refine ⟨(env.mod.nolimit.keeps old).keeps called.toInCall.keep, codeAny_func ?_⟩
  obtain ⟨t, ht, read⟩ := body cdv A outer s H vs Q p c d zc fld (room.deeper _) want
  have I0 : Inv (L2H.cxH CX0 P w K mg base N x (C8.fnScope st) f cdv A outer s H E0 p) [] (L2.start N vs) H s1 := L2H.inv_startH S pin env size rel called
  refine wpAny_mono (ht.run [] s1 (L2.start N vs) H _ I0 read) (fun fl s2 q => ?_) fun _ _ q => q
  cases fl with
  | ret u =>
    obtain ⟨v, σ2, H2, J, rv, z⟩ := q
    exact ⟨v, H2, J.os, J.bare, J.base, J.hok, rv, z⟩
  | next =>
    obtain ⟨σ2, H2, J, z⟩ := q
    exact ⟨.non, H2, J.os, J.bare, J.base, J.hok, rfl, z⟩
  | brk =>
    obtain ⟨_, _, _, z⟩ := q
    exact z.elim
  | cont =>
    obtain ⟨_, _, _, z⟩ := q
    exact z.elim
section
variable {X : Cx} {p : Addr × Obj} {c : Value} {d : Option Addr} {k : Nat} {f : Addr} {fd : FuncData} {ps : List Str} {sp : SpE} {x : Str} {q pos : Pos} {e : Expr} {es : List Expr} {t : TA} {te : TE}
/-- f(e, ..) where the error is held -/
theorem pe_callE (F : FnE X.prog X.w X.K X.mg X.base k f fd ps sp) (hr : L2H.RoomH k X.A) (hp : p ∈ X.pn) (zc : Zc c d p.2) (fld : ∃ fs, p.2.data = .fields fs) (hg : Gl X x) (hm : X.mg x = some (.ref f)) (hk : PySem.W.keepIn X.K (.ref f) = true) (hb : Binds X.K fd ps [])
    (ha : PA X (e :: es) t) (hdb : (x == ("__debug__" : Str)) = false := by decide) (he : starEach (e :: es) X.env = (false, eval e X.env) :: starEach es X.env := by rfl) (hpl : (backTo pos (starEach es X.env)).any (·.1) = false := by rfl) :
    PE X (.Call (.Name x q) (e :: es) [] pos) (fun σ H Q => t σ H fun vs H1 => sp p.1 c d vs H1 Q E0) := by
  constructor
  intro pins s σ H Q I want
  apply wpAny_Call_Name_kw
  refine ld_glob I hg hm ?_ hdb
  refine PySem.W.callWith_K (h₀ := X.base) I.ok.mod.kin hk (thn (ha.run pos pins s σ H _ I want) ?_) he hpl
  rintro us s1 ⟨vs, H1, J, rel, z⟩
  refine ⟨J.kIn, ?_⟩
  have size : us.length = ps.length := by
    rw [← rel.length]
    exact F.len _ _ _ _ _ _ _ z
  have bind := hb s1 us J.kIn (by rw [List.append_nil]; exact size)
  rw [List.append_nil] at bind
  obtain ⟨p1, p2, p3, p4, p5⟩ := J.pin p (List.mem_append_left _ hp)
  have pin : L2H.PinOk X.stack H1 s1 p := ⟨p1, p2, fun z => (List.mem_cons.mp (J.stkSub p.1 z)).elim p3 p4, p5⟩
  refine wpAny_call (codeAny_mono (F.run X.A X.stack s1 H1 ⟨us, []⟩ us vs Q p c d hr pin zc fld J.env0 bind rel z) ?_)
  intro r s2 got
  cases r with
  | error er => exact got.elim
  | ok fl =>
    cases fl with
    | ret u => exact J.after got
    | next => exact got.elim
    | brk => exact got.elim
    | cont => exact got.elim
/-- the held error is an instance of its class -/
theorem heldAt {pins : List (Addr × Obj)} {σ : L2.St} {H : Hp} {s : Shared} {C dd : Addr} {fs : List (Str × V)} (I : Inv X pins σ H s) (hp : p ∈ X.pn) (zc : Zc (.ref C) (some dd) p.2) (fld : ∃ fs, p.2.data = .fields fs) (hd : H dd = some (.xd fs)) :
    ∃ od, PySem.W.InstAt s.heap p.1 p.2 C (some od) ∧ ∀ n v, fs.lookup n = some v → ∃ u, RelV v u ∧ PySem.W.lookIn n od = some (some u) := by
  obtain ⟨at1, _⟩ := I.pin p (List.mem_append_left _ hp)
  obtain ⟨vs, hdat⟩ := fld
  obtain ⟨mA, hns, hr⟩ := (show ObjOk X.prog X.w H s.heap dd (.xd fs) from I.hok dd _ hd)
  obtain ⟨od, ho, hl⟩ := lookIn_ns hns
  refine ⟨od, ⟨at1, zc.1, by unfold PySem.W.notCls; rw [hdat] <;> rfl, by rw [zc.2]; exact ho⟩, fun n v l => ?_⟩
  obtain ⟨u, hu, ru⟩ := RelO.some_of (v := v) (o := mA n) (by rw [← l]; exact hr n)
  exact ⟨u, ru, by rw [hl, hu]⟩
/-- isinstance(e, T), e the held error -/
theorem call_isX (hp : p ∈ X.pn) (zc : Zc c d p.2) (fld : ∃ fs, p.2.data = .fields fs) : CallR X (.builtin "isinstance") (fun xs H Q => ∃ (C dd : Addr) (fs : List (Str × V)) (y : V) (u : Value) (b : Bool),
    xs = [.ref p.1, y] ∧ c = .ref C ∧ d = some dd ∧ PySem.W.OtCls X.K C ∧ H dd = some (.xd fs) ∧ ClsV y u ∧ PySem.W.kitOne X.K (.ref C) u = some b ∧ Q (.bl b) H) := by
  rintro pins s σ H xs us Q I rel ⟨C, dd, fs, y, u, b, rfl, rfl, rfl, T, hd, hy, hb, z⟩
  obtain ⟨u1, u2, rfl, r1, r2⟩ := vals2 rel
  cases (show u1 = Value.ref p.1 from r1)
  cases hy.eq r2
  obtain ⟨od, J, _⟩ := heldAt I hp zc fld hd
  have isC : (PySem.W.clsIn X.K C).isSome = true := by
    obtain ⟨cd, q, _⟩ := PySem.W.any_some T.hdct
    rw [q]
    rfl
  exact PySem.W.kia_one (PySem.W.kitx_exc isC T.hga T.hgt T.hsub T.ha T.hn T.htk T.hm) I.kIn J hb (fun z => nomatch z) fun tk => ⟨.bl b, H, I.tok tk, rfl, z⟩
/-- e.n, e the held error, n a field of its own -/
theorem pe_fX {n : Str} (hp : p ∈ X.pn) (zc : Zc c d p.2) (fld : ∃ fs, p.2.data = .fields fs) (he : PE X e te) (hb : attributeBase e n X.env (eval e X.env) = eval e X.env := by rfl) :
    PE X (.Attribute e n pos) (fun σ H Q => te σ H fun y H1 => ∃ (C dd : Addr) (fs : List (Str × V)) (v : V), y = .ref p.1 ∧ c = .ref C ∧ d = some dd ∧ PySem.W.OtCls X.K C ∧ PySem.W.findIn X.K (.ref C) n = some none ∧ H1 dd = some (.xd fs) ∧ fs.lookup n = some v ∧ Q v H1) := by
  constructor
  intro pins s σ H Q I want
  refine attr_of hb (thn (he.run pins s σ H _ I want) ?_)
  rintro u s1 ⟨y, H1, J1, ry, C, dd, fs, v, rfl, rfl, rfl, T, hno, hd, hl, z⟩
  obtain rfl : u = Value.ref p.1 := ry
  obtain ⟨od, J, look⟩ := heldAt J1 hp zc fld hd
  obtain ⟨w1, rw1, lw⟩ := look n v hl
  exact HandSPX.exc_get J1.kIn J T.hga T.hgt T.hsub (PySem.W.findObj_own T.hdct hno rfl lw) (handed_of rw1) ⟨v, H1, J1.tok _, rw1, z⟩
end
end L2

namespace OT
open PySem
theorem b_int : bootBuiltins "int" = some (.type "int") := by decide +kernel
theorem b_str : bootBuiltins "str" = some (.type "str") := by decide +kernel
theorem b_bool : bootBuiltins "bool" = some (.type "bool") := by decide +kernel
theorem b_list : bootBuiltins "list" = some (.type "list") := by decide +kernel
theorem b_tuple : bootBuiltins "tuple" = some (.type "tuple") := by decide +kernel
theorem b_len : bootBuiltins "len" = some (.builtin "len") := by decide +kernel
theorem b_isinstance : bootBuiltins "isinstance" = some (.builtin "isinstance") := by decide +kernel
theorem b_any : bootBuiltins "any" = some (.builtin "any") := by decide +kernel
theorem b_all : bootBuiltins "all" = some (.builtin "all") := by decide +kernel
theorem b_sum : bootBuiltins "sum" = some (.builtin "sum") := by decide +kernel
theorem b_min : bootBuiltins "min" = some (.builtin "min") := by decide +kernel
theorem b_max : bootBuiltins "max" = some (.builtin "max") := by decide +kernel
theorem b_sorted : bootBuiltins "sorted" = some (.builtin "sorted") := by decide +kernel
theorem b_abs : bootBuiltins "abs" = some (.builtin "abs") := by decide +kernel
theorem b_ValueError : bootBuiltins "ValueError" = some (.type "ValueError") := by decide +kernel
end OT

set_option Elab.async false
set_option linter.all false
set_option maxRecDepth 100000
set_option maxHeartbeats 2000000
/-! Rows: sorted keys of a dict whose keys are tuples of ints; valid rows. -/
namespace L2
open PySem PySem.Spec PyProof.Rows
section
/-- what a sort leaves: the same values, ascending by their keys -/
theorem sort_left {κ : KeyKind} {vs : List Value} {a : Array Keyed} (perm : a.Perm (pairsOf vs)) (srt : SortedToK κ a (pairsOf vs).size) :
    (a.toList.map (·.2)).Perm vs ∧ (a.toList.map (·.2)).Pairwise fun x y => ∀ k l, κ.keyOf x = some k → κ.keyOf y = some l → κ.kle k l := by
  have pl : a.toList.Perm (vs.zip vs) := by
    rw [← pairsOf_toList]
    exact Array.perm_iff_toList_perm.mp perm
  have diag : ∀ p ∈ a.toList, p.1 = p.2 := fun p hp => (mem_zip_self (pl.mem_iff.mp hp)).1
  constructor
  · have e : (vs.zip vs).map (·.2) = vs := by
      rw [List.map_snd_zip]
      exact Nat.le_refl _
    have q := pl.map (·.2)
    rw [e] at q
    exact q
  · rw [List.pairwise_map, List.pairwise_iff_getElem]
    intro i j hi hj hij k l hk hl
    have hn : a.size = (pairsOf vs).size := perm.size_eq
    rw [Array.length_toList] at hi hj
    have s := srt i j (Nat.le_of_lt hij) (by omega)
    have at_ : ∀ n (h : n < a.size), ∀ m, κ.keyOf a.toList[n].2 = some m → KK κ a n = m := fun n h m hm => by
      unfold KK
      rw [Array.getElem?_eq_getElem h]
      have d := diag a.toList[n] (List.getElem_mem _)
      rw [← d] at hm
      rw [Array.getElem_toList] at hm
      dsimp only
      rw [hm]
      rfl
    rw [at_ i hi k hk, at_ j hj l hl] at s
    exact s
theorem lexLt_inl : ∀ k l : List Int, PyProof.Rows.lexLt itemOrd (k.map Sum.inl) (l.map Sum.inl) = HT.lexLt k l
  | [], [] => rfl
  | [], _ :: _ => rfl
  | _ :: _, [] => rfl
  | x :: r, y :: t => by
    rw [List.map_cons, List.map_cons, PyProof.Rows.lex_cons, lexLt_inl r t, HT.lexLt_cons]
    show (decide (x < y) || (!decide (y < x) && HT.lexLt r t)) = _
    by_cases h : x = y
    · rw [if_pos h, decide_eq_false (by omega), decide_eq_false (by omega)]
      rfl
    · rw [if_neg h]
      by_cases h2 : x < y
      · rw [decide_eq_true h2]
        rfl
      · rw [decide_eq_false h2, decide_eq_true (show y < x by omega)]
        rfl
theorem tupItems_ints : ∀ (ns : List Int) (us : List Value) (i : Nat), Vals (ns.map V.int) us → tupItems (fun _ => false) i us = some (ns.map Sum.inl)
  | [], _, _, .nil => rfl
  | n :: ns, _ :: us, i, .cons r t => by
    obtain ⟨tk, rfl⟩ := (show ∃ tk, _ = Value.int n tk from r)
    show (if (false : Bool) = true then none else (tupItems (fun _ => false) (i + 1) us).map (Sum.inl n :: ·)) = _
    rw [if_neg Bool.false_ne_true, tupItems_ints ns us (i + 1) t]
    rfl
theorem ints_inj : ∀ {k l : List Int}, k.map V.int = l.map V.int → k = l
  | [], [], _ => rfl
  | [], _ :: _, h => by cases h
  | _ :: _, [], h => by cases h
  | x :: r, y :: t, h => by
    rw [List.map_cons, List.map_cons] at h
    obtain ⟨e, h⟩ := List.cons.inj h
    rw [V.int.inj e, ints_inj h]
theorem vals_refs' : ∀ out : List (Addr × List Int), Vals (out.map fun x => V.ref x.1) (out.map fun x => Value.ref x.1)
  | [] => .nil
  | _ :: r => .cons rfl (vals_refs' r)
variable {X : Cx}
/-- sorted(d), the keys of d tuples of ints -/
theorem cr_sortedDT (hcalm : X.calm = true) : CallR X (.builtin "sorted") (fun xs H Q => ∃ (d : Addr) (kvs : List (List Key × V)) (ks : List (List Int)), xs = [.ref d] ∧ Rd H d (.dT kvs) ∧ kvs.map (·.1) = ks.map (fun k => k.map Sum.inl) ∧ (2 ≤ ks.length → ∀ k ∈ ks, k ≠ []) ∧
    ∀ (out : List (Addr × List Int)) (p : Addr), (out.map (·.2)).Perm ks → (out.map (·.2)).Pairwise (fun a b => HT.lexLt b a = false) → ks.Nodup → (∀ x ∈ out, H x.1 = some (.tup (x.2.map V.int))) → H p = none → Q (.ref p) (upd H p (.lst (out.map fun x => V.ref x.1)))) := by
  rintro pins s σ H xs us Q I rel ⟨d, kvs, ks, rfl, hd, hks, hne, want⟩
  obtain ⟨u, rfl, rx⟩ := rel.one
  cases rx
  obtain ⟨z, hs, xs, pr, o, es, ep, ho, hx, hdt, he, hn⟩ := (show ObjOk X.prog X.w H s.heap d (.dT kvs) from hd.ok I.hok)
  have l1 : es.size = xs.length := size_of_entries he
  have l2 : kvs.length = xs.length := Paired.length pr
  -- the keys' addresses
  have keyed : ∀ (kvs : List (List Key × V)) (xs : List (List Key × Addr × Value)) (ks : List (List Int)), Paired (fun (p : List Key × V) (q : List Key × Addr × Value) => p.1 = q.1 ∧ H q.2.1 = some (.tup (p.1.map kV)) ∧ RelV p.2 q.2.2) kvs xs → kvs.map (·.1) = ks.map (fun k => k.map Sum.inl) →
      xs.map (·.1) = ks.map (fun k => k.map Sum.inl) ∧ ∀ x ∈ (xs.map (·.2.1)).zip ks, H x.1 = some (.tup (x.2.map V.int)) := by
    intro kvs
    induction kvs with
    | nil =>
      intro xs ks pr hks
      cases pr
      cases ks with
      | nil => exact ⟨rfl, fun x hx => by cases hx⟩
      | cons k r => cases hks
    | cons a r ih =>
      intro xs ks pr hks
      cases pr with
      | cons h t =>
        rename_i q xs'
        cases ks with
        | nil => cases hks
        | cons k ks' =>
          obtain ⟨e1', e2⟩ := List.cons.inj hks
          have e1 : a.1 = k.map Sum.inl := e1'
          obtain ⟨i1, i2⟩ := ih _ _ t e2
          obtain ⟨h1, h2, _⟩ := h
          refine ⟨?_, fun x hx => ?_⟩
          · rw [List.map_cons, List.map_cons, i1, ← h1, e1]
          · rw [List.map_cons, List.zip_cons_cons] at hx
            rcases List.mem_cons.mp hx with e | hx
            · rw [e]
              show H q.2.1 = _
              rw [h2, e1, List.map_map]
              rfl
            · exact i2 x hx
  obtain ⟨kx, held⟩ := keyed kvs xs ks pr hks
  have lk : xs.length = ks.length := by
    have := congrArg List.length kx
    rwa [List.length_map, List.length_map] at this
  have nod : ks.Nodup := by
    rw [kx] at hn
    exact nodup_of_map hn
  apply Calls.call_function_entry kind_sorted plain_sorted entry_sorted (args_sorted1 (.ref d))
  unfold Builtin.«sorted»
  apply wpAny_bind (m := checkCount "sorted" 1 1 _)
  apply wpAny_pure
  refine wpAny_bind (PySem.W.kdu_collect (A := X.A.in1) (kdl_raw hs hx hdt) (I.ok.hd hcalm) ho (by omega) fun h' tk got hk hacc => ?_)
  have ea : got.toList = (xs.map (·.2.1)).map Value.ref := by
    have hl : got.toList.length = xs.length := by rw [Array.length_toList, hacc.1]; exact l1
    apply List.ext_getElem
    · rw [hl, List.length_map, List.length_map]
    · intro j hj1 hj2
      have g1 : got[j]? = some got.toList[j] := by
        rw [← Array.getElem?_toList]
        exact List.getElem?_eq_getElem hj1
      obtain ⟨en, hen, hv⟩ := hacc.2 j _ g1
      have qe := entry_at he j
      have hjx : j < xs.length := by omega
      rw [hen, List.getElem?_eq_getElem hjx] at qe
      have e2 := Option.some.inj qe
      rw [hv, e2, List.getElem_map, List.getElem_map]
      rfl
  have J1 : Inv X pins σ H { s with heap := h', toks := tk } := I.kept hk
  have gotk : got.toList.length = ks.length := by rw [ea, List.length_map, List.length_map, lk]
  have fits : got.toList.length ≤ sizeLine := by omega
  apply wpAny_bind
  refine wpAny_newList ?_ fits
  have atL : (h'.push (seqObj "list" got.toList.toArray 0)).get? h'.objs.size = some (seqObj "list" got.toList.toArray 0) := Heap.get?_push_size _ rfl
  show wpAny _ _ _ _ _ { s with heap := h'.push (seqObj "list" got.toList.toArray 0), toks := tk }
  -- each key stands in the heap
  have stands : ∀ (a : Addr) (k : List Int), H a = some (.tup (k.map V.int)) → ∃ its : List Value, Vals (k.map V.int) its ∧ IsTup h' a its.toArray := fun a k e => by
    obtain ⟨_, its, rv, it⟩ := (show ObjOk X.prog X.w H h' a (.tup (k.map V.int)) from J1.hok a _ e)
    exact ⟨its, rv, it⟩
  have keyOf : ∀ (a : Addr) (k : List Int), H a = some (.tup (k.map V.int)) → PyProof.Rows.G.tupKeyC (h'.push (seqObj "list" got.toList.toArray 0)) (fun _ => false) (.ref a) = some (k.map Sum.inl) := fun a k e => by
    obtain ⟨its, rv, ob, h1, h2, n, h3⟩ := stands a k e
    have g : (h'.push (seqObj "list" got.toList.toArray 0)).get? a = some ob := Heap.get?_push_of_some _ h1
    have it : PyProof.Rows.G.isTupObj (h'.push (seqObj "list" got.toList.toArray 0)) (.ref a) = true := by
      simp only [PyProof.Rows.G.isTupObj, g, h2]
      rfl
    unfold PyProof.Rows.G.tupKeyC
    rw [if_pos it]
    unfold tupKey
    dsimp only
    rw [g]
    dsimp only
    rw [h3]
    dsimp only
    exact tupItems_ints k its 0 rv
  have zipped : ∀ v ∈ got.toList, ∃ a k, v = Value.ref a ∧ k ∈ ks ∧ H a = some (.tup (k.map V.int)) := fun v hv => by
    obtain ⟨j, hj, e⟩ := List.getElem_of_mem hv
    have hjk : j < ks.length := by omega
    have hjx : j < (xs.map (·.2.1)).length := by rw [List.length_map]; omega
    have ev : v = Value.ref (xs.map (·.2.1))[j] := by
      rw [← e]
      simp only [ea, List.getElem_map]
    refine ⟨_, ks[j], ev, List.getElem_mem _, held ((xs.map (·.2.1))[j], ks[j]) ?_⟩
    rw [List.mem_iff_getElem]
    refine ⟨j, by rw [List.length_zip]; omega, ?_⟩
    rw [List.getElem_zip]
  have keys : KeysOf (PyProof.Rows.G.tupKindC (h'.push (seqObj "list" got.toList.toArray 0)) fun _ => false) (pairsOf got.toList) := PyProof.Rows.G.tupKeys fun v hv => by
    obtain ⟨a, k, rfl, _, hk⟩ := zipped v hv
    exact ⟨_, keyOf a k hk⟩
  have k6 := PyProof.Rows.G.keeps_sort6 (vs := got.toList) atL
  have tups : 2 ≤ got.toList.length → ∃ fs, 0 < fs.length ∧ TupsOf (h'.push (seqObj "list" got.toList.toArray 0)) (fun _ => false) got.toList fs := fun h2 => by
    have each : ∀ l : List Value, (∀ v ∈ l, ∃ a k, v = Value.ref a ∧ k ∈ ks ∧ H a = some (.tup (k.map V.int))) → ∃ fs, fs.length = l.length ∧ TupsOf (h'.push (seqObj "list" got.toList.toArray 0)) (fun _ => false) l fs := by
      intro l
      induction l with
      | nil => exact fun _ => ⟨[], rfl, .nil⟩
      | cons v r ih =>
        intro hv
        obtain ⟨fs, hl, ht⟩ := ih fun y hy => hv y (List.mem_cons_of_mem _ hy)
        obtain ⟨a, k, rfl, hm, hk⟩ := hv v List.mem_cons_self
        obtain ⟨its, rv, ob, h1, h2', n, h3⟩ := stands a k hk
        cases k with
        | nil => exact absurd rfl (hne (by omega) [] hm)
        | cons i k =>
          cases rv with
          | @cons _ u0 _ ur r0 rt =>
            obtain ⟨tk0, rfl⟩ := (show ∃ tk, u0 = Value.int i tk from r0)
            exact ⟨.int i tk0 :: fs, by rw [List.length_cons, List.length_cons, hl], .cons ⟨a, ob, _, n, rfl, Heap.get?_push_of_some _ h1, h2', h3, rfl, fun _ => ⟨i, tk0, rfl⟩, fun z => by cases z⟩ ht⟩
    obtain ⟨fs, hl, ht⟩ := each got.toList zipped
    exact ⟨fs, by omega, ht⟩
  refine wpAny_bind (wpAny_holding (wpAny_call_entry PyProof.Rows.slot_list_sort ⟨_, atL, rfl⟩ PyProof.Rows.entry_list_sort
    (PyProof.Rows.G.list_sort_treeG (κ := PyProof.Rows.G.tupKindC (h'.push (seqObj "list" got.toList.toArray 0)) fun _ => false) (kd := tuples' true) (s := { s with heap := h'.push (seqObj "list" got.toList.toArray 0), toks := tk }) atL keys
      (PyProof.Rows.G.tupC_ltAt true k6) (fun h2 R hq => ?kind) fits fun st' a1 a2 a3 => ⟨_, rfl, ?ret⟩) (PyProof.Rows.args_list_sort _)))
  case kind =>
    obtain ⟨fs, hl, ht⟩ := tups h2
    exact tup_kind hl (PyProof.Rows.G.TupsOf.keep k6 ht) hq
  case ret =>
    obtain ⟨o1, o2⟩ := sort_left a1 a2
    have out : ∃ out : List (Addr × List Int), (arrOf st').toList.map (·.2) = out.map (fun x => Value.ref x.1) ∧ ∀ x ∈ out, H x.1 = some (.tup (x.2.map V.int)) := by
      have each : ∀ l : List Value, (∀ v ∈ l, v ∈ got.toList) → ∃ out : List (Addr × List Int), l = out.map (fun x => Value.ref x.1) ∧ ∀ x ∈ out, H x.1 = some (.tup (x.2.map V.int)) := by
        intro l
        induction l with
        | nil => exact fun _ => ⟨[], rfl, fun x hx => by cases hx⟩
        | cons v r ih =>
          intro hv
          obtain ⟨out, e, ho'⟩ := ih fun y hy => hv y (List.mem_cons_of_mem _ hy)
          obtain ⟨a, k, rfl, _, hk⟩ := zipped v (hv v List.mem_cons_self)
          refine ⟨(a, k) :: out, by rw [List.map_cons, e], fun x hx => ?_⟩
          rcases List.mem_cons.mp hx with e' | hx
          · rw [e']
            exact hk
          · exact ho' x hx
      exact each _ fun v hv => o1.mem_iff.mp hv
    obtain ⟨out, eo, ho'⟩ := out
    obtain ⟨ep', he'⟩ := PyProof.Rows.sortedHeap_at (vs := got.toList) (out := (arrOf st').map (·.2)) atL
    have oz : out.length ≤ sizeLine := by
      have e1 := congrArg List.length eo
      have e2 := o1.length_eq
      rw [List.length_map] at e1 e2
      rw [List.length_map] at e1
      omega
    have inj : ∀ (a : Addr) (k l : List Int), H a = some (.tup (k.map V.int)) → H a = some (.tup (l.map V.int)) → k = l := fun a k l h1 h2 => by
      rw [h1] at h2
      exact ints_inj (HO.tup.inj (Option.some.inj h2))
    refine wpAny_pure ⟨_, rfl, .ref h'.objs.size, upd H h'.objs.size (.lst (out.map fun x => V.ref x.1)), J1.laid (t' := tk) (fun b u q => ?old) (Nat.le_refl _) ⟨by rw [List.length_map]; exact oz, ((arrOf st').map (·.2)).toList, ep', ?vals, he'⟩, rfl, want out _ ?perm ?pw nod ho' (J1.hok.fresh (Nat.le_refl _))⟩
    case old =>
      rw [PyProof.Rows.sortedHeap_old (Nat.ne_of_lt (Heap.lt_size q)) (Nat.lt_of_lt_of_le (Heap.lt_size q) (by rw [size_push']; exact Nat.le_succ _))]
      exact Heap.get?_push_of_some _ q
    case vals =>
      rw [Array.toList_map, eo]
      exact vals_refs' out
    case perm =>
      have p1 : (out.map (fun x => Value.ref x.1)).Perm got.toList := by rw [← eo]; exact o1
      have rd : ∀ v : Value, ∃ k : List Int, ∀ (a : Addr) (l : List Int), v = .ref a → H a = some (.tup (l.map V.int)) → k = l := fun v => by
        by_cases h : ∃ (a : Addr) (l : List Int), v = .ref a ∧ H a = some (.tup (l.map V.int))
        · obtain ⟨a, l, e, h⟩ := h
          refine ⟨l, fun a' l' e' h' => ?_⟩
          cases e.symm.trans e'
          exact inj _ _ _ h h'
        · exact ⟨[], fun a l e h' => absurd ⟨a, l, e, h'⟩ h⟩
      have p2 := p1.map fun v => (rd v).choose
      rw [List.map_map] at p2
      have e1 : out.map (((fun v => (rd v).choose)) ∘ fun x => Value.ref x.1) = out.map (·.2) := List.map_congr_left fun x hx => (rd (.ref x.1)).choose_spec _ _ rfl (ho' x hx)
      have e2 : got.toList.map (fun v => (rd v).choose) = ks := by
        apply List.ext_getElem
        · rw [List.length_map]; exact gotk
        · intro j h1 h2
          have h3 : j < (xs.map (·.2.1)).length := by rw [List.length_map]; omega
          rw [List.getElem_map]
          have ev : got.toList[j]'(by omega) = Value.ref (xs.map (·.2.1))[j] := by simp only [ea, List.getElem_map]
          refine (rd _).choose_spec _ _ ev (held ((xs.map (·.2.1))[j], ks[j]) ?_)
          rw [List.mem_iff_getElem]
          refine ⟨j, by rw [List.length_zip]; omega, ?_⟩
          rw [List.getElem_zip]
      rw [e1, e2] at p2
      exact p2
    case pw =>
      rw [eo, List.pairwise_map] at o2
      rw [List.pairwise_map]
      refine List.Pairwise.imp_of_mem (fun {x y} hx hy h => ?_) o2
      have hle := h _ _ (keyOf x.1 x.2 (ho' x hx)) (keyOf y.1 y.2 (ho' y hy))
      rw [← lexLt_inl]
      exact hle
end
end L2

set_option Elab.async false
set_option linter.all false
set_option maxRecDepth 100000
set_option maxHeartbeats 2000000
/-! rows: what a list of entries sums to, and the one row of the sums -/
namespace OT
open PySem PySem.Spec PyProof.Rows L2
abbrev Pl := List Int
abbrev Ent := List Int × Int
def numAt : List Ent → Pl → Int
  | [], _ => 0
  | e :: r, q => (if e.1 = q then e.2 else 0) + numAt r q
theorem numAt_app : ∀ (a b : List Ent) (q : Pl), numAt (a ++ b) q = numAt a q + numAt b q
  | [], b, q => by
    show numAt b q = 0 + numAt b q
    omega
  | e :: r, b, q => by
    show (if e.1 = q then e.2 else 0) + numAt (r ++ b) q = (if e.1 = q then e.2 else 0) + numAt r q + numAt b q
    rw [numAt_app r b q]
    omega
theorem numAt_out {es : List Ent} {q : Pl} (h : ∀ e ∈ es, e.1 ≠ q) : numAt es q = 0 := by
  induction es with
  | nil => rfl
  | cons e r ih =>
    show (if e.1 = q then e.2 else 0) + numAt r q = 0
    rw [if_neg (h e List.mem_cons_self), ih fun x hx => h x (List.mem_cons_of_mem _ hx)]
    rfl
theorem lt_irr (k : Pl) : HT.lexLt k k = false := by
  rw [← lexLt_inl]
  exact PyProof.Rows.lex_irrefl _
theorem lt_trans {a b c : Pl} (h1 : HT.lexLt a b = true) (h2 : HT.lexLt b c = true) : HT.lexLt a c = true := by
  rw [← lexLt_inl] at *
  exact PyProof.Rows.lex_trans _ _ _ h1 h2
theorem inl_inj {β : Type} : ∀ {a b : Pl}, a.map (Sum.inl : Int → Int ⊕ β) = b.map Sum.inl → a = b
  | [], [], _ => rfl
  | [], _ :: _, h => by cases h
  | _ :: _, [], h => by cases h
  | x :: r, y :: t, h => by
    rw [List.map_cons, List.map_cons] at h
    obtain ⟨e, h⟩ := List.cons.inj h
    rw [Sum.inl.inj e, inl_inj h]
theorem lt_tot {a b : Pl} (h1 : HT.lexLt a b = false) (h2 : HT.lexLt b a = false) : a = b := by
  rw [← lexLt_inl] at *
  exact inl_inj (PyProof.Rows.lex_total _ _ h1 h2)
theorem lt_ne {a b : Pl} (h : HT.lexLt a b = true) : a ≠ b := by
  rintro rfl
  rw [lt_irr] at h
  cases h
structure Valid (r : List Ent) : Prop where
  asc : r.Pairwise fun a b => HT.lexLt a.1 b.1 = true
  nz : ∀ e ∈ r, e.2 ≠ 0
theorem Valid.tail {e : Ent} {r : List Ent} (h : Valid (e :: r)) : Valid r := ⟨(List.pairwise_cons.mp h.asc).2, fun x hx => h.nz x (List.mem_cons_of_mem _ hx)⟩
theorem Valid.head_out {e : Ent} {r : List Ent} (h : Valid (e :: r)) {q : Pl} (hq : q = e.1 ∨ HT.lexLt q e.1 = true) : numAt r q = 0 := by
  refine numAt_out fun x hx z => ?_
  have h1 := (List.pairwise_cons.mp h.asc).1 x hx
  rcases hq with rfl | hq
  · exact lt_ne h1 z.symm
  · exact lt_ne (lt_trans hq h1) z.symm
theorem Valid.head_at {e : Ent} {r : List Ent} (h : Valid (e :: r)) : numAt (e :: r) e.1 = e.2 := by
  show (if e.1 = e.1 then e.2 else 0) + numAt r e.1 = e.2
  rw [if_pos rfl, h.head_out (.inl rfl)]
  omega
theorem Valid.low {e : Ent} {r : List Ent} (h : Valid (e :: r)) {q : Pl} (hq : HT.lexLt q e.1 = true) : numAt (e :: r) q = 0 := by
  show (if e.1 = q then e.2 else 0) + numAt r q = 0
  rw [if_neg (fun z => lt_ne hq z.symm), h.head_out (.inr hq)]
  rfl
theorem Valid.ext : ∀ {r t : List Ent}, Valid r → Valid t → (∀ q, numAt r q = numAt t q) → r = t
  | [], [], _, _, _ => rfl
  | [], e :: t, _, ht, h => by
    have h1 := h e.1
    rw [ht.head_at] at h1
    exact absurd h1.symm (ht.nz e List.mem_cons_self)
  | e :: r, [], hr, _, h => by
    have h1 := h e.1
    rw [hr.head_at] at h1
    exact absurd h1 (hr.nz e List.mem_cons_self)
  | e :: r, f :: t, hr, ht, h => by
    have k : e.1 = f.1 := by
      refine lt_tot ?_ ?_
      · cases z : HT.lexLt e.1 f.1 with
        | false => rfl
        | true =>
          have h1 := h e.1
          rw [hr.head_at, ht.low z] at h1
          exact absurd h1 (hr.nz e List.mem_cons_self)
      · cases z : HT.lexLt f.1 e.1 with
        | false => rfl
        | true =>
          have h1 := h f.1
          rw [ht.head_at, hr.low z] at h1
          exact absurd h1.symm (ht.nz f List.mem_cons_self)
    have n : e.2 = f.2 := by
      have h1 := h e.1
      rw [hr.head_at, k, ht.head_at] at h1
      exact h1
    have ef : e = f := Prod.ext k n
    subst ef
    refine congrArg _ (Valid.ext hr.tail ht.tail fun q => ?_)
    have h1 := h q
    have h2 : (if e.1 = q then e.2 else 0) + numAt r q = (if e.1 = q then e.2 else 0) + numAt t q := h1
    omega
/-- the row of the sums -/
structure RowIs (r es : List Ent) : Prop where
  v : Valid r
  s : ∀ q, numAt r q = numAt es q
theorem RowIs.one {r t es : List Ent} (h1 : RowIs r es) (h2 : RowIs t es) : r = t := h1.v.ext h2.v fun q => (h1.s q).trans (h2.s q).symm
theorem Valid.at : ∀ {r : List Ent}, Valid r → ∀ e ∈ r, numAt r e.1 = e.2
  | f :: t, h, e, he => by
    rcases List.mem_cons.mp he with rfl | he
    · exact h.head_at
    · show (if f.1 = e.1 then f.2 else 0) + numAt t e.1 = e.2
      rw [if_neg (lt_ne ((List.pairwise_cons.mp h.asc).1 e he)), Valid.at h.tail e he]
      omega
theorem RowIs.mem {r es : List Ent} (h : RowIs r es) {e : Ent} (he : e ∈ r) : ∃ x ∈ es, x.1 = e.1 := by
  have h1 := h.v.at e he
  rw [h.s] at h1
  by_cases z : ∃ x ∈ es, x.1 = e.1
  · exact z
  · rw [numAt_out fun x hx y => z ⟨x, hx, y⟩] at h1
    exact absurd h1.symm (h.v.nz e he)
theorem Valid.len : ∀ {r : List Ent} {l : List Pl}, Valid r → (∀ e ∈ r, e.1 ∈ l) → r.length ≤ l.length
  | [], _, _, _ => Nat.zero_le _
  | e :: t, l, h, k => by
    have h1 := k e List.mem_cons_self
    have ih := Valid.len (l := l.erase e.1) h.tail fun x hx => (List.mem_erase_of_ne (lt_ne ((List.pairwise_cons.mp h.asc).1 x hx)).symm).mpr (k x (List.mem_cons_of_mem _ hx))
    rw [List.length_erase_of_mem h1] at ih
    have h2 := List.length_pos_of_mem h1
    rw [List.length_cons]
    omega
theorem RowIs.len {r es : List Ent} (h : RowIs r es) : r.length ≤ es.length := by
  have := h.v.len (l := es.map (·.1)) fun e he => by
    obtain ⟨x, hx, ex⟩ := h.mem he
    rw [← ex]
    exact List.mem_map_of_mem hx
  rwa [List.length_map] at this
/-- the entries of the keys in turn -/
def mkR (f : Pl → Int) : List Pl → List Ent
  | [] => []
  | k :: r => if f k = 0 then mkR f r else (k, f k) :: mkR f r
theorem mkR_snoc (f : Pl → Int) (k : Pl) : ∀ ks : List Pl, mkR f (ks ++ [k]) = mkR f ks ++ (if f k = 0 then [] else [(k, f k)])
  | [] => by
    show (if f k = 0 then [] else [(k, f k)]) = [] ++ _
    rw [List.nil_append]
  | x :: r => by
    show (if f x = 0 then mkR f (r ++ [k]) else (x, f x) :: mkR f (r ++ [k])) = (if f x = 0 then mkR f r else (x, f x) :: mkR f r) ++ _
    rw [mkR_snoc f k r]
    by_cases h : f x = 0
    · rw [if_pos h, if_pos h]
    · rw [if_neg h, if_neg h]
      rfl
theorem mkR_mem {f : Pl → Int} {e : Ent} : ∀ {ks : List Pl}, e ∈ mkR f ks → e.1 ∈ ks ∧ e.2 = f e.1 ∧ e.2 ≠ 0
  | k :: r, h => by
    have h' : e ∈ (if f k = 0 then mkR f r else (k, f k) :: mkR f r) := h
    by_cases z : f k = 0
    · rw [if_pos z] at h'
      obtain ⟨h1, h2⟩ := mkR_mem h'
      exact ⟨List.mem_cons_of_mem _ h1, h2⟩
    · rw [if_neg z] at h'
      rcases List.mem_cons.mp h' with rfl | h'
      · exact ⟨List.mem_cons_self, rfl, z⟩
      · obtain ⟨h1, h2⟩ := mkR_mem h'
        exact ⟨List.mem_cons_of_mem _ h1, h2⟩
theorem mkR_valid {f : Pl → Int} : ∀ {ks : List Pl}, ks.Pairwise (fun a b => HT.lexLt a b = true) → Valid (mkR f ks)
  | [], _ => ⟨.nil, fun e h => by cases h⟩
  | k :: r, h => by
    obtain ⟨h1, h2⟩ := List.pairwise_cons.mp h
    have ih := mkR_valid (f := f) h2
    show Valid (if f k = 0 then mkR f r else (k, f k) :: mkR f r)
    by_cases z : f k = 0
    · rw [if_pos z]
      exact ih
    · rw [if_neg z]
      refine ⟨List.pairwise_cons.mpr ⟨fun e he => h1 _ (mkR_mem he).1, ih.asc⟩, fun e he => ?_⟩
      rcases List.mem_cons.mp he with rfl | he
      · exact z
      · exact ih.nz e he
theorem mkR_sum {f : Pl → Int} : ∀ {ks : List Pl}, ks.Nodup → ∀ q, numAt (mkR f ks) q = if q ∈ ks then f q else 0
  | [], _, q => rfl
  | k :: r, h, q => by
    obtain ⟨h1, h2⟩ := List.nodup_cons.mp h
    have ih := mkR_sum (f := f) h2 q
    show numAt (if f k = 0 then mkR f r else (k, f k) :: mkR f r) q = _
    have key : numAt (if f k = 0 then mkR f r else (k, f k) :: mkR f r) q = (if k = q then f k else 0) + numAt (mkR f r) q := by
      by_cases z : f k = 0
      · rw [if_pos z, z, ite_self]
        omega
      · rw [if_neg z]
        rfl
    rw [key, ih]
    by_cases e : k = q
    · subst e
      rw [if_pos rfl, if_neg h1, if_pos List.mem_cons_self]
      omega
    · rw [if_neg e]
      by_cases m : q ∈ r
      · rw [if_pos m, if_pos (List.mem_cons_of_mem _ m)]
        omega
      · rw [if_neg m, if_neg]
        · rfl
        · intro hq
          rcases List.mem_cons.mp hq with rfl | hq
          · exact e rfl
          · exact m hq
/-- a dict of sums: its keys are ks, at k it holds f k -/
structure Sums (kvs : List (List Key × V)) (ks : List Pl) (f : Pl → Int) : Prop where
  keys : kvs.map (·.1) = ks.map fun k => k.map Sum.inl
  val : ∀ k : Pl, valV kvs (k.map Sum.inl) = if k ∈ ks then some (V.int (f k)) else none
  out : ∀ k, k ∉ ks → f k = 0
theorem Sums.nil : Sums [] [] (fun _ => 0) := ⟨rfl, fun k => rfl, fun _ _ => rfl⟩
theorem Sums.len {kvs : List (List Key × V)} {ks : List Pl} {f : Pl → Int} (h : Sums kvs ks f) : kvs.length = ks.length := by
  have := congrArg List.length h.keys
  rwa [List.length_map, List.length_map] at this
theorem putK_keys {κ : Type} [DecidableEq κ] {kvs : List (κ × V)} {k : κ} {v : V} (h : (valV kvs k).isSome = true) : (putK kvs k v).map (·.1) = kvs.map (·.1) := by
  unfold putK
  rw [valV_any, if_pos h, List.map_map]
  refine List.map_congr_left fun x _ => ?_
  show (if x.1 = k then (x.1, v) else x).1 = x.1
  by_cases e : x.1 = k
  · rw [if_pos e]
  · rw [if_neg e]
theorem Sums.put {kvs : List (List Key × V)} {ks : List Pl} {f : Pl → Int} (h : Sums kvs ks f) (k : Pl) (n : Int) :
    Sums (putK kvs (k.map Sum.inl) (.int (f k + n))) (if k ∈ ks then ks else ks ++ [k]) (fun q => f q + if k = q then n else 0) := by
  have hv := h.val k
  refine ⟨?_, fun q => ?_, fun q hq => ?_⟩
  · by_cases m : k ∈ ks
    · rw [if_pos m] at hv ⊢
      rw [putK_keys (by rw [hv]; rfl), h.keys]
    · rw [if_neg m] at hv ⊢
      rw [putK_new _ hv, List.map_append, List.map_append, h.keys]
      rfl
  · rw [valV_put, h.val]
    by_cases e : q = k
    · subst e
      rw [if_pos rfl, if_pos rfl, if_pos]
      by_cases m : q ∈ ks
      · rw [if_pos m]
        exact m
      · rw [if_neg m]
        exact List.mem_append_right _ List.mem_cons_self
    · have ne1 : ¬ (q.map (Sum.inl : Int → Key) = k.map Sum.inl) := fun z => e (inl_inj z)
      have ne2 : ¬ (k = q) := fun z => e z.symm
      rw [if_neg ne1, if_neg ne2]
      have mm : (q ∈ if k ∈ ks then ks else ks ++ [k]) ↔ q ∈ ks := by
        by_cases m : k ∈ ks
        · rw [if_pos m]
        · rw [if_neg m, List.mem_append, List.mem_singleton]
          exact ⟨fun z => z.elim id fun z => absurd z e, .inl⟩
      by_cases m : q ∈ ks
      · rw [if_pos m, if_pos (mm.mpr m), Int.add_zero]
      · rw [if_neg m, if_neg (fun z => m (mm.mp z))]
  · have hq2 : q ∉ ks ∧ k ≠ q := by
      by_cases m : k ∈ ks
      · rw [if_pos m] at hq
        exact ⟨hq, fun z => hq (z ▸ m)⟩
      · rw [if_neg m] at hq
        exact ⟨fun z => hq (List.mem_append_left _ z), fun z => hq (List.mem_append_right _ (z ▸ List.mem_cons_self))⟩
    show f q + (if k = q then n else 0) = 0
    rw [if_neg hq2.2, h.out q hq2.1]
    rfl
theorem Sums.next {kvs : List (List Key × V)} {ks : List Pl} {es : List Ent} {i : Nat} {e : Ent} (hi : es[i]? = some e) (h : Sums kvs ks (numAt (es.take i))) :
    Sums (putK kvs (e.1.map Sum.inl) (.int (numAt (es.take i) e.1 + e.2))) (if e.1 ∈ ks then ks else ks ++ [e.1]) (numAt (es.take (i + 1))) := by
  have he : es.take (i + 1) = es.take i ++ [e] := by
    obtain ⟨h1, h2⟩ := List.getElem?_eq_some_iff.mp hi
    rw [List.take_add_one, hi]
    rfl
  have hf : numAt (es.take (i + 1)) = fun q => numAt (es.take i) q + if e.1 = q then e.2 else 0 := by
    funext q
    rw [he, numAt_app]
    show _ + ((if e.1 = q then e.2 else 0) + 0) = _
    omega
  rw [hf]
  exact h.put e.1 e.2
theorem Sums.get {kvs : List (List Key × V)} {ks : List Pl} {f : Pl → Int} (h : Sums kvs ks f) {k : Pl} (m : k ∈ ks) : valV kvs (k.map Sum.inl) = some (.int (f k)) := by
  rw [h.val, if_pos m]
theorem Sums.getD {kvs : List (List Key × V)} {ks : List Pl} {f : Pl → Int} (h : Sums kvs ks f) (k : Pl) : (valV kvs (k.map Sum.inl)).getD (.int 0) = .int (f k) := by
  rw [h.val]
  by_cases m : k ∈ ks
  · rw [if_pos m]
    rfl
  · rw [if_neg m, h.out k m]
    rfl
/-- sorted keys' entries are the row -/
theorem row_sorted {es : List Ent} {ks out : List Pl} (perm : out.Perm ks) (pw : out.Pairwise fun a b => HT.lexLt b a = false) (nod : ks.Nodup) (all : ∀ q, q ∉ ks → numAt es q = 0) : RowIs (mkR (numAt es) out) es := by
  have no : out.Nodup := perm.nodup_iff.mpr nod
  have asc : out.Pairwise fun a b => HT.lexLt a b = true := by
    have both := List.pairwise_and_iff.mpr ⟨pw, no⟩
    refine both.imp fun {a b} h => ?_
    cases z : HT.lexLt a b with
    | true => rfl
    | false => exact absurd (lt_tot z h.1) h.2
  refine ⟨mkR_valid asc, fun q => ?_⟩
  rw [mkR_sum no]
  by_cases m : q ∈ out
  · rw [if_pos m]
  · rw [if_neg m, all q fun z => m (perm.mem_iff.mpr z)]
/-! ### rows in the heap -/
def EntAt (H : Hp) (v : V) (e : Ent) : Prop := ∃ t p, v = .ref t ∧ H t = some (.tup [.ref p, .int e.2]) ∧ H p = some (.tup (e.1.map V.int))
inductive Ents (H : Hp) : List V → List Ent → Prop
  | nil : Ents H [] []
  | cons {v : V} {e : Ent} {vs : List V} {es : List Ent} : EntAt H v e → Ents H vs es → Ents H (v :: vs) (e :: es)
theorem Ents.len {H : Hp} {vs : List V} {es : List Ent} (h : Ents H vs es) : vs.length = es.length := by
  induction h with
  | nil => rfl
  | cons _ _ ih => rw [List.length_cons, List.length_cons, ih]
theorem EntAt.mono {H H' : Hp} {v : V} {e : Ent} (s : ∀ b o, H b = some o → H' b = some o) (h : EntAt H v e) : EntAt H' v e := by
  obtain ⟨t, p, rfl, h1, h2⟩ := h
  exact ⟨t, p, rfl, s _ _ h1, s _ _ h2⟩
theorem Ents.mono {H H' : Hp} {vs : List V} {es : List Ent} (s : ∀ b o, H b = some o → H' b = some o) (h : Ents H vs es) : Ents H' vs es := by
  induction h with
  | nil => exact .nil
  | cons h1 _ ih => exact .cons (h1.mono s) ih
theorem Ents.app {H : Hp} {vs ws : List V} {es fs : List Ent} (h : Ents H vs es) (g : Ents H ws fs) : Ents H (vs ++ ws) (es ++ fs) := by
  induction h with
  | nil => exact g
  | cons h1 _ ih => exact .cons h1 ih
theorem Ents.get {H : Hp} {vs : List V} {es : List Ent} (h : Ents H vs es) : ∀ {i : Nat} {v : V}, vs[i]? = some v → ∃ e, es[i]? = some e ∧ EntAt H v e := by
  induction h with
  | nil => intro i v h; simp at h
  | cons h1 _ ih =>
    intro i v hv
    cases i with
    | zero =>
      cases hv
      exact ⟨_, rfl, h1⟩
    | succ i => exact ih (i := i) hv
theorem Ents.at {H : Hp} {vs : List V} {es : List Ent} (h : Ents H vs es) {i : Nat} (hi : i < es.length) : ∃ v, vs[i]? = some v ∧ EntAt H v es[i] := by
  have h2 : i < vs.length := by rw [h.len]; exact hi
  obtain ⟨e, h3, h4⟩ := h.get (List.getElem?_eq_getElem h2)
  rw [List.getElem?_eq_getElem hi] at h3
  cases h3
  exact ⟨_, List.getElem?_eq_getElem h2, h4⟩
theorem Ents.set {H : Hp} {vs : List V} {es : List Ent} {v : V} {e : Ent} (h : Ents H vs es) (h1 : EntAt H v e) : ∀ i, Ents H (vs.set i v) (es.set i e) := by
  induction h with
  | nil => intro i; exact .nil
  | cons a b ih =>
    intro i
    cases i with
    | zero => exact .cons h1 b
    | succ i => exact .cons a (ih i)
/-- as data -/
def dPl (k : Pl) : PyData := .tuple (k.map .int)
def dEnt (e : Ent) : PyData := .tuple [dPl e.1, .int e.2]
def dRow (es : List Ent) : PyData := .list (es.map dEnt)
theorem dp_ints {K : PySem.W.Frag} {H : Hp} : ∀ k : Pl, DpAll K H (k.map V.int) (k.map PyData.int)
  | [] => .nil
  | n :: r => .cons (.int n) (dp_ints r)
theorem EntAt.dp {K : PySem.W.Frag} {H : Hp} {v : V} {e : Ent} (h : EntAt H v e) : Dp K H v (dEnt e) := by
  obtain ⟨t, p, rfl, h1, h2⟩ := h
  exact .tup (.inl (.inl h1)) (.cons (.tup (.inl (.inl h2)) (dp_ints _)) (.cons (.int _) .nil))
theorem Ents.dpAll {K : PySem.W.Frag} {H : Hp} {vs : List V} {es : List Ent} (h : Ents H vs es) : DpAll K H vs (es.map dEnt) := by
  induction h with
  | nil => exact .nil
  | cons h1 _ ih => exact .cons h1.dp ih
theorem Ents.dp {K : PySem.W.Frag} {H : Hp} {a : Addr} {vs : List V} {es : List Ent} (ha : SqL K H a vs) (h : Ents H vs es) : Dp K H (.ref a) (dRow es) := .lst ha h.dpAll
theorem lay_ints : ∀ k : Pl, PyData.canLayAll0 (k.map PyData.int) = true
  | [] => rfl
  | n :: r => by
    show (PyData.canLay0 (.int n) && PyData.canLayAll0 (r.map PyData.int)) = true
    rw [lay_ints r]
    rfl
theorem lay_row : ∀ es : List Ent, PyData.canLayAll0 (es.map dEnt) = true
  | [] => rfl
  | e :: r => by
    show (PyData.canLay0 (dEnt e) && PyData.canLayAll0 (r.map dEnt)) = true
    rw [lay_row r]
    show ((PyData.canLayAll0 (e.1.map PyData.int) && (PyData.canLay0 (.int e.2) && true)) && true) = true
    rw [lay_ints]
    rfl
end OT

set_option Elab.async false
set_option linter.all false
set_option maxRecDepth 100000
set_option maxHeartbeats 4000000
/-! raise C(), an own class whose __init__ takes no argument but the error itself -/
namespace L2
open PySem PySem.Spec PyProof.Rows PySem.W PySem.Calls PySem.HandSPX
section
variable {X : Cx} {p pos : Pos} {pins : List (Addr × Obj)} {σ : St} {H : Hp} {st : Shared}
/-- the heap with the bare error and its empty arguments behind the old objects -/
def bareHeap (C : Addr) (h : Heap) : Heap := (h.push (kdv_tup [])).push (excO C h.objs.size)
theorem bare_grows {C : Addr} {h : Heap} (b : Addr) (o : Obj) (e : h.get? b = some o) : (bareHeap C h).get? b = some o := Heap.get?_push_of_some _ (Heap.get?_push_of_some _ e)
theorem bare_there {C : Addr} {h : Heap} : (bareHeap C h).get? (h.objs.size + 1) = some (excO C h.objs.size) := by
  show ((h.push (kdv_tup [])).push (excO C h.objs.size)).get? (h.objs.size + 1) = _
  heap_get
theorem bare_inv {C : Addr} (I : Inv X pins σ H st) : H (st.heap.objs.size + 1) = none ∧ Inv X pins σ (upd H (st.heap.objs.size + 1) (exo (st.heap.objs.size + 1) C none)) ⟨bareHeap C st.heap, st.gens, st.drawn, st.toks, st.os⟩ :=
  ⟨I.hok.fresh (Nat.le_succ _), I.laid (t' := st.toks) (a := st.heap.objs.size + 1) (h' := bareHeap C st.heap) (o := exo (st.heap.objs.size + 1) C none) bare_grows (Nat.le_succ _) (exo_ok bare_there)⟩
theorem pmk_oex0 {CX : CXT} {x : Str} {C fI : Addr} {k : Nat} {fd : FuncData} {ps : List Str} {sp : Sp} (T : OexC X.K C) (iC : findIn X.K (.ref C) "__init__" = some (some (.ref fI))) (tI : typeIn X.K (.ref fI) = some (.type "function"))
    (G : FnOk X.prog X.w X.K X.mg X.base CX k fI fd ps sp) (hr : Room (k + 1) X.A) (bi : Binds X.K fd ps []) (no : Passes CX X fun _ _ _ => False) (hg : Gl X x) (hm : X.mg x = some (.ref C)) (nd : (x == ("__debug__" : Str)) = false := by decide) :
    PMk X (.Call (.Name x p) [] [] pos) (tMkO C sp [] tNil) := by
  intro pins σ0 σ H Q I want
  rcases σ0 with ⟨h, gs, dw, ts, os⟩
  obtain ⟨_, _, _, _, bm, _, _, _, _, _, _, _, _, _, _, stands, vb⟩ := T.cls
  obtain ⟨_, ask⟩ := want
  obtain ⟨free, J⟩ := bare_inv (C := C) I
  have promise := ask (h.objs.size + 1) free
  have one : ([Value.ref (h.objs.size + 1)] : List Value).length = ps.length := (G.len _ _ _ _ promise).symm ▸ rfl
  have body := G.run (X.A.under (.builtin "type.__call__" ⟨[.ref C], []⟩)) X.stack _ _ ⟨[.ref (h.objs.size + 1)], []⟩ [.ref (h.objs.size + 1)] _ _ (fun _ _ _ => False) (hr.make C [] []) (J.env0.make C [] []) (bi _ [.ref (h.objs.size + 1)] J.kIn one) (show Vals [V.ref (h.objs.size + 1)] [Value.ref (h.objs.size + 1)] from .cons rfl .nil) promise
  refine wpAny_Call_Name_kw (ld_glob I hg hm (callWith_K0 I.kIn T.kC ?_) nd)
  refine wpAny_call (call_own (rest := []) F.excBase_ValueError (fun Y => refsVE_contains Y bm vb) (I.kIn _ _ stands) (looks_findIn I.kIn iC) (fun me => bind_fn I.kIn me tI) (Nat.zero_le _) (codeAny_mono body ?_))
  rintro (er | fl) s2 end_
  · exact no pins σ _ _ er s2 J end_
  · cases fl with
    | ret u =>
      rcases s2 with ⟨h2, gs2, dw2, ts2, os2⟩
      obtain ⟨_, H2, same, bare, un, ok2, rel, rfl, d, fs, at_a, at_d, new, q⟩ := end_
      exact ⟨rel, mk_end (raises_own T.exC T.tyC) I (Nat.le_succ _) bare_grows un ok2 same bare at_a at_d new q⟩
    | next => cases end_
    | brk => cases end_
    | cont => cases end_
end
end L2

set_option Elab.async false
set_option linter.all false
set_option maxRecDepth 100000
set_option maxHeartbeats 2000000
/-! sums over entries with weights: they depend on the sums at the places alone -/
namespace OT
open PySem PySem.Spec PyProof.Rows L2
def sumW (w : Pl → Int) : List Ent → Int
  | [] => 0
  | e :: r => e.2 * w e.1 + sumW w r
theorem sumW_app (w : Pl → Int) : ∀ a b : List Ent, sumW w (a ++ b) = sumW w a + sumW w b
  | [], b => by show sumW w b = 0 + sumW w b; omega
  | e :: r, b => by
    show e.2 * w e.1 + sumW w (r ++ b) = e.2 * w e.1 + sumW w r + sumW w b
    rw [sumW_app w r b]
    omega
/-- 1 at the place -/
def at1 (q : Pl) : Pl → Int := fun k => if k = q then 1 else 0
theorem numAt_sumW (q : Pl) : ∀ es : List Ent, numAt es q = sumW (at1 q) es
  | [] => rfl
  | e :: r => by
    show (if e.1 = q then e.2 else 0) + numAt r q = e.2 * (if e.1 = q then 1 else 0) + sumW (at1 q) r
    rw [numAt_sumW q r]
    by_cases h : e.1 = q
    · rw [if_pos h, if_pos h, Int.mul_one]
    · rw [if_neg h, if_neg h, Int.mul_zero]
def negs (es : List Ent) : List Ent := es.map fun e => (e.1, -e.2)
theorem numAt_negs (q : Pl) : ∀ es : List Ent, numAt (negs es) q = - numAt es q
  | [] => rfl
  | e :: r => by
    have ih := numAt_negs q r
    show (if e.1 = q then -e.2 else 0) + numAt (negs r) q = -((if e.1 = q then e.2 else 0) + numAt r q)
    rw [ih]
    by_cases h : e.1 = q
    · rw [if_pos h, if_pos h]; omega
    · rw [if_neg h, if_neg h]; omega
theorem sumW_negs (w : Pl → Int) : ∀ es : List Ent, sumW w (negs es) = - sumW w es
  | [] => rfl
  | e :: r => by
    have ih := sumW_negs w r
    show -e.2 * w e.1 + sumW w (negs r) = -(e.2 * w e.1 + sumW w r)
    rw [ih, Int.neg_mul]
    omega
def off (k : Pl) (es : List Ent) : List Ent := es.filter fun e => decide (e.1 ≠ k)
theorem sumW_off (w : Pl → Int) (k : Pl) : ∀ es : List Ent, sumW w es = numAt es k * w k + sumW w (off k es)
  | [] => by show (0 : Int) = 0 * w k + 0; rw [Int.zero_mul]; rfl
  | e :: r => by
    have ih := sumW_off w k r
    show e.2 * w e.1 + sumW w r = ((if e.1 = k then e.2 else 0) + numAt r k) * w k + sumW w (off k (e :: r))
    unfold off at ih ⊢
    rw [List.filter_cons]
    by_cases h : e.1 = k
    · rw [if_pos h, if_neg (by simp [h]), ih, Int.add_mul, h]
      omega
    · rw [if_neg h, if_pos (decide_eq_true h), ih]
      show e.2 * w e.1 + _ = (0 + numAt r k) * w k + (e.2 * w e.1 + _)
      rw [Int.zero_add]
      omega
theorem numAt_off (k q : Pl) (es : List Ent) : numAt (off k es) q = if q = k then 0 else numAt es q := by
  by_cases h : q = k
  · subst h
    rw [if_pos rfl]
    refine numAt_out fun e he => ?_
    exact of_decide_eq_true (List.mem_filter.mp he).2
  · rw [if_neg h]
    have h1 := sumW_off (at1 q) k es
    rw [← numAt_sumW, ← numAt_sumW] at h1
    have : at1 q k = 0 := if_neg fun z => h z.symm
    rw [this, Int.mul_zero] at h1
    omega
theorem off_len {k : Pl} : ∀ {es : List Ent}, (∃ e ∈ es, e.1 = k) → (off k es).length < es.length := by
  intro es ⟨e, he, hk⟩
  unfold off
  refine List.length_filter_lt_length_iff_exists.mpr ⟨e, he, ?_⟩
  simp [hk]
theorem sumW_zero (w : Pl → Int) : ∀ (n : Nat) (es : List Ent), es.length ≤ n → (∀ q, numAt es q = 0) → sumW w es = 0
  | _, [], _, _ => rfl
  | 0, e :: r, h, _ => by simp at h
  | n + 1, e :: r, h, z => by
    rw [sumW_off w e.1, z e.1, Int.zero_mul, Int.zero_add]
    refine sumW_zero w n _ ?_ fun q => ?_
    · have := off_len (k := e.1) (es := e :: r) ⟨e, List.mem_cons_self, rfl⟩
      omega
    · rw [numAt_off]
      by_cases hq : q = e.1
      · rw [if_pos hq]
      · rw [if_neg hq]
        exact z q
/-- the key: sums with weights depend on the sums at the places alone -/
theorem sumW_eq (w : Pl → Int) {a b : List Ent} (h : ∀ q, numAt a q = numAt b q) : sumW w a = sumW w b := by
  have z := sumW_zero w _ (a ++ negs b) (Nat.le_refl _) fun q => by
    rw [numAt_app, numAt_negs, h q]
    omega
  rw [sumW_app, sumW_negs] at z
  omega
theorem RowIs.sum {r es : List Ent} (h : RowIs r es) (w : Pl → Int) : sumW w r = sumW w es := sumW_eq w h.s
/-- places moved by a function -/
def mapF (f : Pl → Pl) (es : List Ent) : List Ent := es.map fun e => (f e.1, e.2)
theorem sumW_mapF (w : Pl → Int) (f : Pl → Pl) : ∀ es : List Ent, sumW w (mapF f es) = sumW (fun k => w (f k)) es
  | [] => rfl
  | e :: r => by
    have ih := sumW_mapF w f r
    show e.2 * w (f e.1) + sumW w (mapF f r) = e.2 * w (f e.1) + sumW (fun k => w (f k)) r
    rw [ih]
theorem sumW_congr {w v : Pl → Int} : ∀ {es : List Ent}, (∀ e ∈ es, w e.1 = v e.1) → sumW w es = sumW v es
  | [], _ => rfl
  | e :: r, h => by
    show e.2 * w e.1 + sumW w r = e.2 * v e.1 + sumW v r
    rw [h e List.mem_cons_self, sumW_congr fun x hx => h x (List.mem_cons_of_mem _ hx)]
theorem numAt_mapF_eq (f : Pl → Pl) {a b : List Ent} (h : ∀ q, numAt a q = numAt b q) (q : Pl) : numAt (mapF f a) q = numAt (mapF f b) q := by
  rw [numAt_sumW, numAt_sumW, sumW_mapF, sumW_mapF]
  exact sumW_eq _ h
/-- the row of what is moved from a row -/
theorem RowIs.mapped {r es g : List Ent} {f : Pl → Pl} (h : RowIs r es) (hg : RowIs g (mapF f r)) : RowIs g (mapF f es) := ⟨hg.v, fun q => (hg.s q).trans (numAt_mapF_eq f h.s q)⟩
theorem RowIs.congr {r a b : List Ent} (h : RowIs r a) (e : ∀ q, numAt a q = numAt b q) : RowIs r b := ⟨h.v, fun q => (h.s q).trans (e q)⟩
theorem RowIs.app {r s a b c : List Ent} (h : RowIs r a) (k : RowIs s b) (g : RowIs c (r ++ s)) : RowIs c (a ++ b) := ⟨g.v, fun q => by
  rw [g.s, numAt_app, numAt_app, h.s, k.s]⟩
/-- products by pairs, with any sum of places -/
def prodL (op : Pl → Pl → Pl) (es fs : List Ent) : List Ent := es.flatMap fun e => fs.map fun g => (op e.1 g.1, e.2 * g.2)
theorem sumW_row (w : Pl → Int) (op : Pl → Pl → Pl) (e : Ent) : ∀ fs : List Ent, sumW w (fs.map fun g => (op e.1 g.1, e.2 * g.2)) = e.2 * sumW (fun l => w (op e.1 l)) fs
  | [] => by show (0 : Int) = e.2 * 0; rw [Int.mul_zero]
  | g :: r => by
    have ih := sumW_row w op e r
    show e.2 * g.2 * w (op e.1 g.1) + sumW w (r.map _) = e.2 * (g.2 * w (op e.1 g.1) + sumW _ r)
    rw [ih, Int.mul_add, Int.mul_assoc]
theorem sumW_prodL (w : Pl → Int) (op : Pl → Pl → Pl) : ∀ es fs : List Ent, sumW w (prodL op es fs) = sumW (fun k => sumW (fun l => w (op k l)) fs) es
  | [], fs => rfl
  | e :: r, fs => by
    have ih := sumW_prodL w op r fs
    show sumW w ((fs.map fun g => (op e.1 g.1, e.2 * g.2)) ++ prodL op r fs) = e.2 * sumW (fun l => w (op e.1 l)) fs + _
    rw [sumW_app, sumW_row, ih]
theorem numAt_prodL_eq (op : Pl → Pl → Pl) {a b c d : List Ent} (h : ∀ q, numAt a q = numAt b q) (k : ∀ q, numAt c q = numAt d q) (q : Pl) : numAt (prodL op a c) q = numAt (prodL op b d) q := by
  rw [numAt_sumW, numAt_sumW, sumW_prodL, sumW_prodL, sumW_eq _ h]
  refine sumW_congr fun e _ => sumW_eq _ k
end OT

set_option Elab.async false
set_option linter.all false
set_option maxRecDepth 100000
set_option maxHeartbeats 2000000
/-! data in the heap: kept where the heap grows; what is shaped -/
namespace OT
open PySem PySem.Spec PyProof.Rows L2
theorem same_tD {K : PySem.W.Frag} {H H' : Hp} {a : Addr} {xs : List V} (e : Same H H') (h : SqT K H a xs) : SqT K H' a xs := by
  rcases h with (h | ⟨o, h⟩) | h
  · exact .inl (.inl (e _ _ h))
  · exact .inl (.inr ⟨o, e _ _ h⟩)
  · exact .inr h
mutual
theorem Dp.mono {K : PySem.W.Frag} {H H' : Hp} (s : Same H H') : ∀ {v : V} {d : PyData}, Dp K H v d → Dp K H' v d
  | _, _, .non => .non
  | _, _, .bl b => .bl b
  | _, _, .int i => .int i
  | _, _, .str x => .str x
  | _, _, .lst h1 h2 => .lst (s.seq h1) (DpAll.mono s h2)
  | _, _, .tup h1 h2 => .tup (same_tD s h1) (DpAll.mono s h2)
theorem DpAll.mono {K : PySem.W.Frag} {H H' : Hp} (s : Same H H') : ∀ {vs : List V} {ds : List PyData}, DpAll K H vs ds → DpAll K H' vs ds
  | _, _, .nil => .nil
  | _, _, .cons h1 h2 => .cons (Dp.mono s h1) (DpAll.mono s h2)
end
theorem DpAll.len {K : PySem.W.Frag} {H : Hp} {vs : List V} {ds : List PyData} (h : DpAll K H vs ds) : vs.length = ds.length := by
  induction vs generalizing ds with
  | nil =>
    cases h
    rfl
  | cons v r ih =>
    cases h with
    | cons _ h2 => rw [List.length_cons, List.length_cons, ih h2]
theorem DpAll.snoc {K : PySem.W.Frag} {H : Hp} {v : V} {d : PyData} : ∀ {vs : List V} {ds : List PyData}, DpAll K H vs ds → Dp K H v d → DpAll K H (vs ++ [v]) (ds ++ [d])
  | [], _, h, k => by
    cases h
    exact .cons k .nil
  | _ :: r, _, h, k => by
    cases h with
    | cons h1 h2 => exact .cons h1 (DpAll.snoc h2 k)
/-- data that is shaped, of a depth -/
structure DOk (n : Nat) (d : PyData) : Prop where
  lay : d.canLay0 = true
  dep : d.depth ≤ n
theorem DOk.le {n m : Nat} {d : PyData} (h : DOk n d) (k : n ≤ m) : DOk m d := ⟨h.lay, Nat.le_trans h.dep k⟩
theorem layAll {ds : List PyData} {n : Nat} : (∀ d ∈ ds, DOk n d) → PyData.canLayAll0 ds = true ∧ PyData.depthAll ds ≤ n := by
  induction ds with
  | nil =>
    intro _
    exact ⟨by simp only [PyData.canLayAll0], by simp only [PyData.depthAll]; omega⟩
  | cons d r ih =>
    intro h
    obtain ⟨h1, h2⟩ := ih fun x hx => h x (List.mem_cons_of_mem _ hx)
    have hd := h d List.mem_cons_self
    refine ⟨?_, ?_⟩
    · simp only [PyData.canLayAll0, hd.lay, h1, Bool.and_self]
    · have := hd.dep
      simp only [PyData.depthAll]
      omega
theorem DOk.list {n : Nat} {ds : List PyData} (h : ∀ d ∈ ds, DOk n d) : DOk (n + 1) (.list ds) := by
  obtain ⟨h1, h2⟩ := layAll h
  exact ⟨h1, by simp only [PyData.depth]; omega⟩
theorem DOk.tuple {n : Nat} {ds : List PyData} (h : ∀ d ∈ ds, DOk n d) : DOk (n + 1) (.tuple ds) := by
  obtain ⟨h1, h2⟩ := layAll h
  exact ⟨h1, by simp only [PyData.depth]; omega⟩
theorem DOk.int (i : Int) : DOk 1 (.int i) := ⟨rfl, by simp only [PyData.depth]; omega⟩
theorem DOk.shaped {n : Nat} {d : PyData} (h : DOk n d) (hn : n ≤ 64) : SeqAt.shaped d = true := by
  unfold SeqAt.shaped
  rw [h.lay, Bool.true_and]
  exact decide_eq_true (Nat.le_trans h.dep hn)
theorem eqvD {d : PyData} (h : SeqAt.shaped d = true) : PyData.eqv d d = true := SeqAt.eqv_refl _ (SeqAt.canLay_of_shaped h)
theorem DOk.pl (k : Pl) : DOk 2 (.tuple (k.map PyData.int)) := DOk.tuple fun d hd => by
  obtain ⟨x, _, rfl⟩ := List.mem_map.mp hd
  exact DOk.int x
theorem DOk.ent (e : Ent) : DOk 3 (dEnt e) := DOk.tuple (n := 2) fun d hd => by
  rcases List.mem_cons.mp hd with rfl | hd
  · exact DOk.pl e.1
  · rcases List.mem_cons.mp hd with rfl | hd
    · exact (DOk.int _).le (by decide)
    · cases hd
theorem DOk.row (es : List Ent) : DOk 4 (dRow es) := DOk.list fun d hd => by
  obtain ⟨x, _, rfl⟩ := List.mem_map.mp hd
  exact DOk.ent x
/-- places as data -/
def dMat (M : List Pl) : PyData := .list (M.map fun l => .tuple (l.map PyData.int))
theorem DOk.mat (M : List Pl) : DOk 3 (dMat M) := DOk.list fun d hd => by
  obtain ⟨x, _, rfl⟩ := List.mem_map.mp hd
  exact DOk.pl x
theorem DOk.ints (ns : List Int) : DOk 2 (.list (ns.map PyData.int)) := DOk.list fun d hd => by
  obtain ⟨x, _, rfl⟩ := List.mem_map.mp hd
  exact DOk.int x
end OT

set_option Elab.async false
set_option linter.all false
set_option maxRecDepth 100000
set_option maxHeartbeats 2000000
/-! products of lists of entries: order, brackets, maps -/
namespace OT
open PySem PySem.Spec PyProof.Rows L2
theorem sumW_zero_w : ∀ es : List Ent, sumW (fun _ => 0) es = 0
  | [] => rfl
  | e :: r => by
    show e.2 * 0 + sumW _ r = 0
    rw [sumW_zero_w r, Int.mul_zero]
    rfl
theorem sumW_lin (c : Int) (w v : Pl → Int) : ∀ es : List Ent, sumW (fun l => c * w l + v l) es = c * sumW w es + sumW v es
  | [] => by show (0 : Int) = c * 0 + 0; rw [Int.mul_zero]; rfl
  | e :: r => by
    have ih := sumW_lin c w v r
    show e.2 * (c * w e.1 + v e.1) + sumW _ r = c * (e.2 * w e.1 + sumW w r) + (e.2 * v e.1 + sumW v r)
    rw [ih, Int.mul_add, Int.mul_add, Int.mul_left_comm e.2 c]
    omega
theorem sumW_swap (w : Pl → Pl → Int) (b : List Ent) : ∀ a : List Ent, sumW (fun k => sumW (fun l => w k l) b) a = sumW (fun l => sumW (fun k => w k l) a) b
  | [] => by
    show (0 : Int) = sumW (fun _ => 0) b
    rw [sumW_zero_w]
  | e :: r => by
    have ih := sumW_swap w b r
    show e.2 * sumW (fun l => w e.1 l) b + sumW _ r = sumW (fun l => e.2 * w e.1 l + sumW (fun k => w k l) r) b
    rw [ih, sumW_lin]
theorem prodL_comm {op : Pl → Pl → Pl} (h : ∀ k l, op k l = op l k) (a b : List Ent) (q : Pl) : numAt (prodL op a b) q = numAt (prodL op b a) q := by
  rw [numAt_sumW, numAt_sumW, sumW_prodL, sumW_prodL, sumW_swap]
  refine sumW_congr fun e _ => sumW_congr fun g _ => ?_
  rw [h]
theorem prodL_app (op : Pl → Pl → Pl) (a b c : List Ent) : prodL op (a ++ b) c = prodL op a c ++ prodL op b c := List.flatMap_append
theorem prodL_row {op : Pl → Pl → Pl} (h : ∀ k l m, op (op k l) m = op k (op l m)) (e : Ent) (c : List Ent) : ∀ b : List Ent, prodL op (b.map fun g => (op e.1 g.1, e.2 * g.2)) c = (prodL op b c).map fun g => (op e.1 g.1, e.2 * g.2)
  | [] => rfl
  | g :: r => by
    have ih := prodL_row h e c r
    show (c.map fun x => (op (op e.1 g.1) x.1, e.2 * g.2 * x.2)) ++ prodL op (r.map _) c = ((c.map fun x => (op g.1 x.1, g.2 * x.2)) ++ prodL op r c).map _
    rw [ih, List.map_append, List.map_map]
    refine congrArg (· ++ _) (List.map_congr_left fun x _ => ?_)
    show (op (op e.1 g.1) x.1, e.2 * g.2 * x.2) = (op e.1 (op g.1 x.1), e.2 * (g.2 * x.2))
    rw [h, Int.mul_assoc]
theorem prodL_assoc {op : Pl → Pl → Pl} (h : ∀ k l m, op (op k l) m = op k (op l m)) (b c : List Ent) : ∀ a : List Ent, prodL op (prodL op a b) c = prodL op a (prodL op b c)
  | [] => rfl
  | e :: r => by
    have ih := prodL_assoc h b c r
    show prodL op ((b.map fun g => (op e.1 g.1, e.2 * g.2)) ++ prodL op r b) c = ((prodL op b c).map fun g => (op e.1 g.1, e.2 * g.2)) ++ prodL op r (prodL op b c)
    rw [prodL_app, ih, prodL_row h]
theorem prodL_map {op : Pl → Pl → Pl} {f : Pl → Pl} (h : ∀ k l, f (op k l) = op (f k) (f l)) (b : List Ent) : ∀ a : List Ent, mapF f (prodL op a b) = prodL op (mapF f a) (mapF f b)
  | [] => rfl
  | e :: r => by
    have ih := prodL_map h b r
    show ((b.map fun g => (op e.1 g.1, e.2 * g.2)) ++ prodL op r b).map _ = ((mapF f b).map fun g : Ent => (op (f e.1) g.1, e.2 * g.2)) ++ prodL op (mapF f r) (mapF f b)
    rw [List.map_append, show (prodL op r b).map (fun e => (f e.1, e.2)) = mapF f (prodL op r b) from rfl, ih, List.map_map, show mapF f b = b.map (fun e => (f e.1, e.2)) from rfl, List.map_map]
    refine congrArg (· ++ _) (List.map_congr_left fun g _ => ?_)
    show (f (op e.1 g.1), e.2 * g.2) = (op (f e.1) (f g.1), e.2 * g.2)
    rw [h]
/-- (a b)(c d) is (a c)(b d) -/
theorem prodL_four {op : Pl → Pl → Pl} (hc : ∀ k l, op k l = op l k) (ha : ∀ k l m, op (op k l) m = op k (op l m)) (a b c d : List Ent) (q : Pl) : numAt (prodL op (prodL op a b) (prodL op c d)) q = numAt (prodL op (prodL op a c) (prodL op b d)) q := by
  rw [prodL_assoc ha, prodL_assoc ha]
  refine numAt_prodL_eq op (fun _ => rfl) (fun q => ?_) q
  rw [← prodL_assoc ha, ← prodL_assoc ha]
  exact numAt_prodL_eq op (prodL_comm hc b c) (fun _ => rfl) q
end OT

set_option Elab.async false
set_option linter.all false
set_option maxRecDepth 100000
set_option maxHeartbeats 2000000
/-! zip(*xs) of any number of tuples of one length; the target a name -/
namespace OZ
open PySem
open PySem.Sem (wp)
theorem tc (args : List Value) : checkTypeCall "zip" ⟨args, []⟩ = pure () := by kernel_rfl
theorem nc (a : Value) (args : List Value) : checkBuiltinCall "zip.__new__" ⟨.type "zip" :: a :: args, []⟩ = pure () := by kernel_rfl
theorem oi (args : List Value) : argsOk "object.__init__" ⟨args, []⟩ := by
  unfold argsOk; rw [signature?_of (id := "object.__init__") (n := ['_', '_', 't', 'i', 'n', 'i', '_', '_']) (o := ['t', 'c', 'e', 'j', 'b', 'o']) (by kernel_rfl) F.owner_object]; kernel_rfl
abbrev IsZipF (h : Heap) (z TI TO : Addr) (f0 f1 : Value) : Prop :=
  h.get? z = some { cls := .type "zip", dict := none, data := .fields #[f0, f1, .bool false, .ref TI, .ref TO], slots := #[] }
abbrev IsTup (h : Heap) (T : Addr) (vs : List Value) : Prop := h.get? T = some { cls := .type "tuple", data := .seq vs.toArray }
structure ZAp (z TI TO : Addr) (its as : List Addr) : Prop where
  TIz : TI ≠ z
  TOz : TO ≠ z
  TITO : TI ≠ TO
  zi : z ∉ its
  TIi : TI ∉ its
  TOi : TO ∉ its
  nd : its.Nodup
  za : z ∉ as
  TOa : TO ∉ as
  ia : ∀ t ∈ its, t ∉ as
  len : its.length = as.length
section
variable {prog : Program} {w : World} {A : Around} {E : Value → Shared → Prop} {s : Shared}
theorem wp_forIn {M : Model} {α β : Type} {l : List α} {f : α → β → Sem (ForInStep β)} {Q : β → Shared → Prop} (I : Nat → β → Shared → Prop)
    (step : ∀ i x b s, l[i]? = some x → I i b s → wpAny M A (f x b) (fun r s' => ∃ b', r = .yield b' ∧ I (i + 1) b' s') E s)
    (hend : ∀ b s, I l.length b s → Q b s) {b : β} (h0 : I 0 b s) : wpAny M A (forIn l b f) Q E s := by
  have key : ∀ n i b s, n + i = l.length → I i b s → wpAny M A (forIn (l.drop i) b f) Q E s := by
    intro n
    induction n with
    | zero =>
      intro i b s hn hI
      rw [List.drop_eq_nil_of_le (by omega)]
      have : i = l.length := by omega
      subst this
      rw [List.forIn_nil]
      exact wpAny_pure (hend b s hI)
    | succ n ih =>
      intro i b s hn hI
      have hi : i < l.length := by omega
      rw [List.drop_eq_getElem_cons hi, List.forIn_cons]
      refine wpAny_bind (wpAny_mono (step i _ b s (List.getElem?_eq_getElem hi) hI) (fun r s' h => ?_) fun _ _ x => x)
      obtain ⟨b', rfl, h⟩ := h
      exact ih (i + 1) b' s' (by omega) h
  have := key l.length 0 b s (by omega) h0
  rwa [List.drop_zero] at this
/-- what all objects but the zip's own keep -/
abbrev Kp (z TO : Addr) (its : List Addr) (h h' : Heap) : Prop := ∀ c o, c ≠ z → c ≠ TO → c ∉ its → h.get? c = some o → h'.get? c = some o
structure Lp (h0 : Heap) (z TI TO : Addr) (its as : List Addr) (ys : List Value) (i : Nat) (f1 : Value) (j : Nat) (h : Heap) (us : List Value) : Prop where
  zz : IsZipF h z TI TO .ellipsis f1
  tt : IsTup h TO us
  len : us.length = its.length
  y : ∀ m < j, us[m]? = ys[m]?
  it : ∀ (m : Nat) (t a : Addr), its[m]? = some t → as[m]? = some a → h.IsTupleIter t a (if m < j then i + 1 else i)
  sz : h.objs.size = h0.objs.size
  k : Kp z TO its h0 h
theorem next_free {z TI TO : Addr} {its as : List Addr} {i : Nat} {f1 : Value} {vs ys : List Value} {Q : Value → Shared → Prop} (D : ZAp z TI TO its as) (hk : its ≠ []) (hz8 : its.length ≤ 100000)
    (free : ∀ R : Bool → Shared → Prop, R true s → wpAny (model prog w) A (Builtin.SmallTypes.ownedTupleIsFree (.ref z)) R E s)
    {f0 : Value} (hz : IsZipF s.heap z TI TO f0 f1) (hTI : IsTup s.heap TI (its.map Value.ref)) (hTO : IsTup s.heap TO vs) (hv : vs.length = its.length)
    (hit : ∀ (j : Nat) (t a : Addr), its[j]? = some t → as[j]? = some a → s.heap.IsTupleIter t a i) (hy : ys.length = its.length)
    (hit2 : ∀ (j : Nat) (a : Addr), as[j]? = some a → ∃ items, s.heap.IsTuple a items ∧ items[i]? = ys[j]?)
    (hQ : ∀ h', IsZipF h' z TI TO (rawInt s.heap.objs.size) (.bool false) → IsTup h' TI (its.map Value.ref) → IsTup h' TO ys → (∀ (j : Nat) (t a : Addr), its[j]? = some t → as[j]? = some a → h'.IsTupleIter t a (i + 1)) → IsTup h' s.heap.objs.size ys → h'.objs.size = s.heap.objs.size + 1 →
      Kp z TO its s.heap h' → Q (.ref s.heap.objs.size) { s with heap := h' }) :
    wpAny (model prog w) A (Builtin.«zip.__next__» ⟨[.ref z], []⟩) (fun fin s' => ∃ v, fin = .done (.ret v) ∧ Q v s') E s := by
  show wpAny _ _ (field (.ref z) 2 >>= _) _ _ _
  refine wpAny_bind (wpAny_field hz rfl (x := .bool false) rfl ?_)
  show wpAny _ _ (field (.ref z) 3 >>= _) _ _ _
  refine wpAny_bind (wpAny_field hz rfl (x := .ref TI) rfl ?_)
  refine wpAny_bind (wpAny_seqItems hTI rfl ?_)
  have hne : (its.map Value.ref).toArray.isEmpty = false := by
    cases its with
    | nil => exact absurd rfl hk
    | cons x r => rfl
  simp only [hne, Bool.false_eq_true, if_false]
  refine wpAny_bind (free _ ?_)
  simp only [if_true]
  refine wpAny_bind (wpAny_rule ?_)
  refine wpAny_bind (wpAny_field hz rfl (x := .ref TO) rfl ?_)
  refine wpAny_bind (wpAny_setField_rec hz (by simp) fun h₁ hz₁ hs₁ => ?_)
  replace hz₁ : IsZipF h₁ z TI TO .ellipsis f1 := hz₁
  have hsz1 : h₁.objs.size = s.heap.objs.size := hs₁.1
  refine wpAny_bind (wp_forIn (fun j b s' => b = (none, PUnit.unit) ∧ ∃ h' us, s' = { s with heap := h' } ∧ Lp s.heap z TI TO its as ys i f1 j h' us) ?_ ?_ ?_)
  · rintro j ⟨v, jj⟩ b s' hx ⟨rfl, h', us, rfl, L⟩
    rw [List.getElem?_zipIdx, List.getElem?_map] at hx
    obtain ⟨t, ht, hx⟩ : ∃ t, its[j]? = some t ∧ (Value.ref t, 0 + j) = (v, jj) := by
      cases e : its[j]? with
      | none => rw [e] at hx; cases hx
      | some t => rw [e] at hx; exact ⟨t, rfl, Option.some.inj hx⟩
    cases hx
    have hj : j < its.length := (List.getElem?_eq_some_iff.mp ht).1
    have hja : j < as.length := by rw [← D.len]; exact hj
    have ha : as[j]? = some as[j] := List.getElem?_eq_getElem hja
    have htm : t ∈ its := List.mem_of_getElem? ht
    have ham : as[j] ∈ as := List.getElem_mem hja
    obtain ⟨items, hI, hyj⟩ := hit2 j _ ha
    have hjy : j < ys.length := by rw [hy]; exact hj
    rw [List.getElem?_eq_getElem hjy] at hyj
    have hIt := L.it j t _ ht ha
    rw [if_neg (Nat.lt_irrefl j)] at hIt
    have hI' : h'.IsTuple as[j] items := by
      obtain ⟨o, ho, r⟩ := hI
      exact ⟨o, L.k _ _ (fun z => D.za (z ▸ ham)) (fun z => D.TOa (z ▸ ham)) (fun z => D.ia _ z ham) ho, r⟩
    refine wpAny_bind (wpAny_onRaise ?_)
    show wpAny _ _ (Builtin.SmallTypes.nextOf (.ref t) >>= _) _ _ _
    refine wpAny_bind (RZ.nextOf_tuple_item (s := { s with heap := h' }) hIt hI' hyj fun h₂ h1₂ hs₂ => wpAny_pure ?_)
    have tTO : t ≠ TO := fun z => D.TOi (z ▸ htm)
    have tz : t ≠ z := fun z => D.zi (z ▸ htm)
    have hTO₂ : IsTup h₂ TO us := hs₂.extBut _ _ tTO.symm L.tt
    refine wpAny_bind (wpAny_seqItems hTO₂ rfl ?_)
    refine wpAny_bind (wpAny_updateSeq hTO₂ rfl ?_ (by show us.toArray.size ≤ sizeLine; rw [List.size_toArray, L.len]; exact Nat.le_trans hz8 (by decide)) (by show (us.toArray.setIfInBounds _ _).size ≤ sizeLine + 1; rw [Array.size_setIfInBounds, List.size_toArray, L.len]; exact Nat.le_trans hz8 (by decide)))
    have hs₃ : Heap.SameBut TO h₂ (h₂.update TO (Obj.mapSeq (·.setIfInBounds (0 + j) ys[j]))) := Heap.SameBut.update ..
    have hTO₃ : IsTup (h₂.update TO (Obj.mapSeq (·.setIfInBounds (0 + j) ys[j]))) TO (us.set j ys[j]) := by
      show (h₂.update TO (Obj.mapSeq (·.setIfInBounds (0 + j) ys[j]))).get? TO = _
      rw [Heap.get?_update_self _ hTO₂ rfl]
      simp [Obj.mapSeq]
    generalize h₂.update TO (Obj.mapSeq (·.setIfInBounds (0 + j) ys[j])) = h₃ at hs₃ hTO₃ ⊢
    refine wpAny_bind (wpAny_letGo (wpAny_pure ⟨_, rfl, rfl, h₃, us.set j ys[j], rfl, ?_⟩))
    refine ⟨hs₃.extBut _ _ D.TOz.symm (hs₂.extBut _ _ tz.symm L.zz), hTO₃, by rw [List.length_set]; exact L.len, fun m hm => ?_, fun m t' a' h1 h2 => ?_, by rw [hs₃.1, hs₂.1]; exact L.sz, fun c o c1 c2 c3 e => hs₃.extBut _ _ c2 (hs₂.extBut _ _ (fun z => c3 (z ▸ htm)) (L.k c o c1 c2 c3 e))⟩
    · by_cases e : m = j
      · subst e
        rw [List.getElem?_set_self (by rw [L.len]; exact hj), List.getElem?_eq_getElem hjy]
      · rw [List.getElem?_set_ne (fun z => e z.symm)]
        exact L.y m (by omega)
    · by_cases e : m = j
      · subst e
        rw [ht] at h1
        cases h1
        rw [ha] at h2
        cases h2
        rw [if_pos (Nat.lt_succ_self _)]
        exact h1₂.extBut hs₃.extBut tTO
      · have hne2 : t' ≠ t := fun z => by
          subst z
          have q1 := (List.getElem?_eq_some_iff.mp h1)
          have q2 := (List.getElem?_eq_some_iff.mp ht)
          obtain ⟨b1, e1⟩ := q1
          obtain ⟨b2, e2⟩ := q2
          exact e ((List.getElem_inj D.nd).mp (e1.trans e2.symm))
        have q := L.it m t' a' h1 h2
        have tm' : t' ∈ its := List.mem_of_getElem? h1
        have q2 := (q.extBut hs₂.extBut hne2).extBut hs₃.extBut (fun z => D.TOi (z ▸ tm'))
        by_cases c : m < j
        · rw [if_pos c] at q2
          rw [if_pos (by omega)]
          exact q2
        · rw [if_neg c] at q2
          rw [if_neg (by omega)]
          exact q2
  · rintro b s' ⟨rfl, h₅, us, rfl, L⟩
    have hus : us = ys := by
      have hn : ((List.map Value.ref its).zipIdx).length = its.length := by rw [List.length_zipIdx, List.length_map]
      rw [hn] at L
      refine List.ext_getElem? fun m => ?_
      by_cases hm : m < its.length
      · exact L.y m hm
      · rw [List.getElem?_eq_none (by rw [L.len]; omega), List.getElem?_eq_none (by rw [hy]; omega)]
    subst hus
    refine wpAny_bind (wpAny_seqItems L.tt rfl ?_)
    have hla : us.toArray.toList = us := by simp
    refine wpAny_bind (wpAny_newTuple ?_ (by rw [hla, hy]; exact Nat.le_trans hz8 (by decide)))
    have hz₅ := L.zz
    have hzlt : z < h₅.objs.size := Heap.lt_size hz₅
    have hsz : h₅.objs.size = s.heap.objs.size := L.sz
    show wpAny _ _ (Builtin.SmallTypes.ownedTupleHandOut (.ref z) (.ref h₅.objs.size) >>= _) _ _ _
    refine wpAny_bind ?_
    unfold Builtin.SmallTypes.ownedTupleHandOut
    have hz₆ : IsZipF (h₅.push { cls := .type "tuple", data := .seq us.toArray.toList.toArray }) z TI TO .ellipsis f1 := Heap.get?_push_of_some _ hz₅
    refine wpAny_bind (wpAny_setField_rec hz₆ (by simp) fun h₇ hz₇ hs₇ => ?_)
    replace hz₇ : IsZipF h₇ z TI TO (rawInt h₅.objs.size) f1 := hz₇
    refine wpAny_setField_rec hz₇ (by simp) fun h₈ hz₈ hs₈ => ?_
    replace hz₈ : IsZipF h₈ z TI TO (rawInt h₅.objs.size) (.bool false) := hz₈
    have up : ∀ c o, c ≠ z → h₅.get? c = some o → h₈.get? c = some o := fun c o c1 e => hs₈.extBut _ _ c1 (hs₇.extBut _ _ c1 (Heap.get?_push_of_some _ e))
    have hT₈ : IsTup h₈ h₅.objs.size us := by
      have q : IsTup (h₅.push { cls := .type "tuple", data := .seq us.toArray.toList.toArray }) h₅.objs.size us := by
        have q2 : (h₅.push { cls := .type "tuple", data := .seq us.toArray.toList.toArray }).get? h₅.objs.size = some { cls := .type "tuple", data := .seq us.toArray.toList.toArray } := Heap.get?_push_size _ rfl
        rw [hla] at q2 ⊢
        exact q2
      exact hs₈.extBut _ _ (Nat.ne_of_gt hzlt) (hs₇.extBut _ _ (Nat.ne_of_gt hzlt) q)
    have hz8' : h₈.objs.size = h₅.objs.size + 1 := by rw [hs₈.1, hs₇.1, Heap.size_push]
    rw [hsz] at hz₈ hT₈ hz8'
    refine wpAny_pure ⟨_, rfl, ?_⟩
    show Q (.ref h₅.objs.size) _
    rw [hsz]
    have hn : ((List.map Value.ref its).zipIdx).length = its.length := by rw [List.length_zipIdx, List.length_map]
    rw [hn] at L
    refine hQ h₈ hz₈ (up _ _ D.TIz (L.k _ _ D.TIz D.TITO D.TIi hTI)) (up _ _ D.TOz L.tt) (fun j t a h1 h2 => ?_) hT₈ hz8' fun c o c1 c2 c3 e => up c o c1 (L.k c o c1 c2 c3 e)
    have q := L.it j t a h1 h2
    rw [if_pos (List.getElem?_eq_some_iff.mp h1).1] at q
    exact q.at fun o e => up _ o (fun z => D.zi (z ▸ List.mem_of_getElem? h1)) e
  · refine ⟨rfl, h₁, vs, rfl, hz₁, hs₁.extBut _ _ D.TOz hTO, hv, fun m hm => absurd hm (Nat.not_lt_zero _), fun m t a h1 h2 => ?_, hsz1, fun c o c1 _ _ e => hs₁.extBut _ _ c1 e⟩
    rw [if_neg (Nat.not_lt_zero _)]
    exact (hit m t a h1 h2).extBut hs₁.extBut (fun z => D.zi (z ▸ List.mem_of_getElem? h1))
structure Lh (h0 : Heap) (z TI TO : Addr) (its as : List Addr) (i : Nat) (f0 f1 : Value) (j : Nat) (h : Heap) : Prop where
  zz : IsZipF h z TI TO f0 f1
  it : ∀ (m : Nat) (t a : Addr), its[m]? = some t → as[m]? = some a → h.IsTupleIter t a (if m < j then i + 1 else i)
  sz : h.objs.size = h0.objs.size
  k : ∀ c o, c ≠ z → c ∉ its → h0.get? c = some o → h.get? c = some o
theorem next_held {z TI TO : Addr} {its as : List Addr} {i : Nat} {f0 f1 : Value} {ys : List Value} {Q : Value → Shared → Prop} (D : ZAp z TI TO its as) (hk : its ≠ []) (hz8 : its.length ≤ 100000)
    (hz : IsZipF s.heap z TI TO f0 f1)
    (held : ∀ R : Bool → Shared → Prop, (∀ h', IsZipF h' z TI TO f0 (.bool true) → Heap.SameBut z s.heap h' → R false { s with heap := h' }) → wpAny (model prog w) A (Builtin.SmallTypes.ownedTupleIsFree (.ref z)) R E s)
    (hTI : IsTup s.heap TI (its.map Value.ref))
    (hit : ∀ (j : Nat) (t a : Addr), its[j]? = some t → as[j]? = some a → s.heap.IsTupleIter t a i) (hy : ys.length = its.length)
    (hit2 : ∀ (j : Nat) (a : Addr), as[j]? = some a → ∃ items, s.heap.IsTuple a items ∧ items[i]? = ys[j]?)
    (hQ : ∀ h', IsZipF h' z TI TO f0 (.bool true) → (∀ (j : Nat) (t a : Addr), its[j]? = some t → as[j]? = some a → h'.IsTupleIter t a (i + 1)) → IsTup h' s.heap.objs.size ys → h'.objs.size = s.heap.objs.size + 1 →
      (∀ c o, c ≠ z → c ∉ its → s.heap.get? c = some o → h'.get? c = some o) → Q (.ref s.heap.objs.size) { s with heap := h' }) :
    wpAny (model prog w) A (Builtin.«zip.__next__» ⟨[.ref z], []⟩) (fun fin s' => ∃ v, fin = .done (.ret v) ∧ Q v s') E s := by
  show wpAny _ _ (field (.ref z) 2 >>= _) _ _ _
  refine wpAny_bind (wpAny_field hz rfl (x := .bool false) rfl ?_)
  show wpAny _ _ (field (.ref z) 3 >>= _) _ _ _
  refine wpAny_bind (wpAny_field hz rfl (x := .ref TI) rfl ?_)
  refine wpAny_bind (wpAny_seqItems hTI rfl ?_)
  have hne : (its.map Value.ref).toArray.isEmpty = false := by
    cases its with
    | nil => exact absurd rfl hk
    | cons x r => rfl
  simp only [hne, Bool.false_eq_true, if_false]
  refine wpAny_bind (held _ fun h₁ hz₁ hs₁ => ?_)
  simp only [Bool.false_eq_true, if_false]
  refine wpAny_bind ?_
  rw [← Array.forIn_toList]
  refine wp_forIn (fun j b s' => b = (none, (ys.take j).toArray) ∧ ∃ h', s' = { s with heap := h' } ∧ Lh s.heap z TI TO its as i f0 (.bool true) j h') ?_ ?_ ?_
  · rintro j v b s' hx ⟨rfl, h', rfl, L⟩
    have hx : (its.map Value.ref)[j]? = some v := hx
    rw [List.getElem?_map] at hx
    obtain ⟨t, ht, rfl⟩ : ∃ t, its[j]? = some t ∧ Value.ref t = v := by
      cases e : its[j]? with
      | none => rw [e] at hx; cases hx
      | some t => rw [e] at hx; exact ⟨t, rfl, Option.some.inj hx⟩
    have hj : j < its.length := (List.getElem?_eq_some_iff.mp ht).1
    have hja : j < as.length := by rw [← D.len]; exact hj
    have ha : as[j]? = some as[j] := List.getElem?_eq_getElem hja
    have htm : t ∈ its := List.mem_of_getElem? ht
    have ham : as[j] ∈ as := List.getElem_mem hja
    obtain ⟨items, hI, hyj⟩ := hit2 j _ ha
    have hjy : j < ys.length := by rw [hy]; exact hj
    rw [List.getElem?_eq_getElem hjy] at hyj
    have hIt := L.it j t _ ht ha
    rw [if_neg (Nat.lt_irrefl j)] at hIt
    have hI' : h'.IsTuple as[j] items := by
      obtain ⟨o, ho, r⟩ := hI
      exact ⟨o, L.k _ _ (fun z => D.za (z ▸ ham)) (fun z => D.ia _ z ham) ho, r⟩
    refine wpAny_bind (wpAny_holding ?_)
    show wpAny _ _ (Builtin.SmallTypes.nextOf (.ref t) >>= _) _ _ _
    refine wpAny_bind (RZ.nextOf_tuple_item (s := { s with heap := h' }) hIt hI' hyj fun h₂ h1₂ hs₂ => wpAny_pure ?_)
    have tz : t ≠ z := fun z => D.zi (z ▸ htm)
    refine wpAny_pure ⟨_, rfl, ?_, h₂, rfl, ?_⟩
    · show (none, (ys.take j).toArray.push ys[j]) = _
      rw [List.take_add_one, List.getElem?_eq_getElem hjy]
      simp
    refine ⟨hs₂.extBut _ _ tz.symm L.zz, fun m t' a' h1 h2 => ?_, by rw [hs₂.1]; exact L.sz, fun c o c1 c3 e => hs₂.extBut _ _ (fun z => c3 (z ▸ htm)) (L.k c o c1 c3 e)⟩
    by_cases e : m = j
    · subst e
      rw [ht] at h1
      cases h1
      rw [ha] at h2
      cases h2
      rw [if_pos (Nat.lt_succ_self _)]
      exact h1₂
    · have hne2 : t' ≠ t := fun z => by
        subst z
        have q1 := (List.getElem?_eq_some_iff.mp h1)
        have q2 := (List.getElem?_eq_some_iff.mp ht)
        obtain ⟨b1, e1⟩ := q1
        obtain ⟨b2, e2⟩ := q2
        exact e ((List.getElem_inj D.nd).mp (e1.trans e2.symm))
      have q2 := (L.it m t' a' h1 h2).extBut hs₂.extBut hne2
      by_cases c : m < j
      · rw [if_pos c] at q2
        rw [if_pos (by omega)]
        exact q2
      · rw [if_neg c] at q2
        rw [if_neg (by omega)]
        exact q2
  · rintro b s' ⟨rfl, h₅, rfl, L⟩
    have hn : (List.map Value.ref its).toArray.toList.length = ys.length := by
      show (List.map Value.ref its).length = _
      rw [List.length_map, hy]
    rw [hn, List.take_length]
    have hla : ys.toArray.toList = ys := by simp
    show wpAny _ _ (newTuple ys.toArray.toList >>= _) _ _ _
    refine wpAny_bind (wpAny_newTuple ?_ (by rw [hla, hy]; exact Nat.le_trans hz8 (by decide)))
    have hsz : h₅.objs.size = s.heap.objs.size := L.sz
    have hT : IsTup (h₅.push { cls := .type "tuple", data := .seq ys.toArray.toList.toArray }) h₅.objs.size ys := by
      have q2 : (h₅.push { cls := .type "tuple", data := .seq ys.toArray.toList.toArray }).get? h₅.objs.size = some { cls := .type "tuple", data := .seq ys.toArray.toList.toArray } := Heap.get?_push_size _ rfl
      rw [hla] at q2 ⊢
      exact q2
    have hz8' : (h₅.push { cls := .type "tuple", data := .seq ys.toArray.toList.toArray }).objs.size = h₅.objs.size + 1 := Heap.size_push ..
    refine wpAny_pure ⟨_, rfl, ?_⟩
    show Q (.ref h₅.objs.size) _
    rw [hn] at L
    rw [hsz] at hT hz8' ⊢
    refine hQ _ (Heap.get?_push_of_some _ L.zz) (fun j t a h1 h2 => ?_) hT hz8' fun c o c1 c3 e => Heap.get?_push_of_some _ (L.k c o c1 c3 e)
    have q := L.it j t a h1 h2
    rw [if_pos (by rw [hy]; exact (List.getElem?_eq_some_iff.mp h1).1)] at q
    exact q.at fun o e => Heap.get?_push_of_some _ e
  · refine ⟨rfl, h₁, rfl, hz₁, fun m t a h1 h2 => ?_, hs₁.1, fun c o c1 _ e => hs₁.extBut _ _ c1 e⟩
    rw [if_neg (Nat.not_lt_zero _)]
    exact (hit m t a h1 h2).extBut hs₁.extBut (fun z => D.zi (z ▸ List.mem_of_getElem? h1))
theorem end_free {z TI TO t a0 : Addr} {its as : List Addr} {i : Nat} {f0 f1 : Value} {items : Array Value} {Q : Fin → Shared → Prop} (hh : A.handled = none) (D : ZAp z TI TO (t :: its) (a0 :: as))
    (free : ∀ R : Bool → Shared → Prop, R true s → wpAny (model prog w) A (Builtin.SmallTypes.ownedTupleIsFree (.ref z)) R E s)
    (hz : IsZipF s.heap z TI TO f0 f1) (hTI : IsTup s.heap TI ((t :: its).map Value.ref))
    (hit : s.heap.IsTupleIter t a0 i) (hI : s.heap.IsTuple a0 items) (hx : items[i]? = none)
    (hE : ∀ h' e, (∀ c o, c ≠ z → c ≠ t → s.heap.get? c = some o → h'.get? c = some o) → (∃ o, h'.get? e = some o ∧ o.cls = .type "StopIteration") → E (.ref e) { s with heap := h' })
    (hTO : ∃ us, IsTup s.heap TO us) :
    wpAny (model prog w) A (Builtin.«zip.__next__» ⟨[.ref z], []⟩) Q E s := by
  obtain ⟨us, hTO⟩ := hTO
  show wpAny _ _ (field (.ref z) 2 >>= _) _ _ _
  refine wpAny_bind (wpAny_field hz rfl (x := .bool false) rfl ?_)
  show wpAny _ _ (field (.ref z) 3 >>= _) _ _ _
  refine wpAny_bind (wpAny_field hz rfl (x := .ref TI) rfl ?_)
  refine wpAny_bind (wpAny_seqItems hTI rfl ?_)
  have hne : ((t :: its).map Value.ref).toArray.isEmpty = false := rfl
  simp only [hne, Bool.false_eq_true, if_false]
  refine wpAny_bind (free _ ?_)
  simp only [if_true]
  refine wpAny_bind (wpAny_rule ?_)
  refine wpAny_bind (wpAny_field hz rfl (x := .ref TO) rfl ?_)
  refine wpAny_bind (wpAny_setField_rec hz (by simp) fun h₁ hz₁ hs₁ => ?_)
  replace hz₁ : IsZipF h₁ z TI TO .ellipsis f1 := hz₁
  refine wpAny_bind ?_
  simp only [List.map_cons, List.zipIdx_cons, List.forIn_cons]
  refine wpAny_bind (wpAny_bind (wpAny_onRaise ?_))
  show wpAny _ _ (Builtin.SmallTypes.nextOf (.ref t) >>= _) _ _ _
  have tz : t ≠ z := fun q => D.zi (q ▸ List.mem_cons_self)
  have az : a0 ≠ z := fun q => D.za (q ▸ List.mem_cons_self)
  have hI1 : h₁.IsTuple a0 items := hI.extBut hs₁.extBut az
  refine wpAny_bind (RZ.nextOf_tuple_end (s := { s with heap := h₁ }) hh (hit.extBut hs₁.extBut tz) hI1 hx fun h₂ e hs₂ he => ?_)
  obtain ⟨oe, hoe, hce⟩ := he
  have hz₂ : IsZipF h₂ z TI TO .ellipsis f1 := hs₂ _ _ tz.symm hz₁
  have hez : e ≠ z := fun x => by subst x; rw [hz₂] at hoe; cases hoe; simp at hce
  refine wpAny_setField_rec hz₂ (by simp) fun h₃ _ hs₃ => hE h₃ e (fun c o c1 c3 x => hs₃.extBut _ _ c1 (hs₂ _ _ c3 (hs₁.extBut _ _ c1 x))) ⟨oe, hs₃.extBut _ _ hez hoe, hce⟩
theorem end_held {z TI TO t a0 : Addr} {its as : List Addr} {i : Nat} {f0 f1 : Value} {items : Array Value} {Q : Fin → Shared → Prop} (hh : A.handled = none) (D : ZAp z TI TO (t :: its) (a0 :: as))
    (hz : IsZipF s.heap z TI TO f0 f1)
    (held : ∀ R : Bool → Shared → Prop, (∀ h', IsZipF h' z TI TO f0 (.bool true) → Heap.SameBut z s.heap h' → R false { s with heap := h' }) → wpAny (model prog w) A (Builtin.SmallTypes.ownedTupleIsFree (.ref z)) R E s)
    (hTI : IsTup s.heap TI ((t :: its).map Value.ref))
    (hit : s.heap.IsTupleIter t a0 i) (hI : s.heap.IsTuple a0 items) (hx : items[i]? = none)
    (hE : ∀ h' e, (∀ c o, c ≠ z → c ≠ t → s.heap.get? c = some o → h'.get? c = some o) → (∃ o, h'.get? e = some o ∧ o.cls = .type "StopIteration") → E (.ref e) { s with heap := h' }) :
    wpAny (model prog w) A (Builtin.«zip.__next__» ⟨[.ref z], []⟩) Q E s := by
  show wpAny _ _ (field (.ref z) 2 >>= _) _ _ _
  refine wpAny_bind (wpAny_field hz rfl (x := .bool false) rfl ?_)
  show wpAny _ _ (field (.ref z) 3 >>= _) _ _ _
  refine wpAny_bind (wpAny_field hz rfl (x := .ref TI) rfl ?_)
  refine wpAny_bind (wpAny_seqItems hTI rfl ?_)
  have hne : ((t :: its).map Value.ref).toArray.isEmpty = false := rfl
  simp only [hne, Bool.false_eq_true, if_false]
  refine wpAny_bind (held _ fun h₁ hz₁ hs₁ => ?_)
  simp only [Bool.false_eq_true, if_false]
  refine wpAny_bind ?_
  rw [← Array.forIn_toList]
  simp only [List.map_cons, List.forIn_cons]
  refine wpAny_bind (wpAny_bind (wpAny_holding ?_))
  show wpAny _ _ (Builtin.SmallTypes.nextOf (.ref t) >>= _) _ _ _
  have tz : t ≠ z := fun q => D.zi (q ▸ List.mem_cons_self)
  have az : a0 ≠ z := fun q => D.za (q ▸ List.mem_cons_self)
  have hI1 : h₁.IsTuple a0 items := hI.extBut hs₁.extBut az
  refine wpAny_bind (RZ.nextOf_tuple_end (s := { s with heap := h₁ }) hh (hit.extBut hs₁.extBut tz) hI1 hx fun h₂ e hs₂ he => ?_)
  exact hE h₂ e (fun c o c1 c3 x => hs₂ _ _ c3 (hs₁.extBut _ _ c1 x)) he
/-- the zip at turn i -/
structure ZSt (h : Heap) (z TI TO : Addr) (its as : List Addr) (i : Nat) : Prop where
  zz : ∃ f0 f1, IsZipF h z TI TO f0 f1 ∧ (f0 = .none ∨ ∃ T : Addr, f0 = rawInt T) ∧ ∃ b, f1 = .bool b
  ti : IsTup h TI (its.map Value.ref)
  tt : ∃ us, us.length = its.length ∧ IsTup h TO us
  it : ∀ (j : Nat) (t a : Addr), its[j]? = some t → as[j]? = some a → h.IsTupleIter t a i
theorem alive_is {a : Addr} {Q : Option Obj → Shared → Prop} (h : Q (s.heap.get? a) s) : wpAny (model prog w) A (loadIfAlive a) Q E s := fun _ _ _ => h
/-- free or held -/
theorem asked {z TI TO : Addr} {f0 f1 : Value} (hz : IsZipF s.heap z TI TO f0 f1) (h0 : f0 = .none ∨ ∃ T : Addr, f0 = rawInt T) (h1 : ∃ b, f1 = .bool b) :
    (∀ R : Bool → Shared → Prop, R true s → wpAny (model prog w) A (Builtin.SmallTypes.ownedTupleIsFree (.ref z)) R E s) ∨
    (∀ R : Bool → Shared → Prop, (∀ h', IsZipF h' z TI TO f0 (.bool true) → Heap.SameBut z s.heap h' → R false { s with heap := h' }) → wpAny (model prog w) A (Builtin.SmallTypes.ownedTupleIsFree (.ref z)) R E s) := by
  obtain ⟨b, rfl⟩ := h1
  rcases h0 with rfl | ⟨T, rfl⟩
  · left
    intro R h
    unfold Builtin.SmallTypes.ownedTupleIsFree
    exact wpAny_bind (wpAny_field hz rfl (x := .none) rfl (wpAny_pure h))
  · cases hT : s.heap.get? T with
    | none =>
      left
      intro R h
      unfold Builtin.SmallTypes.ownedTupleIsFree
      refine wpAny_bind (wpAny_field hz rfl (x := rawInt T) rfl ?_)
      show wpAny _ _ (loadIfAlive ((T : Int).toNat) >>= _) _ _ _
      rw [Int.toNat_natCast]
      refine wpAny_bind (alive_is ?_)
      rw [hT]
      simp only [Option.isNone_none, if_true]
      exact wpAny_pure h
    | some o =>
      right
      intro R h
      unfold Builtin.SmallTypes.ownedTupleIsFree
      refine wpAny_bind (wpAny_field hz rfl (x := rawInt T) rfl ?_)
      show wpAny _ _ (loadIfAlive ((T : Int).toNat) >>= _) _ _ _
      rw [Int.toNat_natCast]
      refine wpAny_bind (alive_is ?_)
      rw [hT]
      simp only [Option.isNone_some, Bool.false_eq_true, if_false]
      refine wpAny_bind (wpAny_field hz rfl (x := .bool b) rfl ?_)
      cases b with
      | true =>
        rw [if_neg (show ¬ ((Value.bool true != Value.bool true) = true) from Bool.false_ne_true)]
        exact wpAny_pure (h s.heap hz (Heap.SameBut.refl _ _))
      | false =>
        rw [if_pos (show (Value.bool false != Value.bool true) = true from rfl)]
        exact wpAny_bind (wpAny_setField_rec hz (by simp) fun h₁ hz₁ hs₁ => wpAny_pure (h h₁ hz₁ hs₁))
end
end OZ

set_option Elab.async false
set_option linter.all false
set_option maxRecDepth 100000
set_option maxHeartbeats 2000000
namespace OZ
open PySem
open PySem.Sem (wp)
section
variable {prog : Program} {w : World} {A : Around} {E : Value → Shared → Prop} {s : Shared}
theorem pyNext_item {z TI TO : Addr} {its as : List Addr} {i : Nat} {ys : List Value} {Q : Option Value → Shared → Prop} (D : ZAp z TI TO its as) (hk : its ≠ []) (hz8 : its.length ≤ 100000) (st : ZSt s.heap z TI TO its as i) (hy : ys.length = its.length)
    (hit2 : ∀ (j : Nat) (a : Addr), as[j]? = some a → ∃ items, s.heap.IsTuple a items ∧ items[i]? = ys[j]?)
    (hQ : ∀ h', ZSt h' z TI TO its as (i + 1) → IsTup h' s.heap.objs.size ys → h'.objs.size = s.heap.objs.size + 1 → Kp z TO its s.heap h' → Q (some (.ref s.heap.objs.size)) { s with heap := h' }) :
    wpAny (model prog w) A (pyNext (.ref z)) Q E s := by
  obtain ⟨⟨f0, f1, hz, h0, h1⟩, hTI, ⟨us, hus, hTO⟩, hit⟩ := st
  have hT : s.TypeIs (.ref z) "zip" := ⟨_, hz, rfl⟩
  unfold pyNext
  refine wpAny_bind (wpAny_attempt (wpAny_callSpecial?_slot (name := Str.ofString "__next__") hT F.slot_zip_next
    (wpAny_call_entry F.slot_zip_next hT F.entry_zip_next ?_ (F.args_zip_next_1 _))))
  rcases asked hz h0 h1 with free | held
  · exact next_free D hk hz8 free hz hTI hTO hus hit hy hit2 fun h' z1 t1 t2 i1 T1 s1 k1 => wpAny_pure (hQ h' ⟨⟨_, _, z1, .inr ⟨_, rfl⟩, _, rfl⟩, t1, ⟨ys, hy, t2⟩, i1⟩ T1 s1 k1)
  · exact next_held D hk hz8 hz held hTI hit hy hit2 fun h' z1 i1 T1 s1 k1 => wpAny_pure (hQ h' ⟨⟨_, _, z1, h0, _, rfl⟩, k1 _ _ D.TIz D.TIi hTI, ⟨us, hus, k1 _ _ D.TOz D.TOi hTO⟩, i1⟩ T1 s1 fun c o c1 _ c3 e => k1 c o c1 c3 e)
theorem pyNext_end {z TI TO : Addr} {its as : List Addr} {i : Nat} {Q : Option Value → Shared → Prop} (hh : A.handled = none) (D : ZAp z TI TO its as) (hk : its ≠ []) (st : ZSt s.heap z TI TO its as i)
    (hit2 : ∀ a ∈ as, ∃ items : Array Value, s.heap.IsTuple a items ∧ items[i]? = none)
    (hQ : ∀ h', Kp z TO its s.heap h' → Q none { s with heap := h' }) :
    wpAny (model prog w) A (pyNext (.ref z)) Q E s := by
  obtain ⟨⟨f0, f1, hz, h0, h1⟩, hTI, ⟨us, hus, hTO⟩, hit⟩ := st
  have hT : s.TypeIs (.ref z) "zip" := ⟨_, hz, rfl⟩
  cases its with
  | nil => exact absurd rfl hk
  | cons t its =>
  cases as with
  | nil => exact absurd D.len (by simp)
  | cons a0 as =>
  obtain ⟨items, hI, hx⟩ := hit2 a0 List.mem_cons_self
  have fin : ∀ h' e, (∀ c o, c ≠ z → c ≠ t → s.heap.get? c = some o → h'.get? c = some o) → (∃ o, h'.get? e = some o ∧ o.cls = .type "StopIteration") → wpAny (model prog w) A (do
        if ← isInstance (.ref e) (.type "StopIteration") then pure none else throw (.ref e)) Q E { s with heap := h' } := fun h' e hkk he => by
    obtain ⟨o, ho, hc⟩ := he
    refine wpAny_bind (wpAny_isInstance (T := "StopIteration") (b := true) ⟨o, ho, hc⟩ isSubtype_stop ?_)
    exact wpAny_pure (hQ _ fun c o c1 _ c3 x => hkk c o c1 (fun q => c3 (q ▸ List.mem_cons_self)) x)
  unfold pyNext
  refine wpAny_bind (wpAny_attempt (wpAny_callSpecial?_slot (name := Str.ofString "__next__") hT F.slot_zip_next
    (wpAny_call_entry F.slot_zip_next hT F.entry_zip_next ?_ (F.args_zip_next_1 _))))
  rcases asked hz h0 h1 with free | held
  · exact end_free hh D free hz hTI (hit 0 t a0 rfl rfl) hI hx (fun h' e a b => fin h' e a b) ⟨us, hTO⟩
  · exact end_held hh D hz held hTI (hit 0 t a0 rfl rfl) hI hx fun h' e a b => fin h' e a b
structure NewOk (h0 h' : Heap) (as : List Addr) : Prop where
  st : ZSt h' (h0.objs.size + as.length + 2) (h0.objs.size + as.length) (h0.objs.size + as.length + 1) (List.range' h0.objs.size as.length) as 0
  sz : h'.objs.size = h0.objs.size + as.length + 3
  k : ∀ c o, h0.get? c = some o → h'.get? c = some o
theorem newClass_zip {rest : List Value} {Q : Value × List Value → Shared → Prop} (h : Q (.type "zip", rest) s) : wpAny (model prog w) A (Builtin.SmallTypes.newClass "zip" ⟨.type "zip" :: rest, []⟩) Q E s := by
  obtain ⟨hp, g, d, tk, os⟩ := s
  have hsub := sub_zip
  unfold Builtin.SmallTypes.newClass
  repeat (any_goals (first | assumption | wp_step))
structure Li (h0 h : Heap) (as : List Addr) (j : Nat) : Prop where
  it : ∀ (m : Nat) (a : Addr), m < j → as[m]? = some a → h.IsTupleIter (h0.objs.size + m) a 0
  sz : h.objs.size = h0.objs.size + j
  k : ∀ c o, h0.get? c = some o → h.get? c = some o
theorem iterAll_ok {as : List Addr} {Q : List Value → Shared → Prop} (hI : ∀ a ∈ as, ∃ items, s.heap.IsTuple a items) (hQ : ∀ h', Li s.heap h' as as.length → Q ((List.range' s.heap.objs.size as.length).map Value.ref) { s with heap := h' }) :
    wpAny (model prog w) A (Builtin.SmallTypes.iterAll (as.map Value.ref)) Q E s := by
  unfold Builtin.SmallTypes.iterAll
  refine wpAny_bind ?_
  refine wp_forIn (fun j b s' => b = ((List.range' s.heap.objs.size j).map Value.ref).toArray ∧ ∃ h', s' = { s with heap := h' } ∧ Li s.heap h' as j) ?_ ?_ ?_
  · rintro j v b s' hx ⟨rfl, h', rfl, L⟩
    rw [List.getElem?_map] at hx
    obtain ⟨a, ha, rfl⟩ : ∃ a, as[j]? = some a ∧ Value.ref a = v := by
      cases e : as[j]? with
      | none => rw [e] at hx; cases hx
      | some t => rw [e] at hx; exact ⟨t, rfl, Option.some.inj hx⟩
    obtain ⟨items, o, ho, r⟩ := hI a (List.mem_of_getElem? ha)
    have hT : h'.IsTuple a items := ⟨o, L.k _ _ ho, r⟩
    refine wpAny_bind (wpAny_holding (wpAny_pyIter_tuple (s := { s with heap := h' }) hT ?_))
    refine wpAny_pure ⟨_, rfl, ?_, _, rfl, ?_⟩
    · show ((List.range' s.heap.objs.size j).map Value.ref).toArray.push (.ref h'.objs.size) = _
      rw [L.sz, List.range'_concat]
      simp
    · refine ⟨fun m a' hm h1 => ?_, ?_, fun c o e => Heap.get?_push_of_some _ (L.k _ _ e)⟩
      · by_cases e : m = j
        · subst e
          rw [ha] at h1
          cases h1
          refine ⟨{ cls := .type "tuple_iterator", data := .fields #[.ref a, .int 0 0] }, ?_, rfl, rfl⟩
          have q2 : (h'.push { cls := .type "tuple_iterator", data := .fields #[.ref a, .int 0 0] }).get? h'.objs.size = some { cls := .type "tuple_iterator", data := .fields #[.ref a, .int 0 0] } := Heap.get?_push_size _ rfl
          rw [L.sz] at q2
          exact q2
        · exact (L.it m a' (by omega) h1).at fun o e => Heap.get?_push_of_some _ e
      · show (h'.push _).objs.size = _
        rw [Heap.size_push, L.sz]
        rfl
  · rintro b s' ⟨rfl, h', rfl, L⟩
    rw [List.length_map] at L ⊢
    refine wpAny_pure ?_
    have e : ((List.range' s.heap.objs.size as.length).map Value.ref).toArray.toList = (List.range' s.heap.objs.size as.length).map Value.ref := by simp
    show Q (((List.range' s.heap.objs.size as.length).map Value.ref).toArray.toList) _
    rw [e]
    exact hQ h' L
  · exact ⟨rfl, s.heap, rfl, fun m a hm => absurd hm (Nat.not_lt_zero _), rfl, fun c o e => e⟩
theorem meets_new (as : List Addr) :
    Meets (Builtin.«zip.__new__» ⟨.type "zip" :: as.map Value.ref, []⟩) (fun _ R s => (∀ a ∈ as, ∃ items, s.heap.IsTuple a items) ∧ as.length ≤ 100000 ∧ ∀ h', NewOk s.heap h' as → R (.ok (.ret (.ref (s.heap.objs.size + as.length + 2)))) { s with heap := h' }) :=
  .of_wp fun prog w A R s h => by
    obtain ⟨hI, hl, h⟩ := h
    unfold Builtin.«zip.__new__»
    refine wpAny_bind (newClass_zip ?_)
    show wpAny _ _ (Builtin.SmallTypes.iterAll (as.map Value.ref) >>= _) _ _ _
    refine wpAny_bind (iterAll_ok hI fun h1 L => ?_)
    have n1 : ((List.range' s.heap.objs.size as.length).map Value.ref).length = as.length := by rw [List.length_map, List.length_range']
    refine wpAny_bind (wpAny_newTuple (s := { s with heap := h1 }) ?_ (by rw [n1]; exact Nat.le_trans hl (by decide)))
    refine wpAny_bind (wpAny_newTuple ?_ (by rw [List.length_map, n1]; exact Nat.le_trans hl (by decide)))
    refine wpAny_bind ?_
    have hs1 : h1.objs.size = s.heap.objs.size + as.length := L.sz
    have hs2 : (h1.push { cls := .type "tuple", data := .seq (List.map Value.ref (List.range' s.heap.objs.size as.length)).toArray }).objs.size = s.heap.objs.size + as.length + 1 := by rw [Heap.size_push, hs1]
    have q2 : (h1.push { cls := .type "tuple", data := .seq (List.map Value.ref (List.range' s.heap.objs.size as.length)).toArray }).get? h1.objs.size = some { cls := .type "tuple", data := .seq (List.map Value.ref (List.range' s.heap.objs.size as.length)).toArray } := Heap.get?_push_size _ rfl
    have k2 : ∀ c o, h1.get? c = some o → (h1.push { cls := .type "tuple", data := .seq (List.map Value.ref (List.range' s.heap.objs.size as.length)).toArray }).get? c = some o := fun c o e => Heap.get?_push_of_some _ e
    show wpAny _ _ (newObj (.type "zip") (.fields #[.none, .bool false, .bool false, .ref h1.objs.size, .ref (h1.push { cls := .type "tuple", data := .seq (List.map Value.ref (List.range' s.heap.objs.size as.length)).toArray }).objs.size])) _ _ _
    generalize h1.push { cls := .type "tuple", data := .seq (List.map Value.ref (List.range' s.heap.objs.size as.length)).toArray } = h2 at hs2 q2 k2 ⊢
    have hs3 : (h2.push { cls := .type "tuple", data := .seq (List.map (fun x => Value.none) (List.map Value.ref (List.range' s.heap.objs.size as.length))).toArray }).objs.size = s.heap.objs.size + as.length + 2 := by rw [Heap.size_push, hs2]
    have q3 : (h2.push { cls := .type "tuple", data := .seq (List.map (fun x => Value.none) (List.map Value.ref (List.range' s.heap.objs.size as.length))).toArray }).get? h2.objs.size = some { cls := .type "tuple", data := .seq (List.map (fun x => Value.none) (List.map Value.ref (List.range' s.heap.objs.size as.length))).toArray } := Heap.get?_push_size _ rfl
    have k3 : ∀ c o, h2.get? c = some o → (h2.push { cls := .type "tuple", data := .seq (List.map (fun x => Value.none) (List.map Value.ref (List.range' s.heap.objs.size as.length))).toArray }).get? c = some o := fun c o e => Heap.get?_push_of_some _ e
    refine wpAny_newObj_type ?_
    show wpAny _ _ (ret (.ref (h2.push { cls := .type "tuple", data := .seq (List.map (fun x => Value.none) (List.map Value.ref (List.range' s.heap.objs.size as.length))).toArray }).objs.size)) _ _ { s with heap := (h2.push { cls := .type "tuple", data := .seq (List.map (fun x => Value.none) (List.map Value.ref (List.range' s.heap.objs.size as.length))).toArray }).push { cls := .type "zip", data := .fields #[.none, .bool false, .bool false, .ref h1.objs.size, .ref h2.objs.size] } }
    generalize h2.push { cls := .type "tuple", data := .seq (List.map (fun x => Value.none) (List.map Value.ref (List.range' s.heap.objs.size as.length))).toArray } = h3 at hs3 q3 k3 ⊢
    have q4 : (h3.push { cls := .type "zip", data := .fields #[.none, .bool false, .bool false, .ref h1.objs.size, .ref h2.objs.size] }).get? h3.objs.size = some { cls := .type "zip", data := .fields #[.none, .bool false, .bool false, .ref h1.objs.size, .ref h2.objs.size] } := Heap.get?_push_size _ rfl
    have k4 : ∀ c o, h3.get? c = some o → (h3.push { cls := .type "zip", data := .fields #[.none, .bool false, .bool false, .ref h1.objs.size, .ref h2.objs.size] }).get? c = some o := fun c o e => Heap.get?_push_of_some _ e
    have hs4 : (h3.push { cls := .type "zip", data := .fields #[.none, .bool false, .bool false, .ref h1.objs.size, .ref h2.objs.size] }).objs.size = s.heap.objs.size + as.length + 3 := by rw [Heap.size_push, hs3]
    generalize h3.push { cls := .type "zip", data := .fields #[.none, .bool false, .bool false, .ref h1.objs.size, .ref h2.objs.size] } = h4 at q4 k4 hs4 ⊢
    rw [hs3] at q4 ⊢
    rw [hs1] at q4 q2
    rw [hs2] at q4 q3
    refine wpAny_pure ⟨_, rfl, h h4 ⟨⟨⟨_, _, q4, .inl rfl, _, rfl⟩, k4 _ _ (k3 _ _ q2), ⟨_, ?_, k4 _ _ q3⟩, fun j t a h1' h2' => ?_⟩, hs4, fun c o e => k4 _ _ (k3 _ _ (k2 _ _ (L.k _ _ e)))⟩⟩
    · rw [List.length_map, List.length_map]
    · have hj : j < as.length := (List.getElem?_eq_some_iff.mp h2').1
      have et : t = s.heap.objs.size + j := by
        rw [List.getElem?_range' hj] at h1'
        have q := Option.some.inj h1'
        rw [Nat.one_mul] at q
        exact q.symm
      subst et
      exact (L.it j a hj h2').at fun o e => k4 _ _ (k3 _ _ (k2 _ _ e))
theorem call_zipN {a : Addr} {as : List Addr} {Q : Value → Shared → Prop} (hI : ∀ b ∈ a :: as, ∃ items, s.heap.IsTuple b items) (hl : (a :: as).length ≤ 100000)
    (h : ∀ h', NewOk s.heap h' (a :: as) → Q (.ref (s.heap.objs.size + (a :: as).length + 2)) { s with heap := h' }) :
    wpAny (model prog w) A (call (.type "zip") ((a :: as).map Value.ref)) Q E s := by
  refine callType_new F.called_zip (by decide) (tc _) (nc _ _) (fun obj => oi _) F.entry_zip_new (meets_new (a :: as)) ⟨hI, hl, fun h' n => ?_⟩
  refine ⟨?_, h h' n⟩
  obtain ⟨⟨f0, f1, hz, _⟩, _⟩ := n.st
  exact ⟨_, hz, rfl⟩
end
end OZ

set_option Elab.async false
set_option linter.all false
set_option maxRecDepth 100000
set_option maxHeartbeats 2000000
namespace OZ
open PySem PySem.Spec PyProof.Rows L2
/-- all of them tuples of n items -/
def Cols (K : PySem.W.Frag) (H : Hp) (as : List Addr) (n : Nat) : Prop := ∀ a ∈ as, ∃ xs : List V, SqT K H a xs ∧ xs.length = n
/-- the tuples in turn: at turn i a new tuple of their i-th items -/
def ItzN (K : PySem.W.Frag) (as : List Addr) (n : Nat) : It :=
  ⟨fun i H => i < n ∧ Cols K H as n,
    fun i H v H' => ∃ T ys, v = .ref T ∧ H T = none ∧ H' = upd H T (.tup ys) ∧ ys.length = as.length ∧ ∀ (j : Nat) (a : Addr) (xs : List V), as[j]? = some a → SqT K H a xs → xs[i]? = ys[j]?,
    fun i H => n ≤ i ∧ Cols K H as n⟩
theorem cols_at {X : Cx} {pins : List (Addr × Obj)} {σ : L2.St} {H : Hp} {s : Shared} {n i : Nat} (I : Inv X pins σ H s) (hi : i < n) : ∀ {as : List Addr}, Cols X.K H as n →
    ∃ (ys : List V) (us : List Value), Vals ys us ∧ ys.length = as.length ∧ us.length = as.length ∧
      (∀ (j : Nat) (a : Addr), as[j]? = some a → ∃ items, s.heap.IsTuple a items ∧ items[i]? = us[j]?) ∧ (∀ (j : Nat) (a : Addr), as[j]? = some a → ∃ xs : List V, SqT X.K H a xs ∧ xs[i]? = ys[j]?)
  | [], _ => ⟨[], [], .nil, rfl, rfl, fun j a h => by simp at h, fun j a h => by simp at h⟩
  | a :: as, C => by
    obtain ⟨xs, hq, hn⟩ := C a List.mem_cons_self
    obtain ⟨ys, us, v, l1, l2, p1, p2⟩ := cols_at I hi (as := as) fun b hb => C b (List.mem_cons_of_mem _ hb)
    obtain ⟨its, rv, p, _⟩ := I.tuple hq
    have hx : xs[i]? = some xs[i] := List.getElem?_eq_getElem (by omega)
    obtain ⟨u, hu, ru⟩ := rv.get hx
    refine ⟨xs[i] :: ys, u :: us, .cons ru v, by rw [List.length_cons, List.length_cons, l1], by rw [List.length_cons, List.length_cons, l2], fun j b h => ?_, fun j b h => ?_⟩
    · cases j with
      | zero =>
        cases h
        exact ⟨_, p, by simpa using hu⟩
      | succ j => exact p1 j b h
    · cases j with
      | zero =>
        cases h
        exact ⟨xs, hq, hx⟩
      | succ j => exact p2 j b h
theorem turn_zipN {P : Program} {w : World} {K : PySem.W.Frag} {nm : Str} {npos : Pos} {z TI TO : Addr} {its as : List Addr} {n : Nat} (D : ZAp z TI TO its as) (hk : its ≠ []) (hz8 : its.length ≤ 100000) :
    Turn P w K (.Name nm npos) (ItzN K as n) (z :: TI :: TO :: its) z (fun i h => ZSt h z TI TO its as i) where
  mem := List.mem_cons_self
  obj := fun i h st c hc => by
    obtain ⟨⟨f0, f1, hz, _⟩, hTI, ⟨us, _, hTO⟩, hit⟩ := st
    rcases List.mem_cons.mp hc with rfl | hc
    · exact ⟨_, hz, fun v q => nomatch q⟩
    rcases List.mem_cons.mp hc with rfl | hc
    · exact ⟨_, hTI, fun v q => nomatch q⟩
    rcases List.mem_cons.mp hc with rfl | hc
    · exact ⟨_, hTO, fun v q => nomatch q⟩
    obtain ⟨j, hj, rfl⟩ := List.mem_iff_getElem.mp hc
    have hja : j < as.length := by rw [← D.len]; exact hj
    obtain ⟨o, e, _, d⟩ := hit j _ _ (List.getElem?_eq_getElem hj) (List.getElem?_eq_getElem hja)
    exact ⟨o, e, fun v q => by rw [d] at q; cases q⟩
  keep := fun i h h' st k => by
    obtain ⟨⟨f0, f1, hz, a, b⟩, hTI, ⟨us, hu, hTO⟩, hit⟩ := st
    refine ⟨⟨f0, f1, k z (by simp) _ hz, a, b⟩, k TI (by simp) _ hTI, ⟨us, hu, k TO (by simp) _ hTO⟩, fun j t a h1 h2 => ?_⟩
    exact (hit j t a h1 h2).at fun o q => k t (by simp [List.mem_of_getElem? h1]) o q
  item := by
    intro X hP hw hK hc i pins s σ H E I hf st hg
    subst hP hw hK
    obtain ⟨hi, C⟩ := hg
    obtain ⟨ys, us, rv, l1, l2, p1, p2⟩ := cols_at I hi C
    have hzl : z < s.heap.objs.size := by
      obtain ⟨⟨f0, f1, hz, _⟩, _⟩ := st
      exact Heap.lt_size hz
    refine pyNext_item D hk hz8 st (by rw [l2, D.len]) p1 fun h' st' hT hsz hkp => ?_
    refine ⟨_, rfl, ?_⟩
    show wpAny _ _ (pure ()) _ _ _
    refine wpAny_pure ?_
    have new : ObjOk X.prog X.w (upd H s.heap.objs.size (.tup ys)) h' s.heap.objs.size (.tup ys) :=
      ⟨by show ys.length ≤ sizeLine; rw [l1, ← D.len]; exact Nat.le_trans hz8 (by decide), us, rv, ⟨_, hT, rfl, _, rfl⟩⟩
    have I1 : Inv X pins σ (upd H s.heap.objs.size (.tup ys)) { s with heap := h' } :=
      I.turnedNew (t' := s.toks) (ch := z :: TI :: TO :: its) (fun c o hb q => by
        simp only [List.mem_cons, not_or] at hb
        exact hkp c o hb.1 hb.2.2.1 hb.2.2.2 q) hf (Nat.le_refl _) new
    refine ⟨.ref s.heap.objs.size, _, I1, rfl, ⟨_, ys, rfl, I.hok.fresh (Nat.le_refl _), rfl, l1, fun j a xs ha hq => ?_⟩, st', fun c hcm => ?_⟩
    · obtain ⟨xs', hq', e⟩ := p2 j a ha
      rw [I.tuple_inj hq hq']
      exact e
    · have hlt : c < s.heap.objs.size := by
        obtain ⟨⟨f0, f1, hz, _⟩, hTI, ⟨us, _, hTO⟩, hit⟩ := st
        rcases List.mem_cons.mp hcm with rfl | hc
        · exact Heap.lt_size hz
        rcases List.mem_cons.mp hc with rfl | hc
        · exact Heap.lt_size hTI
        rcases List.mem_cons.mp hc with rfl | hc
        · exact Heap.lt_size hTO
        obtain ⟨j, hj, rfl⟩ := List.mem_iff_getElem.mp hc
        have hja : j < as.length := by rw [← D.len]; exact hj
        obtain ⟨o, e, _, d⟩ := hit j _ _ (List.getElem?_eq_getElem hj) (List.getElem?_eq_getElem hja)
        exact Heap.lt_size e
      rw [upd_ne (Nat.ne_of_lt hlt)]
      exact (hf c hcm).1
  done := by
    intro X hP hw hK hc i pins s σ H E I hf st hg
    subst hP hw hK
    obtain ⟨hi, C⟩ := hg
    refine pyNext_end (I.ok.hd hc) D hk st (fun a ha => ?_) fun h' hkp => ⟨rfl, I.turnedL (t' := s.toks) (ch := z :: TI :: TO :: its) (fun c o hb q => ?_) hf⟩
    · obtain ⟨xs, hq, hn⟩ := C a ha
      obtain ⟨its, rv, p, _⟩ := I.tuple hq
      have := rv.length
      exact ⟨_, p, by simp; omega⟩
    · simp only [List.mem_cons, not_or] at hb
      exact hkp c o hb.1 hb.2.2.1 hb.2.2.2 q
  self := fun A i s Q E st h => by
    obtain ⟨⟨f0, f1, hz, _⟩, _⟩ := st
    have hT : s.TypeIs (.ref z) "zip" := ⟨_, hz, rfl⟩
    refine wpAny_pyIter_slot hT F.slot_zip_iter (wpAny_call_entry F.slot_zip_iter hT F.entry_zip_iter ?_ (F.args_zip_iter_1 _))
    show wpAny _ _ (ret (.ref z)) _ _ s
    exact wpAny_pure ⟨_, rfl, "zip", _, hT, F.slot_zip_next.lookup, h⟩
def iZipN (K : PySem.W.Frag) (te : TE) : TI := fun σ H R => te σ H fun x H1 => ∃ (l : Addr) (as : List Addr) (n : Nat), x = .ref l ∧ SqL K H1 l (as.map V.ref) ∧ as ≠ [] ∧ as.length ≤ 100000 ∧ Cols K H1 as n ∧ R (ItzN K as n) H1
theorem vals_refs : ∀ {as : List Addr} {us : List Value}, Vals (as.map V.ref) us → us = as.map Value.ref
  | [], us, h => by
    cases h
    rfl
  | a :: as, us, h => by
    cases h with
    | cons r rr =>
      have := vals_refs rr
      subst this
      cases r
      rfl
theorem pi_zipS {X : Cx} {e : Expr} {te : TE} {p sp pos npos : Pos} {nm : Str} (hg : Gl X "zip") (hm : X.mg "zip" = none) (he : PE X e te)
    (hst : starEach [.Starred e sp] X.env = [(true, eval e X.env)] := by rfl) :
    PI X (.Name nm npos) (.Call (.Name "zip" p) [.Starred e sp] [] pos) (iZipN X.K te) := by
  refine ⟨fun pins s σ H R I h => ?_⟩
  refine Call_ (ld_blt I hg hm PyProof.Rows.boot_zip ?_)
  rw [hst]
  refine PySem.W.ks_call (P := fun _ => True) rfl (fun h _ => ⟨.machine, .inr (.inl rfl), PySem.W.Looks.of_pure rfl⟩) (PySem.W.ks_lone (thn (he.run pins s σ H _ I h) fun v s1 ⟨y, H1, I1, ry, l, as, n, ey, hq, hne, hl, C, q⟩ => ?_))
  subst ey
  obtain rfl : v = Value.ref l := ry
  refine StX.star_lst I1 hq fun us s2 I2 rv => ⟨trivial, ?_⟩
  have hus := vals_refs rv
  subst hus
  cases as with
  | nil => exact absurd rfl hne
  | cons a as =>
  have hI : ∀ b ∈ a :: as, ∃ items, s2.heap.IsTuple b items := fun b hb => by
    obtain ⟨xs, hq, _⟩ := C b hb
    obtain ⟨its, rv, p, _⟩ := I2.tuple hq
    exact ⟨_, p⟩
  have hlt : ∀ b ∈ a :: as, b < s2.heap.objs.size := fun b hb => by
    obtain ⟨items, o, ho, _⟩ := hI b hb
    exact Heap.lt_size ho
  show wpAny _ _ (call (.type "zip") ((a :: as).map Value.ref)) _ _ _
  refine call_zipN hI hl fun h' N => ?_
  have D : ZAp (s2.heap.objs.size + (a :: as).length + 2) (s2.heap.objs.size + (a :: as).length) (s2.heap.objs.size + (a :: as).length + 1) (List.range' s2.heap.objs.size (a :: as).length) (a :: as) := by
    have mr : ∀ t : Nat, t ∈ List.range' (s2.heap.objs.size : Nat) (a :: as).length → (s2.heap.objs.size : Nat) ≤ t ∧ t < (s2.heap.objs.size : Nat) + (a :: as).length := fun t ht => List.mem_range'_1.mp ht
    have hlt' : ∀ b : Nat, b ∈ (show List Nat from a :: as) → b < (s2.heap.objs.size : Nat) := hlt
    have n1 : ∀ x k : Nat, x + k ≠ x + k + 2 := fun x k => by omega
    have n2 : ∀ x k : Nat, x + k + 1 ≠ x + k + 2 := fun x k => by omega
    have n3 : ∀ x k : Nat, x + k ≠ x + k + 1 := fun x k => by omega
    refine ⟨n1 _ _, n2 _ _, n3 _ _, fun q => ?_, fun q => ?_, fun q => ?_, List.nodup_range', fun q => ?_, fun q => ?_, fun t ht q => ?_, by rw [List.length_range']⟩
    · have := mr _ q; omega
    · have := mr _ q; omega
    · have := mr _ q; omega
    · have := hlt' _ q; omega
    · have := hlt' _ q; omega
    · have := hlt' _ q; have := mr _ ht; omega
  have I3 : Inv X pins σ H1 { s2 with heap := h' } := I2.kept (t' := s2.toks) N.k
  obtain ⟨⟨f0, f1, hz, hf⟩, r⟩ := id N.st
  have hT : Shared.TypeIs { s2 with heap := h' } (.ref (s2.heap.objs.size + (a :: as).length + 2)) "zip" := ⟨_, hz, rfl⟩
  have T : Turn X.prog X.w X.K (.Name nm npos) (ItzN X.K (a :: as) n) _ _ _ := turn_zipN (n := n) D (by rw [← List.length_pos_iff, List.length_range']; exact Nat.succ_pos _) (by rw [List.length_range']; exact hl)
  refine T.self _ 0 { s2 with heap := h' } _ _ N.st ?_
  refine ⟨_, _, _, _, H1, rfl, I3, T, N.st, fun c hcm => ?_, q⟩
  have hle : s2.heap.objs.size ≤ c := by
    rcases List.mem_cons.mp hcm with rfl | hc
    · omega
    rcases List.mem_cons.mp hc with rfl | hc
    · omega
    rcases List.mem_cons.mp hc with rfl | hc
    · omega
    exact (List.mem_range'_1.mp hc).1
  exact I2.fpOk hle (I2.hok.fresh hle)
end OZ

set_option Elab.async false
set_option linter.all false
set_option maxRecDepth 100000
set_option maxHeartbeats 2000000
/-! min, max of a tuple of ints -/
namespace OZ
open PySem PySem.Spec PyProof.Rows L2
section
variable {prog : Program} {w : World} {A : Around} {E : Value → Shared → Prop} {s : Shared} {l : Addr}
theorem iter_intTup {xs : Array (Int × Tok)} {Q : Value → Shared → Prop} (hl : s.heap.IsTuple l (intItems xs))
    (h : ∀ s₂ : Shared, s₂ = { s with heap := s.heap.push { cls := .type "tuple_iterator", data := .fields #[.ref l, .int 0 0] } } →
      (s₂.heap.IsTupleIter s.heap.objs.size l 0 ∧ s₂.heap.IsTuple l (intItems xs)) → (∀ b ∈ [s.heap.objs.size, l], b < s₂.heap.objs.size) → l ≠ s.heap.objs.size → Q (.ref s.heap.objs.size) s₂) :
    wpAny (model prog w) A (pyIter (.ref l)) Q E s := by
  have hlt : l < s.heap.objs.size := by obtain ⟨_, e, _⟩ := hl; exact Heap.lt_size e
  refine wpAny_pyIter_tuple hl (h _ rfl ⟨⟨_, Heap.get?_push_size _ rfl, rfl, rfl⟩, hl.push _⟩ (fun b hb => ?_) (Nat.ne_of_lt hlt))
  show b < (s.heap.push _).objs.size
  rw [Heap.size_push]
  rcases List.mem_cons.mp hb with rfl | hb
  · exact Nat.lt_succ_self _
  · rcases List.mem_cons.mp hb with rfl | hb
    · exact Nat.lt_succ_of_lt hlt
    · cases hb
theorem old_keptT {h' : Heap} {o0 : Obj} (hk : ∀ c o, c ∉ [s.heap.objs.size] → (s.heap.push o0).get? c = some o → h'.get? c = some o) : ∀ c o, s.heap.get? c = some o → h'.get? c = some o := fun c o e => by
  refine hk c o (fun hm => ?_) (Heap.get?_push_of_some _ e)
  rcases List.mem_cons.mp hm with e1 | hm
  · have := Heap.lt_size e
    rw [e1] at this
    exact Nat.lt_irrefl _ this
  · cases hm
theorem max_intTup {xs : Array (Int × Tok)} {Q : Value → Shared → Prop} (hh : A.handled = none) (hl : s.heap.IsTuple l (intItems xs)) (hne : 0 < xs.size)
    (h : ∀ v h' tk, (intItems xs)[argBest (fun i j => decide (numAt xs i > numAt xs j)) (xs.size - 1)]? = some v → (∀ b o, s.heap.get? b = some o → h'.get? b = some o) → Q v { s with heap := h', toks := tk }) :
    wpAny (model prog w) A (call (.builtin "max") [.ref l]) Q E s := by
  refine call_max_walk (iter_intTup hl fun s₂ e st hfp hlI => ?_)
  subst e
  refine ⟨_, _, _, _, _, _, _, rfl, Walks.tuple (A := A.in1) hh _ l hlI (intItems xs), st, hfp, by simpa [intItems] using hne, CmpOf.ints_gt (numAt xs) (fun _ _ => intItems_at), fun v h' tk hP hk => ?_⟩
  exact h v h' tk (by simpa [intItems] using hP) (old_keptT hk)
theorem min_intTup {xs : Array (Int × Tok)} {Q : Value → Shared → Prop} (hh : A.handled = none) (hl : s.heap.IsTuple l (intItems xs)) (hne : 0 < xs.size)
    (h : ∀ v h' tk, (intItems xs)[argBest (fun i j => decide (numAt xs i < numAt xs j)) (xs.size - 1)]? = some v → (∀ b o, s.heap.get? b = some o → h'.get? b = some o) → Q v { s with heap := h', toks := tk }) :
    wpAny (model prog w) A (call (.builtin "min") [.ref l]) Q E s := by
  refine call_min_walk (iter_intTup hl fun s₂ e st hfp hlI => ?_)
  subst e
  refine ⟨_, _, _, _, _, _, _, rfl, Walks.tuple (A := A.in1) hh _ l hlI (intItems xs), st, hfp, by simpa [intItems] using hne, CmpOf.ints_lt (numAt xs) (fun _ _ => intItems_at), fun v h' tk hP hk => ?_⟩
  exact h v h' tk (by simpa [intItems] using hP) (old_keptT hk)
variable {its : List Value} {ns : List Int} {Q : Value → Shared → Prop}
theorem maxT_raw (hh : A.handled = none) (hl : s.heap.IsTuple l its.toArray) (hi : IntsAre its ns) (hne : 0 < ns.length)
    (h : ∀ h' tk M t', (∀ b o, s.heap.get? b = some o → h'.get? b = some o) → M ∈ ns → (∀ a, a ∈ ns → a ≤ M) → Q (.int M t') { s with heap := h', toks := tk }) : wpAny (model prog w) A (call (.builtin "max") [.ref l]) Q E s := by
  obtain ⟨xs, e⟩ := hi.allInts.items
  have hn : numsOf (intItems xs).toList = ns := by rw [← e]; exact hi.numsOf
  rw [nums_intItems] at hn
  subst hn
  rw [e] at hl
  have hsz : 0 < xs.size := by simpa using hne
  refine max_intTup hh hl hsz fun v h' tk hv hk => ?_
  obtain ⟨t, rfl⟩ := intItems_at hv
  obtain ⟨h1, h2⟩ := argBest_gt (numAt xs) (xs.size - 1)
  refine h h' tk _ t hk ?_ fun a ha => ?_
  · rw [numAt_eq]; exact PySem.getD_mem (by rw [List.length_map, Array.length_toList]; omega)
  · obtain ⟨j, hj, rfl⟩ := mem_getD ha
    rw [List.length_map, Array.length_toList] at hj
    rw [← numAt_eq]; exact h2 j (by omega)
theorem minT_raw (hh : A.handled = none) (hl : s.heap.IsTuple l its.toArray) (hi : IntsAre its ns) (hne : 0 < ns.length)
    (h : ∀ h' tk M t', (∀ b o, s.heap.get? b = some o → h'.get? b = some o) → M ∈ ns → (∀ a, a ∈ ns → M ≤ a) → Q (.int M t') { s with heap := h', toks := tk }) : wpAny (model prog w) A (call (.builtin "min") [.ref l]) Q E s := by
  obtain ⟨xs, e⟩ := hi.allInts.items
  have hn : numsOf (intItems xs).toList = ns := by rw [← e]; exact hi.numsOf
  rw [nums_intItems] at hn
  subst hn
  rw [e] at hl
  have hsz : 0 < xs.size := by simpa using hne
  refine min_intTup hh hl hsz fun v h' tk hv hk => ?_
  obtain ⟨t, rfl⟩ := intItems_at hv
  obtain ⟨h1, h2⟩ := argBest_lt (numAt xs) (xs.size - 1)
  refine h h' tk _ t hk ?_ fun a ha => ?_
  · rw [numAt_eq]; exact PySem.getD_mem (by rw [List.length_map, Array.length_toList]; omega)
  · obtain ⟨j, hj, rfl⟩ := mem_getD ha
    rw [List.length_map, Array.length_toList] at hj
    rw [← numAt_eq]; exact h2 j (by omega)
end
section
variable {X : Cx}
/-- max(t), min(t) of a tuple of ints -/
def rMaxT (K : PySem.W.Frag) : List V → Hp → VK → Prop := fun vs H Q => ∃ (a : Addr) (ns : List Int), vs = [V.ref a] ∧ SqT K H a (ns.map V.int) ∧ 0 < ns.length ∧ ∀ m, m ∈ ns → (∀ y, y ∈ ns → y ≤ m) → Q (.int m) H
def rMinT (K : PySem.W.Frag) : List V → Hp → VK → Prop := fun vs H Q => ∃ (a : Addr) (ns : List Int), vs = [V.ref a] ∧ SqT K H a (ns.map V.int) ∧ 0 < ns.length ∧ ∀ m, m ∈ ns → (∀ y, y ∈ ns → m ≤ y) → Q (.int m) H
theorem cr_maxT (hc : X.calm = true) : CallR X (.builtin "max") (rMaxT X.K) := by
  intro pins s σ H vs us Q I r h
  obtain ⟨a, ns, rfl, hs, hne, q⟩ := h
  obtain ⟨its, rv, hl, _⟩ := I.tuple hs
  rw [Vals.ref1 r]
  exact maxT_raw (I.ok.hd hc) hl rv.ints hne fun h' tk m t' hk h1 h2 => ⟨.int _, H, I.kept hk, ⟨_, rfl⟩, q m h1 h2⟩
theorem cr_minT (hc : X.calm = true) : CallR X (.builtin "min") (rMinT X.K) := by
  intro pins s σ H vs us Q I r h
  obtain ⟨a, ns, rfl, hs, hne, q⟩ := h
  obtain ⟨its, rv, hl, _⟩ := I.tuple hs
  rw [Vals.ref1 r]
  exact minT_raw (I.ok.hd hc) hl rv.ints hne fun h' tk m t' hk h1 h2 => ⟨.int _, H, I.kept hk, ⟨_, rfl⟩, q m h1 h2⟩
end
end OZ

set_option Elab.async false
set_option linter.all false
set_option maxRecDepth 100000
set_option maxHeartbeats 2000000
/-! any of a tuple of ints -/
namespace OZ
open PySem PySem.Spec PyProof.Rows L2
theorem truth_ints {prog : Program} {w : World} {A : Around} {ns : List Int} {its : List Value} (e : IntsAre its ns) :
    TruthOf prog w A (fun i v => its.toArray[i]? = some v) (fun i => decide (ns.getD i 0 ≠ 0)) := fun i v s Q E hv hq => by
  have hv' : its[i]? = some v := by simpa using hv
  obtain ⟨n, t, rfl, hn⟩ := IntsAre.at e i v hv'
  have hg : ns.getD i 0 = n := by rw [List.getD_eq_getElem?_getD, hn] <;> rfl
  have hq' : Q (decide (ns.getD i 0 ≠ 0)) s := hq
  rw [hg] at hq'
  refine PySem.P.truthy_int (A := A) ?_
  have e0 : (n != 0) = decide (n ≠ 0) := by by_cases h : n = 0 <;> simp [h]
  rw [e0]
  exact hq'
theorem any_ints : ∀ ns : List Int, (List.range ns.length).any (fun i => decide (ns.getD i 0 ≠ 0)) = ns.any fun x => decide (x ≠ 0)
  | [] => rfl
  | n :: ns => by
    rw [List.length_cons, List.range_succ_eq_map, List.any_cons, List.any_map, List.any_cons, ← any_ints ns]
    all_goals rfl
section
variable {X : Cx}
def rAnyT (K : PySem.W.Frag) : List V → Hp → VK → Prop := fun vs H Q => ∃ (a : Addr) (ns : List Int), vs = [V.ref a] ∧ SqT K H a (ns.map V.int) ∧ Q (.bl (ns.any fun x => decide (x ≠ 0))) H
theorem cr_anyT (hc : X.calm = true) : CallR X (.builtin "any") (rAnyT X.K) := by
  intro pins s σ H vs us Q I r h
  obtain ⟨a, ns, rfl, hs, q⟩ := h
  obtain ⟨its, rv, hl, _⟩ := I.tuple hs
  rw [Vals.ref1 r]
  have hb := rv.ints
  have hlt : a < s.heap.objs.size := by obtain ⟨_, e, _⟩ := id hl; exact Heap.lt_size e
  refine call_any_walk (wpAny_pyIter_tuple hl ⟨s.heap.objs.size, [s.heap.objs.size, a], [s.heap.objs.size], its.toArray.size, _, _, _, rfl, Walks.tuple (A := X.A.in1) (I.ok.hd hc) _ a (Nat.ne_of_lt hlt) its.toArray, ⟨⟨_, Heap.get?_push_size _ rfl, rfl, rfl⟩, hl.push _⟩, truth_ints hb, fun h' tk hk => ?_⟩)
  refine ⟨.bl _, H, I.kept fun b o eo => hk b o (fun hmem => ?_) (Heap.get?_push_of_some _ eo), ?_, q⟩
  · rcases List.mem_cons.mp hmem with e1 | hmem
    · exact absurd (e1 ▸ Heap.lt_size eo) (Nat.lt_irrefl _)
    · cases hmem
  · show Value.bool _ = Value.bool _
    have hlen : its.length = ns.length := by
      have := rv.length
      rw [List.length_map] at this
      exact this.symm
    rw [← any_ints, List.size_toArray, hlen]
end
end OZ

set_option Elab.async false
set_option linter.all false
set_option maxRecDepth 100000
set_option maxHeartbeats 2000000
/-! max(xs, default=d) of a list of ints. -/
namespace OW
open PySem PySem.Spec PyProof.Rows L2
theorem maxOf_ints : ∀ (ns : List Int) (x : Int), (PySem.W.maxOf x ns = x ∨ PySem.W.maxOf x ns ∈ ns) ∧ x ≤ PySem.W.maxOf x ns ∧ ∀ y ∈ ns, y ≤ PySem.W.maxOf x ns
  | [], x => ⟨.inl rfl, Int.le_refl _, fun y h => by cases h⟩
  | n :: ns, x => by
    have e : PySem.W.maxOf x (n :: ns) = PySem.W.maxOf (if decide (x < n) = true then n else x) ns := rfl
    rw [e]
    by_cases h : x < n
    · rw [if_pos (decide_eq_true h)]
      obtain ⟨h1, h2, h3⟩ := maxOf_ints ns n
      refine ⟨.inr (h1.elim (fun z => by rw [z]; exact List.mem_cons_self) (List.mem_cons_of_mem _)), by omega, fun y hy => ?_⟩
      rcases List.mem_cons.mp hy with rfl | hy
      · exact h2
      · exact h3 y hy
    · rw [if_neg (by rw [decide_eq_false h]; decide)]
      obtain ⟨h1, h2, h3⟩ := maxOf_ints ns x
      refine ⟨h1.imp_right (List.mem_cons_of_mem _), h2, fun y hy => ?_⟩
      rcases List.mem_cons.mp hy with rfl | hy
      · omega
      · exact h3 y hy
variable {X : Cx}
/-- max(xs, default=d), d an int -/
def rMaxDf (K : PySem.W.Frag) : List V → List V → Hp → VK → Prop := fun vs zs H Q => ∃ (a : Addr) (ns : List Int) (d : Int), vs = [V.ref a] ∧ zs = [V.int d] ∧ SqL K H a (ns.map V.int) ∧ (ns = [] → Q (.int d) H) ∧ ∀ m, m ∈ ns → (∀ y, y ∈ ns → y ≤ m) → Q (.int m) H
theorem cr_maxDf (hc : X.calm = true) (hu : X.A.units + 64 < cLine) : CallRK X (.builtin "max") [Str.ofString "default"] (rMaxDf X.K) := by
  intro pins s σ H vs zs us ws Q I r rz h
  obtain ⟨a, ns, d, rfl, rfl, hs, q0, q⟩ := h
  obtain ⟨its, rv, hl, _⟩ := I.list hs
  obtain rfl := Vals.ref1 r
  obtain ⟨w1, rfl, e1⟩ := vals1 rz
  obtain ⟨tk1, rfl⟩ := (show ∃ tk, w1 = Value.int d tk from e1)
  have hi := rv.ints
  refine PySem.W.max_list_datum_default (α := Int) (xs := ns) (I.ok.hd hc) hl.isList ?_ ?_ (fun e h' tk hk => ?_) fun y ys i v h' tk e hi' hv hk => ?_
  · exact PySem.W.HoldAll.of_ints hi
  · show X.A.units + 1 + 0 < cLine
    omega
  · exact ⟨.int d, H, I.kept hk, ⟨_, rfl⟩, q0 e⟩
  · subst e
    obtain ⟨h1, h2, h3⟩ := maxOf_ints ys y
    obtain ⟨t2, rfl⟩ : ∃ t, v = .int (PySem.W.maxOf y ys) t := PySem.W.int_of_holds hv
    refine ⟨.int _, H, I.kept hk, ⟨_, rfl⟩, q _ (h1.elim (fun z => by rw [z]; exact List.mem_cons_self) (List.mem_cons_of_mem _)) fun z hz => ?_⟩
    rcases List.mem_cons.mp hz with rfl | hz
    · exact h2
    · exact h3 z hz
end OW

set_option Elab.async false
set_option linter.all false
set_option maxRecDepth 100000
set_option maxHeartbeats 2000000
/-! sorted(d), the keys of d ints, any number of them. -/
namespace OW
open PySem PySem.Spec PyProof.Rows L2
variable {X : Cx}
theorem cr_sortedDI (hcalm : X.calm = true) : CallR X (.builtin "sorted") (fun xs H Q => ∃ (a : Addr) (kvs : List (Key × V)) (ks : List Int), xs = [.ref a] ∧ Rd H a (.dK kvs) ∧ kvs.map (·.1) = ks.map Sum.inl ∧
    ∀ (ys : List Int) (p : Addr), ys.Perm ks → ys.Pairwise (· ≤ ·) → H p = none → Q (.ref p) (upd H p (.lst (ys.map V.int)))) := by
  intro pins s σ H xs us Q I r q
  obtain ⟨a, kvs, ks, ex, hd, hks, q⟩ := q
  subst ex
  obtain ⟨u, eu, rx⟩ := vals1 r
  subst eu
  cases rx
  obtain ⟨z, lo, vs, rel, dd⟩ := dk_rd I.hok hd
  obtain ⟨ep, hat⟩ := dd.dictAt
  have hkeys : vs.map (·.1) = ks.map Sum.inl := rel.keys.symm.trans hks
  have hl : vs.length = ks.length := by
    have e := congrArg List.length hkeys
    rw [List.length_map, List.length_map] at e
    exact e
  have hkl : kvs.length = ks.length := by
    have e := congrArg List.length hks
    rw [List.length_map, List.length_map] at e
    exact e
  have h16 : vs.length ≤ sizeLine := by omega
  refine Calls.call_function_entry PyProof.Rows.kind_sorted PyProof.Rows.plain_sorted PyProof.Rows.entry_sorted (PyProof.Rows.args_sorted1 _) ?_
  unfold Builtin.«sorted»
  refine wpAny_bind (m := checkCount "sorted" 1 1 _) (wpAny_pure ?_)
  refine wpAny_bind (PySem.W.kdu_collect (A := X.A.in1) (PySem.W.kdl_dict (knd := mixKind X.prog X.w) (kvs := vs) (ep := ep) lo) (I.ok.hd hcalm) hat h16 fun h' tk acc hk hacc => ?_)
  have hal : acc.toList.length = ks.length := by rw [Array.length_toList, hacc.1, hl]
  have hS : IntsAre acc.toList ks := ints_each hal fun j v e => by
    obtain ⟨k, x, e1, e2⟩ := hacc.2 j v (by rw [← Array.getElem?_toList]; exact e)
    have e3 : (vs.map (·.1))[j]? = some k := by rw [List.getElem?_map, e1]; rfl
    rw [hkeys, List.getElem?_map] at e3
    cases e4 : ks[j]? with
    | none => rw [e4] at e3; cases e3
    | some y =>
      rw [e4] at e3
      have e5 : Sum.inl y = k := Option.some.inj e3
      subst e5
      rcases keyIs_shape (show keyIs (Sum.inl y) v = true from e2) with ⟨i, t, ek, ev⟩ | ⟨z, t, ek, ev⟩
      · cases ek
        exact ⟨y, t, rfl, ev⟩
      · cases ek
  have I1 : Inv X pins σ H { s with heap := h', toks := tk } := I.kept hk
  refine wpAny_bind (wpAny_newList ?_ (by omega))
  have hoL : (h'.push (seqObj "list" acc.toList.toArray 0)).get? h'.objs.size = some (seqObj "list" acc.toList.toArray 0) := Heap.get?_push_size _ rfl
  show wpAny _ _ _ _ _ { s with heap := h'.push (seqObj "list" acc.toList.toArray 0), toks := tk }
  refine wpAny_bind (wpAny_holding (wpAny_call_entry PyProof.Rows.slot_list_sort ⟨_, hoL, rfl⟩ PyProof.Rows.entry_list_sort
    (SrtO.list_sort_ord (s := { s with heap := h'.push (seqObj "list" acc.toList.toArray 0), toks := tk }) SrtO.swo_int hoL (by omega) (fun h2 => SrtO.ints_sortable hS h2) fun out h1 h2 => ⟨_, rfl, ?_⟩) (PyProof.Rows.args_list_sort _)))
  obtain ⟨g1, g2, g3⟩ := SrtO.ints_out hS h1 h2
  obtain ⟨e', he'⟩ := PyProof.Rows.sortedHeap_at (vs := acc.toList) (out := out.toArray) hoL
  have hlen : ((out.map SrtO.iv).map V.int).length ≤ sizeLine := by
    rw [List.length_map, g2.length_eq]
    omega
  refine wpAny_pure ⟨_, rfl, .ref h'.objs.size, upd H h'.objs.size (.lst ((out.map SrtO.iv).map V.int)), I1.laid (t' := tk) (fun b u e => ?_) (Nat.le_refl _)
    (show ObjOk X.prog X.w _ _ _ (.lst ((out.map SrtO.iv).map V.int)) from ⟨hlen, out, e', vals_of_ints g1, he'⟩), rfl, q _ _ g2 g3 (I1.hok.fresh (Nat.le_refl _))⟩
  have hb : b < h'.objs.size := Heap.lt_size e
  rw [PyProof.Rows.sortedHeap_old (Nat.ne_of_lt hb) (by rw [size_push']; exact Nat.lt_succ_of_lt hb)]
  exact Heap.get?_push_of_some _ e
end OW

set_option Elab.async false
set_option linter.all false
set_option maxRecDepth 100000
set_option maxHeartbeats 2000000
namespace OT
open PySem PySem.Spec PyProof.Rows L2
def topS (i : Nat) : Stmt := PySem.Challenge.pw_owntables_k15_whole_own_tables.main.body.getD i (.Pass ⟨0, 0, 0, 0⟩)
abbrev s_TableError___init__ : Stmt := inClass (topS 1) 0
theorem sc_TableError___init__ : FnScope ["self"] ["self"] (C8.fnScope s_TableError___init__) := C8.fnScope_by (by decide +kernel)
abbrev s_IndexedError___init__ : Stmt := inClass (topS 2) 0
theorem sc_IndexedError___init__ : FnScope ["self", "index"] ["self", "index"] (C8.fnScope s_IndexedError___init__) := C8.fnScope_by (by decide +kernel)
abbrev s_OneDirectionOnly___init__ : Stmt := inClass (topS 4) 0
theorem sc_OneDirectionOnly___init__ : FnScope ["self", "dimension"] ["self", "dimension"] (C8.fnScope s_OneDirectionOnly___init__) := C8.fnScope_by (by decide +kernel)
abbrev s_places_length : Stmt := topS 8
theorem sc_places_length : FnScope ["row"] ["row"] (C8.fnScope s_places_length) := C8.fnScope_by (by decide +kernel)
abbrev s_same_lengths : Stmt := topS 9
theorem sc_same_lengths : FnScope ["lengths", "known", "length"] ["lengths"] (C8.fnScope s_same_lengths) := C8.fnScope_by (by decide +kernel)
abbrev s_same_dimension : Stmt := topS 10
theorem sc_same_dimension : FnScope ["rows", "places", "row", "place"] ["rows", "places"] (C8.fnScope s_same_dimension) := C8.fnScope_by (by decide +kernel)
abbrev s_row_of : Stmt := topS 12
theorem sc_row_of : FnScope ["numbers", "place"] ["numbers"] (C8.fnScope s_row_of) := C8.fnScope_by (by decide +kernel)
abbrev s_gather : Stmt := topS 13
theorem sc_gather : FnScope ["entries", "numbers", "place", "number"] ["entries"] (C8.fnScope s_gather) := C8.fnScope_by (by decide +kernel)
abbrev s_reach : Stmt := topS 14
theorem sc_reach : FnScope ["row", "x", "place", "number"] ["row"] (C8.fnScope s_reach) := C8.fnScope_by (by decide +kernel)
abbrev s_key_base : Stmt := topS 15
theorem sc_key_base : FnScope ["first", "second"] ["first", "second"] (C8.fnScope s_key_base) := C8.fnScope_by (by decide +kernel)
abbrev s_key_of : Stmt := topS 16
theorem sc_key_of : FnScope ["place", "base", "key", "x"] ["place", "base"] (C8.fnScope s_key_of) := C8.fnScope_by (by decide +kernel)
abbrev s_place_of : Stmt := topS 17
theorem sc_place_of : FnScope ["key", "base", "length", "half", "coordinates", "step", "x"] ["key", "base", "length"] (C8.fnScope s_place_of) := C8.fnScope_by (by decide +kernel)
abbrev s_keyed : Stmt := topS 18
theorem sc_keyed : FnScope ["row", "base", "place", "number"] ["row", "base"] (C8.fnScope s_keyed) := C8.fnScope_by (by decide +kernel)
abbrev s_unkeyed : Stmt := topS 19
theorem sc_unkeyed : FnScope ["numbers", "base", "length", "key"] ["numbers", "base", "length"] (C8.fnScope s_unkeyed) := C8.fnScope_by (by decide +kernel)
abbrev s_add : Stmt := topS 20
theorem sc_add : FnScope ["first", "second"] ["first", "second"] (C8.fnScope s_add) := C8.fnScope_by (by decide +kernel)
abbrev s_multiply : Stmt := topS 21
theorem sc_multiply : FnScope ["first", "second", "base", "right", "sums", "key", "number", "other", "times"] ["first", "second"] (C8.fnScope s_multiply) := C8.fnScope_by (by decide +kernel)
abbrev s_mirror : Stmt := topS 22
theorem sc_mirror : FnScope ["row", "place", "number", "x"] ["row"] (C8.fnScope s_mirror) := C8.fnScope_by (by decide +kernel)
abbrev s_cross_table : Stmt := topS 24
theorem sc_cross_table : FnScope ["first", "second"] ["first", "second"] (C8.fnScope s_cross_table) := C8.fnScope_by (by decide +kernel)
abbrev s_own_table : Stmt := topS 25
theorem sc_own_table : FnScope ["row"] ["row"] (C8.fnScope s_own_table) := C8.fnScope_by (by decide +kernel)
abbrev s_look : Stmt := topS 26
theorem sc_look : FnScope ["row", "reference"] ["row", "reference"] (C8.fnScope s_look) := C8.fnScope_by (by decide +kernel)
abbrev s_middle : Stmt := topS 27
theorem sc_middle : FnScope ["row", "place", "number"] ["row"] (C8.fnScope s_middle) := C8.fnScope_by (by decide +kernel)
abbrev s_total : Stmt := topS 28
theorem sc_total : FnScope ["row", "place", "number"] ["row"] (C8.fnScope s_total) := C8.fnScope_by (by decide +kernel)
abbrev s__law_cell : Stmt := topS 30
theorem sc__law_cell : FnScope ["_law_script", "_law_k"] ["_law_script", "_law_k"] (C8.fnScope s__law_cell) := C8.fnScope_by (by decide +kernel)
abbrev s__law_draws : Stmt := topS 31
theorem sc__law_draws : FnScope ["_law_cell_here", "_law_sizes", "_law_draws_here", "_law_rest", "_law_k", "_law_mixed"] ["_law_cell_here", "_law_sizes"] (C8.fnScope s__law_draws) := C8.fnScope_by (by decide +kernel)
abbrev s__law_is_integer : Stmt := topS 32
theorem sc__law_is_integer : FnScope ["_law_actual"] ["_law_actual"] (C8.fnScope s__law_is_integer) := C8.fnScope_by (by decide +kernel)
abbrev s__law_is_place : Stmt := topS 33
theorem sc__law_is_place : FnScope ["_law_actual", "_law_x"] ["_law_actual"] (C8.fnScope s__law_is_place) := C8.fnScope_by (by decide +kernel)
abbrev s__law_is_row : Stmt := topS 34
theorem sc__law_is_row : FnScope ["_law_actual", "_law_k", "_law_entry"] ["_law_actual"] (C8.fnScope s__law_is_row) := C8.fnScope_by (by decide +kernel)
abbrev s__law_same : Stmt := topS 35
theorem sc__law_same : FnScope ["_law_actual", "_law_expected"] ["_law_actual", "_law_expected"] (C8.fnScope s__law_same) := C8.fnScope_by (by decide +kernel)
abbrev s__law_plus : Stmt := topS 36
theorem sc__law_plus : FnScope ["_law_place", "_law_other", "_law_k"] ["_law_place", "_law_other"] (C8.fnScope s__law_plus) := C8.fnScope_by (by decide +kernel)
abbrev s__law_back : Stmt := topS 37
theorem sc__law_back : FnScope ["_law_place", "_law_x"] ["_law_place"] (C8.fnScope s__law_back) := C8.fnScope_by (by decide +kernel)
abbrev s__law_row : Stmt := topS 38
theorem sc__law_row : FnScope ["_law_pairs", "_law_sums_here", "_law_place", "_law_number_here"] ["_law_pairs"] (C8.fnScope s__law_row) := C8.fnScope_by (by decide +kernel)
abbrev s__law_add : Stmt := topS 39
theorem sc__law_add : FnScope ["_law_first", "_law_second"] ["_law_first", "_law_second"] (C8.fnScope s__law_add) := C8.fnScope_by (by decide +kernel)
abbrev s__law_scaled : Stmt := topS 40
theorem sc__law_scaled : FnScope ["_law_row_here", "_law_factor", "_law_entry"] ["_law_row_here", "_law_factor"] (C8.fnScope s__law_scaled) := C8.fnScope_by (by decide +kernel)
abbrev s__law_times : Stmt := topS 41
theorem sc__law_times : FnScope ["_law_first", "_law_second", "_law_pairs", "_law_place", "_law_number_here", "_law_other", "_law_factor"] ["_law_first", "_law_second"] (C8.fnScope s__law_times) := C8.fnScope_by (by decide +kernel)
abbrev s__law_mirror : Stmt := topS 42
theorem sc__law_mirror : FnScope ["_law_row_here", "_law_entry"] ["_law_row_here"] (C8.fnScope s__law_mirror) := C8.fnScope_by (by decide +kernel)
abbrev s__law_moved : Stmt := topS 43
theorem sc__law_moved : FnScope ["_law_row_here", "_law_by_here", "_law_entry"] ["_law_row_here", "_law_by_here"] (C8.fnScope s__law_moved) := C8.fnScope_by (by decide +kernel)
abbrev s__law_at : Stmt := topS 44
theorem sc__law_at : FnScope ["_law_row_here", "_law_place", "_law_other", "_law_number_here"] ["_law_row_here", "_law_place"] (C8.fnScope s__law_at) := C8.fnScope_by (by decide +kernel)
abbrev s__law_by_unit : Stmt := topS 45
theorem sc__law_by_unit : FnScope ["_law_row_here", "_law_sign", "_law_place"] ["_law_row_here", "_law_sign", "_law_place"] (C8.fnScope s__law_by_unit) := C8.fnScope_by (by decide +kernel)
abbrev s__law_zero : Stmt := topS 46
theorem sc__law_zero : FnScope ["_law_count", "_law_k"] ["_law_count"] (C8.fnScope s__law_zero) := C8.fnScope_by (by decide +kernel)
abbrev s__law_places : Stmt := topS 47
theorem sc__law_places : FnScope ["_law_box_here", "_law_places_here", "_law_width", "_law_longer", "_law_place", "_law_k"] ["_law_box_here"] (C8.fnScope s__law_places) := C8.fnScope_by (by decide +kernel)
abbrev s__law_drawn : Stmt := topS 48
theorem sc__law_drawn : FnScope ["_law_cell_here", "_law_box_here", "_law_reach", "_law_moves", "_law_places_here", "_law_draws_here", "_law_by_here", "_law_k"] ["_law_cell_here", "_law_box_here", "_law_reach", "_law_moves"] (C8.fnScope s__law_drawn) := C8.fnScope_by (by decide +kernel)
abbrev s__law_box : Stmt := topS 49
theorem sc__law_box : FnScope ["_law_kind", "_law_wide"] ["_law_kind", "_law_wide"] (C8.fnScope s__law_box) := C8.fnScope_by (by decide +kernel)
abbrev s__law_is_error : Stmt := topS 50
theorem sc__law_is_error : FnScope ["_law_e", "_law_word"] ["_law_e", "_law_word"] (C8.fnScope s__law_is_error) := C8.fnScope_by (by decide +kernel)
abbrev s__law_by : Stmt := topS 51
theorem sc__law_by : FnScope ["_law_cell_here", "_law_size", "_law_draws_here"] ["_law_cell_here", "_law_size"] (C8.fnScope s__law_by) := C8.fnScope_by (by decide +kernel)
abbrev s__law_two_rows : Stmt := topS 52
theorem sc__law_two_rows : FnScope ["_law_script", "_law_draws_here", "_law_by_here", "_law_kind", "_law_mode", "_law_first", "_law_second"] ["_law_script", "_law_draws_here", "_law_by_here"] (C8.fnScope s__law_two_rows) := C8.fnScope_by (by decide +kernel)
abbrev s__law_sums : Stmt := topS 53
theorem sc__law_sums : FnScope ["_law_first", "_law_second", "_law_pairs", "_law_place", "_law_number_here", "_law_other", "_law_factor"] ["_law_first", "_law_second"] (C8.fnScope s__law_sums) := C8.fnScope_by (by decide +kernel)
abbrev s__law_is_mixed : Stmt := topS 54
theorem sc__law_is_mixed : FnScope ["_law_e"] ["_law_e"] (C8.fnScope s__law_is_mixed) := C8.fnScope_by (by decide +kernel)
abbrev s__law_kept : Stmt := topS 55
theorem sc__law_kept : FnScope ["_law_actual", "_law_expected", "_law_handed", "_law_rows"] ["_law_actual", "_law_expected", "_law_handed", "_law_rows"] (C8.fnScope s__law_kept) := C8.fnScope_by (by decide +kernel)
abbrev s__law_number : Stmt := topS 56
theorem sc__law_number : FnScope ["_law_actual", "_law_expected"] ["_law_actual", "_law_expected"] (C8.fnScope s__law_number) := C8.fnScope_by (by decide +kernel)
abbrev s__law_single_asked : Stmt := topS 57
theorem sc__law_single_asked : FnScope ["_law_row_here", "_law_sign", "_law_by_here", "_law_rows", "_law_handed", "_law_table", "_law_squares", "_law_numbers", "_law_centre", "_law_other", "_law_entry"] ["_law_row_here", "_law_sign", "_law_by_here"] (C8.fnScope s__law_single_asked) := C8.fnScope_by (by decide +kernel)
abbrev s__law_two_asked : Stmt := topS 58
theorem sc__law_two_asked : FnScope ["_law_first", "_law_second", "_law_which", "_law_rows", "_law_handed", "_law_mixed", "_law_e", "_law_both", "_law_actual"] ["_law_first", "_law_second", "_law_which"] (C8.fnScope s__law_two_asked) := C8.fnScope_by (by decide +kernel)
abbrev s__law_product_asked : Stmt := topS 59
theorem sc__law_product_asked : FnScope ["_law_first", "_law_second", "_law_expected"] ["_law_first", "_law_second"] (C8.fnScope s__law_product_asked) := C8.fnScope_by (by decide +kernel)
abbrev s_law : Stmt := topS 60
theorem sc_law : FnScope ["_law_script", "_law_draws_here", "_law_by_here", "_law_rows", "_law_turn", "_law_row_here", "_law_which"] ["_law_script"] (C8.fnScope s_law) := C8.fnScope_by (by decide +kernel)
theorem iteD {c A B : Prop} [Decidable c] (h1 : c → A) (h2 : ¬ c → B) : if decide c = true then A else B := by
  by_cases h : c
  · rw [decide_eq_true h]
    exact iteT (h1 h)
  · rw [decide_eq_false h]
    exact iteF (h2 h)
theorem iteND {c A B : Prop} [Decidable c] (h1 : ¬ c → A) (h2 : c → B) : if (!decide c) = true then A else B := by
  by_cases h : c
  · rw [decide_eq_true h]
    exact iteF (h2 h)
  · rw [decide_eq_false h]
    exact iteT (h1 h)
theorem iteB {c : Bool} {A B : Prop} (h1 : c = true → A) (h2 : c = false → B) : if c = true then A else B := by
  cases c with
  | true => exact iteT (h1 rfl)
  | false => exact iteF (h2 rfl)
theorem atI_int {ns : List Int} {k : Int} (h0 : 0 ≤ k) (h1 : k < (ns.length : Int)) : ∃ c, atI (ns.map V.int) k = some (.int c) ∧ ns[k.toNat]? = some c := by
  obtain ⟨j, rfl⟩ := Int.eq_ofNat_of_zero_le h0
  have hj : j < ns.length := by omega
  refine ⟨ns[j], atI_nat ?_, ?_⟩
  · rw [List.getElem?_map, List.getElem?_eq_getElem hj]
    rfl
  · rw [Int.toNat_natCast, List.getElem?_eq_getElem hj]
theorem same_upd {H : Hp} {p : Addr} {o : HO} (h : H p = none) : Same H (upd H p o) := fun b x e => by
  rw [upd_ne (ne_of_none e h)]
  exact e
theorem same_mut {H H' : Hp} {p : Addr} {o : HO} (e : Same H H') (h : H p = none) : Same H (upd H' p o) := fun b x z => by
  rw [upd_ne (ne_of_none z h)]
  exact e b x z
theorem same_t {K : PySem.W.Frag} {H H' : Hp} {a : Addr} {xs : List V} (e : Same H H') (h : SqT K H a xs) : SqT K H' a xs := by
  rcases h with (h | ⟨o, h⟩) | h
  · exact .inl (.inl (e _ _ h))
  · exact .inl (.inr ⟨o, e _ _ h⟩)
  · exact .inr h
/-- the module's names that stay the built-in ones -/
structure Bi (mg : Str → Option Value) : Prop where
  n_len : mg "len" = none
  n_int : mg "int" = none
  n_str : mg "str" = none
  n_bool : mg "bool" = none
  n_list : mg "list" = none
  n_tuple : mg "tuple" = none
  n_range : mg "range" = none
  n_enumerate : mg "enumerate" = none
  n_isinstance : mg "isinstance" = none
  n_sorted : mg "sorted" = none
  n_abs : mg "abs" = none
  n_any : mg "any" = none
  n_sum : mg "sum" = none
  n_min : mg "min" = none
  n_max : mg "max" = none
  n_zip : mg "zip" = none
section
variable {P : Program} {w : World} {K : PySem.W.Frag} {mg : Str → Option Value} {base : Heap}
/-! ### a cell of the script -/
def spCell (K : PySem.W.Frag) : Sp := fun vs H Q _ => ∃ (a : Addr) (ns : List Int) (k : Int), vs = [.ref a, .int k] ∧ SqL K H a (ns.map V.int) ∧ 0 ≤ k ∧ ∀ c : Int, Q (.int c) H
theorem c__law_cell {f : Addr} {fd : FuncData} (D : C8.Def K mg "_law_cell" s__law_cell f fd) (b : Binds K fd ["_law_script", "_law_k"] []) (T : Bi mg) : C8.Cal P w K mg base 1 "_law_cell" (spCell K) [] := by
  refine C8.cal0 D b .nil sc__law_cell (fun vs H Q E h => ?_) (fun cdv A outer s H vs Q E hr h => ?_)
  · obtain ⟨a, ns, k, rfl, _⟩ := h
    rfl
  · obtain ⟨a, ns, k, rfl, hS, hk, q⟩ := h
    refine ⟨_, (pss_cons (ps_if (pt_cmpR op_lt (pv 1) (pe_callB call_len_seq (by rfl) T.n_len OT.b_len (pa_cons (pv 0) pa_nil)) (nomark _)) (pss_one (ps_ret (pe_ix ix_list (pv 0) (pv 1) (fun _ _ => rfl)))) pss_nil)
  (pss_cons (ps_if (pt_cmpR op_eq (pe_callB call_len_seq (by rfl) T.n_len OT.b_len (pa_cons (pv 0) pa_nil)) pe_int (nomark _)) (pss_one (ps_ret (pe_op op_add (pe_op op_mul pe_int (pv 1)) pe_int))) pss_nil)
  (pss_one (ps_ret (pe_op op_mod (pe_callTy call_int1 (by rfl) T.n_int OT.b_int (pa_cons (pe_op op_add (pe_op op_add (pe_op op_mul (pe_ix ix_list (pv 0) (pe_op op_mod (pe_callTy call_int1 (by rfl) T.n_int OT.b_int (pa_cons (pv 1) pa_nil)) (pe_callB call_len_seq (by rfl) T.n_len OT.b_len (pa_cons (pv 0) pa_nil))) (fun _ _ => rfl)) pe_int) (pe_op op_mul pe_int (pv 1))) pe_int) pa_nil)) pe_int))))), ?_⟩
    refine ⟨_, rfl, _, rfl, a, _, rfl, .inl hS, _, _, rfl, rfl, _, rfl, ?_⟩
    refine iteD (fun h1 => ?_) (fun h1 => ?_)
    · rw [List.length_map] at h1
      obtain ⟨c, hc, _⟩ := atI_int hk h1
      exact ⟨_, rfl, _, rfl, a, _, _, _, rfl, rfl, hS, hc, q c⟩
    · refine ⟨_, rfl, a, _, rfl, .inl hS, rfl, _, rfl, ?_⟩
      refine iteD (fun h2 => ?_) (fun h2 => ?_)
      · exact ⟨_, rfl, _, _, rfl, rfl, .inl ⟨by decide, by decide⟩, _, _, rfl, rfl, q _⟩
      · have hp : 0 < ns.length := by
          have h3 : ¬ (V.int ((ns.map V.int).length : Int) = V.int 0) := h2
          rw [List.length_map] at h3
          cases ns with
          | nil => exact absurd rfl h3
          | cons x r => exact Nat.succ_pos _
        have hm : 0 ≤ k % (ns.length : Int) := Int.emod_nonneg _ (by omega)
        have hm2 : k % (ns.length : Int) < ns.length := Int.emod_lt_of_pos _ (by omega)
        obtain ⟨c, hc, _⟩ := atI_int hm hm2
        refine ⟨_, rfl, _, rfl, .inl ⟨k, rfl, _, rfl, a, _, rfl, .inl hS, k, _, rfl, rfl, ?_, a, _, _, _, rfl, rfl, hS, ?_, c, _, rfl, rfl, .inr ⟨by decide, by decide⟩, _, rfl, _, _, rfl, rfl, .inl ⟨by decide, by decide⟩, _, _, rfl, rfl, _, _, rfl, rfl, .inl ⟨_, rfl, _, _, rfl, rfl, by show (0 : Int) < 2147483647; decide, q _⟩⟩⟩
        · rw [List.length_map]
          show (0 : Int) < (ns.length : Int)
          omega
        · rw [List.length_map]
          exact hc
/-! ### draws -/
theorem cmul_m1 (x y : Int) : CMul (x % 2147483647) y := by
  refine .inl ?_
  have h1 := Int.emod_nonneg x (show (2147483647 : Int) ≠ 0 by decide)
  have h2 := Int.emod_lt_of_pos x (show (0 : Int) < 2147483647 by decide)
  have h3 : (2 : Int) ^ 64 = 18446744073709551616 := by decide
  omega
theorem cmul_m2 (x y : Int) : CMul (x % 2147483629) y := by
  refine .inl ?_
  have h1 := Int.emod_nonneg x (show (2147483629 : Int) ≠ 0 by decide)
  have h2 := Int.emod_lt_of_pos x (show (0 : Int) < 2147483629 by decide)
  have h3 : (2 : Int) ^ 64 = 18446744073709551616 := by decide
  omega

theorem small64 {z : Int} (h1 : 0 < z) (h2 : z < 1000000000000000) : z.natAbs < 2 ^ 64 := by
  have : (2 : Nat) ^ 64 = 18446744073709551616 := by decide
  omega
def InR (ds zs : List Int) : Prop := ds.length = zs.length ∧ ∀ (i : Nat) (d z : Int), ds[i]? = some d → zs[i]? = some z → 0 ≤ d ∧ d < z
def spDraws (K : PySem.W.Frag) : Sp := fun vs H Q _ => ∃ (a : Addr) (zs : List Int) (c : Int), vs = [.int c, .ref a] ∧ SqL K H a (zs.map V.int) ∧ zs.length ≤ 1000 ∧ (∀ z ∈ zs, 0 < z ∧ z < 1000000000000000) ∧
  ∀ (ds : List Int) H' p, InR ds zs → Same H H' → H p = none → H' p = some (.lst (ds.map V.int)) → Q (.ref p) H'
theorem c__law_draws {f : Addr} {fd : FuncData} (D : C8.Def K mg "_law_draws" s__law_draws f fd) (b : Binds K fd ["_law_cell_here", "_law_sizes"] []) (T : Bi mg) : C8.Cal P w K mg base 1 "_law_draws" (spDraws K) [] := by
  refine C8.cal0 D b .nil sc__law_draws (fun vs H Q E h => ?_) (fun cdv A outer s H vs Q E hr h => ?_)
  · obtain ⟨a, zs, c, rfl, _⟩ := h
    rfl
  · obtain ⟨a, zs, c, rfl, hS, hl, hz, q⟩ := h
    refine ⟨_, (pss_cons (ps_set (i := 2) sc__law_draws.nd rfl (Or.inl rfl) (pe_lst pa_nil))
  (pss_cons (ps_set (i := 3) sc__law_draws.nd rfl (Or.inl rfl) (pe_op op_sub (pv 0) (pe_op op_pow pe_int pe_int)))
  (pss_cons (ps_for PassesOwn.never rfl (pi_range1 rfl T.n_range (pa_cons (pe_callB call_len_seq (by rfl) T.n_len OT.b_len (pa_cons (pv 1) pa_nil)) pa_nil)) (pg_name (i := 4) sc__law_draws.nd rfl (Or.inl rfl)) (pss_one (ps_if (pt_cmpR op_ge (pv 0) (pe_op op_pow pe_int pe_int) (nomark _)) (pss_cons (ps_expr (pe_bm PySem.F.plainAttrs_list PySem.F.slot_list_append PySem.F.type_list_append mt_append (pv 2) (pa_cons (pe_op op_mod (pe_callTy call_int1 (by rfl) T.n_int OT.b_int (pa_cons (pv 3) pa_nil)) (pe_ix ix_list (pv 1) (pv 4) (fun _ _ => rfl))) pa_nil)))
  (pss_one (ps_set (i := 3) sc__law_draws.nd rfl (Or.inl rfl) (pe_op op_fdivW (pv 3) (pe_ix ix_list (pv 1) (pv 4) (fun _ _ => rfl)))))) (pss_cons (ps_set (i := 5) sc__law_draws.nd rfl (Or.inl rfl) (pe_op op_mod (pe_callTy call_int1 (by rfl) T.n_int OT.b_int (pa_cons (pe_op op_add (pe_op op_add (pv 0) (pe_op op_mul pe_int (pv 4))) pe_int) pa_nil)) pe_int))
  (pss_cons (ps_set (i := 5) sc__law_draws.nd rfl (Or.inl rfl) (pe_op op_mod (pe_callTy call_int1 (by rfl) T.n_int OT.b_int (pa_cons (pe_op op_mul (pv 5) (pe_op op_add (pv 5) pe_int)) pa_nil)) pe_int))
  (pss_cons (ps_set (i := 5) sc__law_draws.nd rfl (Or.inl rfl) (pe_op op_mod (pe_callTy call_int1 (by rfl) T.n_int OT.b_int (pa_cons (pe_op op_add (pe_op op_mul (pv 5) (pe_op op_add (pv 5) pe_int)) (pe_op op_mul pe_int (pv 4))) pa_nil)) pe_int))
  (pss_one (ps_expr (pe_bm PySem.F.plainAttrs_list PySem.F.slot_list_append PySem.F.type_list_append mt_append (pv 2) (pa_cons (pe_op op_mod (pe_callTy call_int1 (by rfl) T.n_int OT.b_int (pa_cons (pe_op op_fdiv (pv 5) pe_int) pa_nil)) (pe_ix ix_list (pv 1) (pv 4) (fun _ _ => rfl))) pa_nil))))))))))
  (pss_one (ps_ret (pv 2)))))), ?_⟩
    refine ⟨Nat.zero_le _, fun p np => ?_⟩
    have s1 : Same H (upd H p (.lst [])) := same_upd np
    refine ⟨_, rfl, 10, 18, rfl, rfl, ?cp, _, _, rfl, rfl, ?_⟩
    case cp => exact ⟨by decide, by decide⟩
    refine ⟨_, rfl, a, _, rfl, .inl (s1.seq hS), _, rfl, ?_, ?_, ?_⟩
    · rw [List.length_map]
      omega
    · rw [List.length_map]
      have : (2 : Int) ^ 62 = 4611686018427387904 := by decide
      omega
    rw [List.length_map, Int.toNat_natCast]
    refine for_range (fun i σ H2 => ∃ (ds : List Int) (r : Int) (y4 y5 : Option V), σ = [some (.int c), some (.ref a), some (.ref p), some (.int r), y4, y5] ∧ Same H H2 ∧ H2 p = some (.lst (ds.map V.int)) ∧ InR ds (zs.take i)) ?_ ?_ ?_
    · exact ⟨[], _, none, none, rfl, s1, upd_same, rfl, fun i d z h => by simp at h⟩
    · rintro i σ H2 hi ⟨ds, r, y4, y5, rfl, sm, hp, hr2⟩
      have hzi : zs[i]? = some zs[i] := List.getElem?_eq_getElem hi
      obtain ⟨z1, z2⟩ := hz zs[i] (List.getElem_mem hi)
      have hix : atI (zs.map V.int) ((0 : Int) + (i : Int)) = some (.int zs[i]) := by
        rw [Int.zero_add]
        exact atI_nat (by rw [List.getElem?_map, hzi]; rfl)
      have hS2 := sm.seq hS
      have hlen : ds.length = i := by
        rw [hr2.1, List.length_take]
        omega
      have hlt : (ds.map V.int).length < sizeLine := by
        rw [List.length_map]
        exact small1000 (by omega)
      have more : ∀ x : Int, InR (ds ++ [x % zs[i]]) (zs.take (i + 1)) := fun x => by
        refine ⟨?_, fun j d z h1 h2 => ?_⟩
        · rw [List.length_append, List.length_take, hlen]
          simp
          omega
        · by_cases hj : j < i
          · rw [List.getElem?_append_left (by omega)] at h1
            rw [List.getElem?_take_of_lt (by omega)] at h2
            exact hr2.2 j d z h1 (by rw [List.getElem?_take_of_lt hj]; exact h2)
          · by_cases ej : j = i
            · subst ej
              rw [List.getElem?_append_right (by omega), hlen, Nat.sub_self] at h1
              rw [List.getElem?_take_of_lt (by omega), hzi] at h2
              have e1 : x % zs[j] = d := Option.some.inj h1
              have e2 : zs[j] = z := Option.some.inj h2
              rw [← e1, ← e2]
              exact ⟨Int.emod_nonneg _ (by omega), Int.emod_lt_of_pos _ z1⟩
            · rw [List.getElem?_eq_none (by rw [List.length_take]; omega)] at h2
              cases h2
      have fin : ∀ (x r' : Int) (y4 y5 : Option V), ∃ (ds2 : List Int) (r2 : Int) (z4 z5 : Option V), [some (.int c), some (.ref a), some (.ref p), some (.int r'), y4, y5] = [some (.int c), some (.ref a), some (.ref p), some (.int r2), z4, z5] ∧
          Same H (upd H2 p (.lst (ds.map V.int ++ [V.int (x % zs[i])]))) ∧ (upd H2 p (.lst (ds.map V.int ++ [V.int (x % zs[i])]))) p = some (.lst (ds2.map V.int)) ∧ InR ds2 (zs.take (i + 1)) := fun x r' y4 y5 => by
        refine ⟨ds ++ [x % zs[i]], r', y4, y5, rfl, same_mut sm np, ?_, more x⟩
        rw [upd_same, List.map_append]
        rfl
      refine ⟨_, rfl, 10, 18, rfl, rfl, ⟨by decide, by decide⟩, _, _, rfl, rfl, _, rfl, ?_⟩
      refine iteD (fun _ => ?_) (fun _ => ?_)
      · refine ⟨_, rfl, .inl ⟨rfl, _, .inl (.inl hp)⟩, _, rfl, .inl ⟨r, rfl, _, rfl, _, rfl, a, _, _, _, rfl, rfl, hS2, hix, _, _, rfl, rfl, z1, p, _, _, rfl, rfl, hp, hlt, ?_⟩⟩
        have sm3 : Same H (upd H2 p (.lst (ds.map V.int ++ [V.int (r % zs[i])]))) := same_mut sm np
        refine ⟨_, rfl, _, rfl, _, rfl, a, _, _, _, rfl, rfl, sm3.seq hS, hix, _, _, rfl, rfl, wide_div z1 (b := 64) (small64 z1 z2) (by decide) (by decide), ?_⟩
        exact fin _ _ _ _
      · refine ⟨_, rfl, _, rfl, _, _, rfl, rfl, .inl ⟨by decide, by decide⟩, _, _, rfl, rfl, _, _, rfl, rfl, .inl ⟨_, rfl, _, _, rfl, rfl, by show (0 : Int) < 2147483647; decide, ?_⟩⟩
        refine ⟨_, rfl, _, rfl, _, _, rfl, rfl, _, _, rfl, rfl, cmul_m1 _ _, .inl ⟨_, rfl, _, _, rfl, rfl, by show (0 : Int) < 2147483629; decide, ?_⟩⟩
        refine ⟨_, rfl, _, rfl, _, _, rfl, rfl, _, _, rfl, rfl, cmul_m2 _ _, _, rfl, _, _, rfl, rfl, .inl ⟨by decide, by decide⟩, _, _, rfl, rfl, .inl ⟨_, rfl, _, _, rfl, rfl, by show (0 : Int) < 2147483647; decide, ?_⟩⟩
        refine ⟨_, rfl, .inl ⟨rfl, _, .inl (.inl hp)⟩, _, rfl, _, _, rfl, rfl, ⟨by decide, by decide⟩, .inl ⟨_, rfl, _, rfl, _, rfl, a, _, _, _, rfl, rfl, hS2, hix, _, _, rfl, rfl, z1, p, _, _, rfl, rfl, hp, hlt, ?_⟩⟩
        exact fin _ _ _ _
    · rintro σ H2 ⟨ds, r, y4, y5, rfl, sm, hp, hr2⟩
      rw [List.take_length] at hr2
      exact ⟨_, rfl, q ds H2 p hr2 sm np hp⟩
end
end OT

set_option Elab.async false
set_option linter.all false
set_option maxRecDepth 100000
set_option maxHeartbeats 2000000
namespace OT
open PySem PySem.Spec PyProof.Rows L2
theorem take_map_succ {α β : Type} {l : List α} {i : Nat} (f : α → β) (h : i < l.length) : (l.take (i + 1)).map f = (l.take i).map f ++ [f l[i]] := by
  rw [List.take_add_one, List.getElem?_eq_getElem h, List.map_append]
  rfl
theorem getm {α β : Type} {l : List α} {i : Nat} {f : α → β} {x : β} (h : (l.map f)[i]? = some x) : ∃ hi : i < l.length, x = f l[i] := by
  rw [List.getElem?_map] at h
  cases e : l[i]? with
  | none =>
    rw [e] at h
    cases h
  | some z =>
    rw [e] at h
    obtain ⟨hi, hz⟩ := List.getElem?_eq_some_iff.mp e
    exact ⟨hi, by rw [hz]; exact (Option.some.inj h).symm⟩
theorem tYes_of {A B : Hp → Prop} {σ : L2.St} {H : Hp} (h : A H) : tYes σ H (fun b H3 => if b = true then A H3 else B H3) := by
  show (if true = true then A H else B H)
  rw [if_pos rfl]
  exact h
theorem drop_cons {α : Type} {l : List α} {i : Nat} (h : i < l.length) : l.drop i = l[i] :: l.drop (i + 1) := List.drop_eq_getElem_cons h
theorem kb_ii : kitB "int" "int" = some true := by decide +kernel
theorem kb_ib : kitB "int" "bool" = some false := by decide +kernel
theorem kb_tt : kitB "tuple" "tuple" = some true := by decide +kernel
theorem kb_ss : kitB "str" "str" = some true := by decide +kernel
theorem kb_ll : kitB "list" "list" = some true := by decide +kernel
theorem depth_ints : ∀ ns : List Int, PyData.depthAll (ns.map PyData.int) = 0
  | [] => by simp only [List.map_nil, PyData.depthAll]
  | n :: r => by simp only [List.map_cons, PyData.depthAll, PyData.depth, depth_ints r, Nat.max_self]
theorem depth_row : ∀ es : List Ent, PyData.depthAll (es.map dEnt) ≤ 3
  | [] => by simp only [List.map_nil, PyData.depthAll]; decide
  | e :: r => by
    have ih := depth_row r
    simp only [List.map_cons, PyData.depthAll, dEnt, dPl, PyData.depth, depth_ints] at ih ⊢
    omega
theorem shaped_row (es : List Ent) : SeqAt.shaped (dRow es) = true := by
  unfold SeqAt.shaped
  have h1 : (dRow es).canLay0 = true := lay_row es
  rw [h1, Bool.true_and]
  refine decide_eq_true ?_
  have := depth_row es
  simp only [dRow, PyData.depth]
  omega
section
variable {P : Program} {w : World} {K : PySem.W.Frag} {mg : Str → Option Value} {base : Heap}
def spIsInt : Sp := fun vs H Q _ => ∃ i : Int, vs = [.int i] ∧ Q (.bl true) H
theorem c__law_is_integer {f : Addr} {fd : FuncData} (D : C8.Def K mg "_law_is_integer" s__law_is_integer f fd) (b : Binds K fd ["_law_actual"] []) (T : Bi mg) : C8.Cal P w K mg base 1 "_law_is_integer" spIsInt [] := by
  refine C8.cal0 D b .nil sc__law_is_integer (fun vs H Q E h => ?_) (fun cdv A outer s H vs Q E hr h => ?_)
  · obtain ⟨i, rfl, _⟩ := h
    rfl
  · obtain ⟨i, rfl, q⟩ := h
    refine ⟨_, (pss_one (ps_ret (pe_and (pe_callB call_isi (by rfl) T.n_isinstance OT.b_isinstance (pa_cons (pv 0) (pa_cons (pe_bltn (v := .ty "int") (by rfl) T.n_int OT.b_int rfl) pa_nil))) (pe_one (pe_not (pe_callB call_isi (by rfl) T.n_isinstance OT.b_isinstance (pa_cons (pv 0) (pa_cons (pe_bltn (v := .ty "bool") (by rfl) T.n_bool OT.b_bool rfl) pa_nil)))))))), ?_⟩
    refine ⟨_, rfl, _, _, _, _, _, rfl, .ty _, .base (.int i), kit_ty kb_ii, _, rfl, ?_⟩
    refine iteT ?_
    exact ⟨_, rfl, _, _, _, _, _, rfl, .ty _, .base (.int i), kit_ty kb_ib, _, rfl, q⟩
def spIsPlace (K : PySem.W.Frag) : Sp := fun vs H Q _ => ∃ (a : Addr) (ns : List Int), vs = [.ref a] ∧ H a = some (.tup (ns.map V.int)) ∧ 1 ≤ ns.length ∧ ns.length ≤ 3 ∧ Q (.bl true) H
theorem c__law_is_place {f : Addr} {fd : FuncData} (D : C8.Def K mg "_law_is_place" s__law_is_place f fd) (b : Binds K fd ["_law_actual"] []) (T : Bi mg) (c__law_is_integer : C8.Cal P w K mg base 1 "_law_is_integer" spIsInt []) : C8.Cal P w K mg base 2 "_law_is_place" (spIsPlace K) [] := by
  refine C8.cal0 D b .nil sc__law_is_place (fun vs H Q E h => ?_) (fun cdv A outer s H vs Q E hr h => ?_)
  · obtain ⟨a, ns, rfl, _⟩ := h
    rfl
  · obtain ⟨a, ns, rfl, hS, h1, h3, q⟩ := h
    have hT : SqT K H a (ns.map V.int) := .inl (.inl hS)
    refine ⟨_, (pss_cons (ps_if (PW.pt (pw_or (pt_not (pt_val (pe_callB call_isi (by rfl) T.n_isinstance OT.b_isinstance (pa_cons (pv 0) (pa_cons (pe_bltn (v := .ty "tuple") (by rfl) T.n_tuple OT.b_tuple rfl) pa_nil))))) (pw_or (pt_cmpR op_lt (pe_callB call_len_seq (by rfl) T.n_len OT.b_len (pa_cons (pv 0) pa_nil)) pe_int (nomark _)) (pw_or1 (pt_cmpR op_gt (pe_callB call_len_seq (by rfl) T.n_len OT.b_len (pa_cons (pv 0) pa_nil)) pe_int (nomark _)))))) (pss_one (ps_ret pe_bl)) pss_nil)
  (pss_cons (ps_for PassesOwn.never rfl (pi_tup (pv 0)) (pg_name (i := 1) sc__law_is_place.nd rfl (Or.inl rfl)) (pss_one (ps_if (pt_not (pt_val (C8.pe_c c__law_is_integer hr (by decide) (by rfl) (pa_cons (pv 1) pa_nil)))) (pss_one (ps_ret pe_bl)) pss_nil)))
  (pss_one (ps_ret pe_bl)))), ?_⟩
    refine ⟨_, rfl, _, _, _, _, _, rfl, .ty _, .base (.tup hS), kit_ty kb_tt, _, rfl, ?_⟩
    refine iteF ?_
    refine ⟨_, rfl, a, _, rfl, .inr hT, _, _, rfl, rfl, _, rfl, iteD (fun z => ?_) (fun _ => ?_)⟩
    · rw [List.length_map] at z
      omega
    refine ⟨_, rfl, a, _, rfl, .inr hT, _, _, rfl, rfl, _, rfl, iteD (fun z => ?_) (fun _ => ?_)⟩
    · rw [List.length_map] at z
      omega
    refine ⟨_, rfl, a, rfl, ⟨_, hT⟩, ?_⟩
    refine for_tup (K := K) (xs := ns.map V.int) (fun i σ H2 => ∃ y, σ = [some (.ref a), y] ∧ H2 = H) ⟨none, rfl, rfl⟩ (fun i σ H2 _ ⟨_, _, e⟩ => by rw [e]; exact hT) ?_ ?_
    · rintro i x σ H2 hx ⟨y, rfl, rfl⟩
      obtain ⟨hi, rfl⟩ := getm hx
      exact ⟨_, rfl, _, rfl, _, rfl, iteF ⟨_, rfl, rfl⟩⟩
    · rintro σ H2 ⟨y, rfl, rfl⟩
      exact q
end
end OT

set_option Elab.async false
set_option linter.all false
set_option maxRecDepth 100000
set_option maxHeartbeats 2000000
namespace OT
open PySem PySem.Spec PyProof.Rows L2
theorem kV_ints (k : Pl) : (k.map (Sum.inl : Int → Key)).map kV = k.map V.int := by
  rw [List.map_map]
  rfl
theorem dgetT {H : Hp} {d b : Addr} {kvs : List (List Key × V)} {k : Pl} {o : Option V} (e : H d = some (.dT kvs)) (eb : H b = some (.tup (k.map V.int))) (h : valV kvs (k.map Sum.inl) = o) : DGet H d (.ref b) o := by
  rw [← h]
  exact DGet.t e (by rw [kV_ints]; exact eb)
theorem ne_lst {H : Hp} {a D : Addr} {xs l : List V} (h : H a = some (.tup xs)) (hD : H D = some (.lst l)) : a ≠ D := fun e => by
  rw [e, hD] at h
  cases h
theorem EntAt.updL {H : Hp} {D : Addr} {l l' : List V} {v : V} {e : Ent} (hD : H D = some (.lst l)) (h : EntAt H v e) : EntAt (upd H D (.lst l')) v e := by
  obtain ⟨t, p, rfl, h1, h2⟩ := h
  exact ⟨t, p, rfl, by rw [upd_ne (ne_lst h1 hD)]; exact h1, by rw [upd_ne (ne_lst h2 hD)]; exact h2⟩
theorem Ents.updL {H : Hp} {D : Addr} {l l' : List V} {vs : List V} {es : List Ent} (hD : H D = some (.lst l)) (h : Ents H vs es) : Ents (upd H D (.lst l')) vs es := by
  induction h with
  | nil => exact .nil
  | cons h1 _ ih => exact .cons (h1.updL hD) ih
theorem mkR_len (f : Pl → Int) : ∀ ks : List Pl, (mkR f ks).length ≤ ks.length
  | [] => Nat.le_refl _
  | k :: r => by
    have ih := mkR_len f r
    show (if f k = 0 then mkR f r else (k, f k) :: mkR f r).length ≤ r.length + 1
    by_cases h : f k = 0
    · rw [if_pos h]
      omega
    · rw [if_neg h, List.length_cons]
      omega
theorem none_of_upd {H : Hp} {p D : Addr} {o : HO} (h : upd H p o D = none) : H D = none ∧ p ≠ D := by
  have ne : p ≠ D := ne_of_none upd_same h
  exact ⟨by rw [upd_ne ne.symm] at h; exact h, ne⟩
section
variable {P : Program} {w : World} {K : PySem.W.Frag} {mg : Str → Option Value} {base : Heap}
def wantRow (H : Hp) (es : List Ent) (Q : VK) : Prop := ∀ (r : List Ent) (p : Addr) (ws : List V) (H' : Hp), RowIs r es → Same H H' → H p = none → H' p = some (.lst ws) → Ents H' ws r → Q (.ref p) H'
def spRowOf (K : PySem.W.Frag) : Sp := fun vs H Q _ => ∃ (d : Addr) (kvs : List (List Key × V)) (ks : List Pl) (es : List Ent), vs = [.ref d] ∧ H d = some (.dT kvs) ∧ Sums kvs ks (numAt es) ∧ (∀ k ∈ ks, k ≠ []) ∧ ks.length < sizeLine ∧ wantRow H es Q
end
end OT

set_option Elab.async false
set_option linter.all false
set_option maxRecDepth 100000
set_option maxHeartbeats 2000000
namespace OT
open PySem PySem.Spec PyProof.Rows L2
section
variable {P : Program} {w : World} {K : PySem.W.Frag} {mg : Str → Option Value} {base : Heap}
theorem put_keys_ne {ks : List Pl} {e : Pl} (h : ∀ k ∈ ks, k ≠ []) (he : e ≠ []) : ∀ k ∈ (if e ∈ ks then ks else ks ++ [e]), k ≠ [] := by
  by_cases m : e ∈ ks
  · rw [if_pos m]
    exact h
  · rw [if_neg m]
    intro k hk
    rcases List.mem_append.mp hk with hk | hk
    · exact h k hk
    · rw [List.mem_singleton.mp hk]
      exact he
theorem put_keys_len {ks : List Pl} {e : Pl} {i : Nat} (h : ks.length ≤ i) : (if e ∈ ks then ks else ks ++ [e]).length ≤ i + 1 := by
  by_cases m : e ∈ ks
  · rw [if_pos m]
    omega
  · rw [if_neg m, List.length_append, List.length_singleton]
    omega
theorem Ents.updD {H : Hp} {D : Addr} {l l' : List (List Key × V)} {vs : List V} {es : List Ent} (hD : H D = some (.dT l)) (h : Ents H vs es) : Ents (upd H D (.dT l')) vs es := by
  have ne : ∀ {a : Addr} {xs : List V}, H a = some (.tup xs) → a ≠ D := fun {a xs} h e => by
    rw [e, hD] at h
    cases h
  induction h with
  | nil => exact .nil
  | cons h1 _ ih =>
    obtain ⟨t, p, rfl, h1, h2⟩ := h1
    exact .cons ⟨t, p, rfl, by rw [upd_ne (ne h1)]; exact h1, by rw [upd_ne (ne h2)]; exact h2⟩ ih
theorem seq_upd {H : Hp} {D a : Addr} {o : HO} {xs : List V} (h : SqL K H a xs) (ne : a ≠ D) : SqL K (upd H D o) a xs := by
  rcases h with (h | ⟨o', h⟩) | h
  · exact .inl (.inl (by rw [upd_ne ne]; exact h))
  · exact .inl (.inr ⟨o', by rw [upd_ne ne]; exact h⟩)
  · exact .inr h
/-- what a list of entries asks -/
structure InEnts (K : PySem.W.Frag) (H : Hp) (a : Addr) (vs : List V) (es : List Ent) : Prop where
  l : SqL K H a vs
  e : Ents H vs es
  z : es.length < sizeLine
theorem InEnts.mono {H H' : Hp} {a : Addr} {vs : List V} {es : List Ent} (s : Same H H') (h : InEnts K H a vs es) : InEnts K H' a vs es := ⟨s.seq h.l, h.e.mono s, h.z⟩
def spGather (K : PySem.W.Frag) : Sp := fun vs H Q _ => ∃ (a : Addr) (xs : List V) (es : List Ent), vs = [.ref a] ∧ InEnts K H a xs es ∧ (∀ e ∈ es, e.1 ≠ []) ∧ wantRow H es Q
theorem c__law_row {f : Addr} {fd : FuncData} (D : C8.Def K mg "_law_row" s__law_row f fd) (b : Binds K fd ["_law_pairs"] []) (T : Bi mg) : C8.Cal P w K mg base 1 "_law_row" (spGather K) [] := by
  refine C8.cal0 D b .nil sc__law_row (fun vs H Q E h => ?_) (fun cdv A outer s H vs Q E hr h => ?_)
  · obtain ⟨a, xs, es, rfl, _⟩ := h
    rfl
  · obtain ⟨a, xs, es, rfl, hE, hne, q⟩ := h
    refine ⟨_, (pss_cons (ps_set (i := 1) sc__law_row.nd rfl (Or.inr rfl) pe_dnewT)
  (pss_cons (ps_for PassesOwn.never rfl (pi_list (pv 0)) (pg_tup rfl (pgs_cons (pg_name (i := 2) sc__law_row.nd rfl (Or.inl rfl)) (pgs_cons (pg_name (i := 3) sc__law_row.nd rfl (Or.inl rfl)) pgs_nil))) (pss_one (ps_dput (hu_of hr) (pv 1) (pv 2) (pe_op op_add (pe_dget2 (hu_of hr) (pv 1) (pv 2) pe_int ⟨rfl, rfl, rfl, rfl⟩) (pv 3)) rfl)))
  (pss_one (ps_ret (pe_lc (own := [("_law_place", 2)]) (g := (gName 2)) rfl sc__law_row.nd (pi_list (pe_callB (cr_sortedDT rfl) (by rfl) T.n_sorted OT.b_sorted (pa_cons (pv 1) pa_nil))) (blkOk_by (N := ["_law_pairs", "_law_sums_here", "_law_place", "_law_number_here"]) (sc := C8.fnScope s__law_row) (by decide +kernel)) (fun _ _ _ _ _ => (pg_name (i := 2) sc__law_row.nd rfl (Or.inl rfl))) (fun _ _ _ _ _ => (pts_one (pt_cmpR op_ne (pe_dget (hu_of hr) (pv 1) (pv 2) (fun _ _ => rfl)) pe_int (nomark _)))) (fun _ _ _ _ _ => (pe_tup (pa_cons (pv 2) (pa_cons (pe_dget (hu_of hr) (pv 1) (pv 2) (fun _ _ => rfl)) pa_nil))))))))), ?_⟩
    refine fun d nd => ?_
    have s1 : Same H (upd H d (.dT [])) := same_upd nd
    refine ⟨_, rfl, a, rfl, ⟨xs, s1.seq hE.l⟩, ?_⟩
    refine for_list (K := K) (xs := xs) (fun i σ H2 => ∃ (kvs : List (List Key × V)) (ks : List Pl) (y2 y3 : Option V), σ = [some (.ref a), some (.ref d), y2, y3] ∧ Same H H2 ∧ H2 d = some (.dT kvs) ∧ Sums kvs ks (numAt (es.take i)) ∧ (∀ k ∈ ks, k ≠ []) ∧ ks.length ≤ i) ?_ ?_ ?_ ?_
    · exact ⟨[], [], none, none, rfl, s1, upd_same, Sums.nil, fun k hk => (by cases hk), Nat.le_refl _⟩
    · rintro i σ H2 _ ⟨_, _, _, _, _, sm, _⟩
      exact sm.seq hE.l
    · rintro i x σ H2 hx ⟨kvs, ks, y2, y3, rfl, sm, hd, hs, hk, hl⟩
      obtain ⟨e, he, hv⟩ := (hE.e.mono sm).get hx
      obtain ⟨t, p, rfl, ht, hp⟩ := hv
      have hi := (List.getElem?_eq_some_iff.mp he).1
      have hm : e ∈ es := List.mem_of_getElem? he
      have hz := hE.z
      refine ⟨t, _, rfl, .inl (.inl ht), rfl, _, _, rfl, _, _, rfl, rfl, ?_⟩
      refine ⟨_, rfl, d, rfl, .inr ⟨kvs, .inl hd⟩, _, rfl, _, dgetT hd hp rfl, _, rfl, numAt (es.take i) e.1, e.2, hs.getD _, rfl, _, rfl, _, rfl, d, _, rfl, DPut.t hd (k := e.1.map Sum.inl) (by rw [kV_ints]; exact hp) ?_, ?_⟩
      · rw [hs.len]
        omega
      · exact ⟨_, _, _, _, rfl, same_mut sm nd, upd_same, hs.next he, put_keys_ne hk (hne e hm), put_keys_len hl⟩
    · rintro σ H2 ⟨kvs, ks, y2, y3, rfl, sm, hd, hs, hk, hl⟩
      have hz := hE.z
      have hlen := hE.e.len
      rw [hlen, List.take_length] at hs
      have hkz : ks.length < sizeLine := by omega
      refine ⟨_, rfl, d, kvs, ks, rfl, .inl hd, hs.keys, fun _ => hk, fun out p perm pw nod held np => ?_⟩
      refine ⟨p, rfl, ⟨_, .inl (.inl upd_same)⟩, fun D nD => ?_⟩
      have hpD : p ≠ D := ne_of_none upd_same nD
      obtain ⟨hDn, _⟩ := none_of_upd nD
      have hkd : ∀ x ∈ out, x.2 ∈ ks := fun x hx => perm.mem_iff.mp (List.mem_map_of_mem hx)
      refine lc_list (K := K) (a := p) (xs := out.map fun x => V.ref x.1) (fun i H3 => Same H2 H3 ∧ H3 p = some (.lst (out.map fun x => V.ref x.1)) ∧ ∃ ws, H3 D = some (.lst ws) ∧ Ents H3 ws (mkR (numAt es) ((out.take i).map (·.2)))) ?_ ?_ ?_ ?_
      · refine ⟨(same_upd np).trans (same_upd nD), ?_, [], upd_same, .nil⟩
        rw [upd_ne hpD, upd_same]
      · rintro i H3 _ ⟨_, hp, _⟩
        exact .inl (.inl hp)
      · rintro i x H3 hx ⟨sm3, hp, ws, hD, hE3⟩
        obtain ⟨hi, rfl⟩ := getm hx
        have hm := List.getElem_mem hi
        have hk3 := sm3 _ _ (held _ hm)
        have hv := hs.get (hkd _ hm)
        have hd2 := sm3 _ _ hd
        refine ⟨rfl, _, rfl, _, rfl, d, _, rfl, dgetT hd2 hk3 hv, ?_⟩
        refine ⟨rfl, _, rfl, ?_⟩
        have htk : (out.take (i + 1)).map (·.2) = (out.take i).map (·.2) ++ [out[i].2] := take_map_succ (·.2) hi
        rw [htk, mkR_snoc]
        refine iteND (fun hn => ?_) (fun h0 => ?_)
        · have hn0 : numAt es out[i].2 ≠ 0 := fun z => hn (by rw [z])
          rw [if_neg hn0]
          refine ⟨_, rfl, _, rfl, _, rfl, d, _, rfl, dgetT hd2 hk3 hv, (by show 2 ≤ sizeLine; decide), fun t nt => ?_⟩
          have ntD : D ≠ t := ne_of_none hD nt
          have smt : Same H3 (upd H3 t (.tup [.ref out[i].1, .int (numAt es out[i].2)])) := same_upd nt
          have hD3 := smt _ _ hD
          refine ⟨ws, hD3, ?_, same_mut (sm3.trans smt) hDn, ?_, ws ++ [.ref t], upd_same, ?_⟩
          · have h1 := hE3.len
            have h2 := mkR_len (numAt es) ((out.take i).map (·.2))
            have h3 := perm.length_eq
            rw [List.length_map] at h2 h3
            rw [List.length_take] at h2
            omega
          · rw [upd_ne hpD]
            exact smt _ _ hp
          · refine ((hE3.mono smt).updL hD3).app (.cons (EntAt.updL hD3 ⟨t, _, rfl, upd_same, ?_⟩) .nil)
            exact smt _ _ hk3
        · have h0' : numAt es out[i].2 = 0 := V.int.inj h0
          rw [if_pos h0', List.append_nil]
          exact ⟨sm3, hp, ws, hD, hE3⟩
      · rintro H3 ⟨sm3, hp, ws, hD, hE3⟩
        rw [List.length_map, List.take_length] at hE3
        refine q _ D ws H3 (row_sorted perm pw nod hs.out) (sm.trans sm3) ?_ hD hE3
        cases z : H D with
        | none => rfl
        | some o =>
          rw [sm _ _ z] at hDn
          cases hDn
end
end OT

set_option Elab.async false
set_option linter.all false
set_option maxRecDepth 100000
set_option maxHeartbeats 2000000
namespace OT
open PySem PySem.Spec PyProof.Rows L2
section
variable {P : Program} {w : World} {K : PySem.W.Frag} {mg : Str → Option Value} {base : Heap}
/-- a row of places of n coordinates -/
structure RowN (n : Nat) (r : List Ent) : Prop where
  v : Valid r
  n1 : 1 ≤ n
  n3 : n ≤ 3
  at_ : ∀ e ∈ r, e.1.length = n
theorem asc_get {r : List Ent} (h : Valid r) {i j : Nat} (hi : i < r.length) (hj : j < r.length) (hij : i < j) : HT.lexLt r[i].1 r[j].1 = true := List.pairwise_iff_getElem.mp h.asc i j hi hj hij
def spIsRow (K : PySem.W.Frag) : Sp := fun vs H Q _ => ∃ (a : Addr) (ws : List V) (r : List Ent) (n : Nat), vs = [.ref a] ∧ H a = some (.lst ws) ∧ Ents H ws r ∧ RowN n r ∧ r.length ≤ 100000 ∧ Q (.bl true) H
theorem c__law_is_row {f : Addr} {fd : FuncData} (D : C8.Def K mg "_law_is_row" s__law_is_row f fd) (b : Binds K fd ["_law_actual"] []) (T : Bi mg) (c__law_is_place : C8.Cal P w K mg base 2 "_law_is_place" (spIsPlace K) []) (c__law_is_integer : C8.Cal P w K mg base 1 "_law_is_integer" spIsInt []) :
    C8.Cal P w K mg base 3 "_law_is_row" (spIsRow K) [] := by
  refine C8.cal0 D b .nil sc__law_is_row (fun vs H Q E h => ?_) (fun cdv A outer s H vs Q E hr h => ?_)
  · obtain ⟨a, ws, r, n, rfl, _⟩ := h
    rfl
  · obtain ⟨a, ws, r, n, rfl, ha, hE, hN, hz, q⟩ := h
    have hS : SqL K H a ws := .inl (.inl ha)
    refine ⟨_, (pss_cons (ps_if (pt_not (pt_val (pe_callB call_isi (by rfl) T.n_isinstance OT.b_isinstance (pa_cons (pv 0) (pa_cons (pe_bltn (v := .ty "list") (by rfl) T.n_list OT.b_list rfl) pa_nil))))) (pss_one (ps_ret pe_bl)) pss_nil)
  (pss_cons (ps_for PassesOwn.never rfl (pi_range1 rfl T.n_range (pa_cons (pe_callB call_len_seq (by rfl) T.n_len OT.b_len (pa_cons (pv 0) pa_nil)) pa_nil)) (pg_name (i := 1) sc__law_is_row.nd rfl (Or.inl rfl)) (pss_cons (ps_set (i := 2) sc__law_is_row.nd rfl (Or.inl rfl) (pe_ix ix_list (pv 0) (pv 1) (fun _ _ => rfl)))
  (pss_cons (ps_if (PW.pt (pw_or (pt_not (pt_val (pe_callB call_isi (by rfl) T.n_isinstance OT.b_isinstance (pa_cons (pv 2) (pa_cons (pe_bltn (v := .ty "tuple") (by rfl) T.n_tuple OT.b_tuple rfl) pa_nil))))) (pw_or1 (pt_cmpR op_ne (pe_callB call_len_seq (by rfl) T.n_len OT.b_len (pa_cons (pv 2) pa_nil)) pe_int (nomark _))))) (pss_one (ps_ret pe_bl)) pss_nil)
  (pss_cons (ps_if (PW.pt (pw_or (pt_not (pt_val (C8.pe_c c__law_is_place hr (by decide) (by rfl) (pa_cons (pe_ix ix_tup (pv 2) pe_int (fun _ _ => rfl)) pa_nil)))) (pw_or (pt_not (pt_val (C8.pe_c c__law_is_integer hr (by decide) (by rfl) (pa_cons (pe_ix ix_tup (pv 2) pe_int (fun _ _ => rfl)) pa_nil)))) (pw_or1 (pt_cmpR op_eq (pe_ix ix_tup (pv 2) pe_int (fun _ _ => rfl)) pe_int (nomark _)))))) (pss_one (ps_ret pe_bl)) pss_nil)
  (pss_cons (ps_if (pt_cmpR op_ne (pe_callB call_len_seq (by rfl) T.n_len OT.b_len (pa_cons (pe_ix ix_tup (pv 2) pe_int (fun _ _ => rfl)) pa_nil)) (pe_callB call_len_seq (by rfl) T.n_len OT.b_len (pa_cons (pe_ix ix_tup (pe_ix ix_list (pv 0) pe_int (fun _ _ => rfl)) pe_int (fun _ _ => rfl)) pa_nil)) (nomark _)) (pss_one (ps_ret pe_bl)) pss_nil)
  (pss_one (ps_if (PW.pt (pw_and (pt_cmpR op_gt (pv 1) pe_int (nomark _)) (pw_and1 (pt_not (pt_cmpR (op_ltT hr.units0) (pe_ix ix_tup (pe_ix ix_list (pv 0) (pe_op op_sub (pv 1) pe_int) (fun _ _ => rfl)) pe_int (fun _ _ => rfl)) (pe_ix ix_tup (pv 2) pe_int (fun _ _ => rfl)) (nomark _)))))) (pss_one (ps_ret pe_bl)) pss_nil)))))))
  (pss_one (ps_ret pe_bl)))), ?_⟩
    refine ⟨_, rfl, _, _, _, _, _, rfl, .ty _, .base (.lst ha), kit_ty kb_ll, _, rfl, ?_⟩
    refine iteF ?_
    refine ⟨_, rfl, a, _, rfl, .inl hS, _, rfl, ?_, ?_, ?_⟩
    · omega
    · have h2 := hE.len
      have : (2 : Int) ^ 62 = 4611686018427387904 := by decide
      omega
    rw [Int.toNat_natCast, hE.len]
    refine for_range (fun i σ H2 => ∃ y1 y2, σ = [some (.ref a), y1, y2] ∧ H2 = H) ⟨none, none, rfl, rfl⟩ ?_ ?_
    · rintro i σ H2 hi ⟨y1, y2, rfl, rfl⟩
      obtain ⟨v, hv, t, p, rfl, ht, hp⟩ := hE.at hi
      obtain ⟨v0, hv0, t0, p0, rfl, ht0, hp0⟩ := hE.at (i := 0) (by omega)
      have hm := List.getElem_mem hi
      have hm0 := List.getElem_mem (show 0 < r.length by omega)
      have hT : SqT K H2 t [.ref p, .int r[i].2] := .inl (.inl ht)
      have hT0 : SqT K H2 t0 [.ref p0, .int (r[0]'(by omega)).2] := .inl (.inl ht0)
      have hP : SqT K H2 p (r[i].1.map V.int) := .inl (.inl hp)
      have hP0 : SqT K H2 p0 ((r[0]'(by omega)).1.map V.int) := .inl (.inl hp0)
      refine ⟨_, rfl, _, rfl, a, _, _, .ref t, rfl, rfl, hS, by rw [Int.zero_add]; exact atI_nat hv, ?_⟩
      refine ⟨_, rfl, _, _, _, _, _, rfl, .ty _, .base (.tup ht), kit_ty kb_tt, _, rfl, ?_⟩
      refine iteF ?_
      refine ⟨_, rfl, t, _, rfl, .inr hT, rfl, _, rfl, ?_⟩
      refine iteF ?_
      refine ⟨_, rfl, t, _, 0, _, rfl, rfl, hT, atI_nat (j := 0) rfl, p, _, rfl, hp, by rw [hN.at_ _ hm]; exact hN.n1, by rw [hN.at_ _ hm]; exact hN.n3, _, rfl, ?_⟩
      refine iteF ?_
      refine ⟨_, rfl, t, _, 1, _, rfl, rfl, hT, atI_nat (j := 1) rfl, _, rfl, _, rfl, ?_⟩
      refine iteF ?_
      refine ⟨_, rfl, t, _, 1, _, rfl, rfl, hT, atI_nat (j := 1) rfl, rfl, _, rfl, iteD (fun z => absurd (V.int.inj z) (hN.v.nz _ hm)) (fun _ => ?_)⟩
      refine ⟨_, rfl, t, _, 0, _, rfl, rfl, hT, atI_nat (j := 0) rfl, p, _, rfl, .inr hP, _, rfl, a, _, 0, _, rfl, rfl, hS, atI_nat (j := 0) hv0, t0, _, 0, _, rfl, rfl, hT0, atI_nat (j := 0) rfl, p0, _, rfl, .inr hP0, rfl, _, rfl, iteND (fun z => ?_) (fun _ => ?_)⟩
      · rw [List.length_map, List.length_map, hN.at_ _ hm, hN.at_ _ hm0] at z
        exact absurd rfl z
      refine ⟨_, rfl, _, _, rfl, rfl, _, rfl, iteD (fun hk => ?_) (fun _ => ?_)⟩
      · have hi1 : i - 1 < r.length := by omega
        obtain ⟨v1, hv1, t1, p1, rfl, ht1, hp1⟩ := hE.at (i := i - 1) hi1
        have hT1 : SqT K H2 t1 [.ref p1, .int (r[i - 1]'hi1).2] := .inl (.inl ht1)
        refine ⟨_, rfl, _, rfl, _, _, rfl, rfl, a, _, _, _, rfl, rfl, hS, ?_, t1, _, 0, _, rfl, rfl, hT1, atI_nat (j := 0) rfl, _, rfl, t, _, 0, _, rfl, rfl, hT, atI_nat (j := 0) rfl, p1, p, _, _, rfl, rfl, .inl (.inl hp1), hP, _, rfl, ?_⟩
        · rw [show (0 : Int) + (i : Int) - 1 = ((i - 1 : Nat) : Int) by omega]
          exact atI_nat hv1
        · rw [asc_get hN.v hi1 hi (by omega)]
          refine iteF ?_
          exact ⟨_, _, rfl, rfl⟩
      · exact ⟨_, _, rfl, rfl⟩
    · rintro σ H2 ⟨y1, y2, rfl, rfl⟩
      exact q
def spSame (K : PySem.W.Frag) : Sp := fun vs H Q _ => ∃ (a c : Addr) (ws us : List V) (r : List Ent) (n : Nat), vs = [.ref a, .ref c] ∧ H a = some (.lst ws) ∧ Ents H ws r ∧ H c = some (.lst us) ∧ Ents H us r ∧ RowN n r ∧ r.length ≤ 100000 ∧ Q (.bl true) H
theorem c__law_same {f : Addr} {fd : FuncData} (D : C8.Def K mg "_law_same" s__law_same f fd) (b : Binds K fd ["_law_actual", "_law_expected"] []) (T : Bi mg) (c__law_is_row : C8.Cal P w K mg base 3 "_law_is_row" (spIsRow K) []) :
    C8.Cal P w K mg base 4 "_law_same" (spSame K) [] := by
  refine C8.cal0 D b .nil sc__law_same (fun vs H Q E h => ?_) (fun cdv A outer s H vs Q E hr h => ?_)
  · obtain ⟨a, c, ws, us, r, n, rfl, _⟩ := h
    rfl
  · obtain ⟨a, c, ws, us, r, n, rfl, ha, hE, hc, hF, hN, hz, q⟩ := h
    refine ⟨_, (pss_one (ps_ret (pe_and (C8.pe_c c__law_is_row hr (by decide) (by rfl) (pa_cons (pv 0) pa_nil)) (pe_one (pe_cmpR (op_eqD hr.units) (pv 0) (pv 1) (nomark _)))))), ?_⟩
    refine ⟨_, rfl, a, ws, r, n, rfl, ha, hE, hN, hz, _, rfl, ?_⟩
    refine iteT ?_
    refine ⟨_, rfl, _, rfl, dRow r, dRow r, hE.dp (.inl (.inl ha)), hF.dp (.inl (.inl hc)), shaped_row r, shaped_row r, ?_⟩
    rw [SeqAt.eqv_refl _ (SeqAt.canLay_of_shaped (shaped_row r))]
    exact q
end
end OT

set_option Elab.async false
set_option linter.all false
set_option maxRecDepth 100000
set_option maxHeartbeats 2000000
namespace OT
open PySem PySem.Spec PyProof.Rows L2
/-! ### places -/
def plusP (k l : Pl) : Pl := List.zipWith (· + ·) k l
theorem plusP_len {k l : Pl} (h : k.length ≤ l.length) : (plusP k l).length = k.length := by
  unfold plusP
  rw [List.length_zipWith, Nat.min_eq_left h]
theorem plusP_get {k l : Pl} {i : Nat} (h : i < (plusP k l).length) (h1 : i < k.length) (h2 : i < l.length) : (plusP k l)[i] = k[i] + l[i] := by
  unfold plusP
  exact List.getElem_zipWith ..
theorem plusP_mem {k l : Pl} {x : Int} (h : x ∈ plusP k l) : ∃ a ∈ k, ∃ b ∈ l, x = a + b := by
  obtain ⟨i, hi, rfl⟩ := List.getElem_of_mem h
  have hk : i < k.length := by
    unfold plusP at hi
    rw [List.length_zipWith] at hi
    omega
  have hl : i < l.length := by
    unfold plusP at hi
    rw [List.length_zipWith] at hi
    omega
  exact ⟨_, List.getElem_mem hk, _, List.getElem_mem hl, plusP_get hi hk hl⟩
theorem plusP_lt : ∀ {a b l : Pl}, a.length ≤ l.length → b.length ≤ l.length → HT.lexLt (plusP a l) (plusP b l) = HT.lexLt a b
  | [], [], _, _, _ => rfl
  | [], _ :: _, _ :: _, _, _ => rfl
  | _ :: _, [], _ :: _, _, _ => rfl
  | x :: a, y :: b, z :: l, h1, h2 => by
    show (if x + z = y + z then HT.lexLt (plusP a l) (plusP b l) else decide (x + z < y + z)) = if x = y then HT.lexLt a b else decide (x < y)
    rw [plusP_lt (Nat.le_of_succ_le_succ h1) (Nat.le_of_succ_le_succ h2)]
    by_cases e : x = y
    · rw [if_pos e, if_pos (by rw [e])]
    · rw [if_neg e, if_neg (by omega)]
      by_cases h : x < y
      · rw [decide_eq_true h, decide_eq_true (by omega)]
      · rw [decide_eq_false h, decide_eq_false (by omega)]
def movL (es : List Ent) (l : Pl) : List Ent := es.map fun e => (plusP e.1 l, e.2)
theorem movL_valid {es : List Ent} {l : Pl} (h : Valid es) (hl : ∀ e ∈ es, e.1.length ≤ l.length) : Valid (movL es l) := by
  refine ⟨?_, fun e he => ?_⟩
  · unfold movL
    rw [List.pairwise_map]
    refine List.Pairwise.imp_of_mem (fun {x y} hx hy q => ?_) h.asc
    rw [plusP_lt (hl x hx) (hl y hy)]
    exact q
  · obtain ⟨x, hx, rfl⟩ := List.mem_map.mp he
    exact h.nz x hx
theorem numAt_bound {es : List Ent} {m : Nat} (h : ∀ e ∈ es, e.2.natAbs ≤ m) (q : Pl) : (numAt es q).natAbs ≤ es.length * m := by
  induction es with
  | nil => exact Nat.zero_le _
  | cons e r ih =>
    have h1 := h e List.mem_cons_self
    have h2 := ih fun x hx => h x (List.mem_cons_of_mem _ hx)
    show ((if e.1 = q then e.2 else 0) + numAt r q).natAbs ≤ (r.length + 1) * m
    rw [Nat.succ_mul]
    by_cases c : e.1 = q
    · rw [if_pos c]
      omega
    · rw [if_neg c]
      omega
theorem RowIs.bound {r es : List Ent} {m : Nat} (h : RowIs r es) (hb : ∀ e ∈ es, e.2.natAbs ≤ m) : ∀ e ∈ r, e.2.natAbs ≤ es.length * m := fun e he => by
  have h1 := h.v.at e he
  rw [h.s] at h1
  rw [← h1]
  exact numAt_bound hb _
/-- tuples of ints, in turn -/
inductive Pls (H : Hp) : List V → List Pl → Prop
  | nil : Pls H [] []
  | cons {p : Addr} {k : Pl} {vs : List V} {ks : List Pl} : H p = some (.tup (k.map V.int)) → Pls H vs ks → Pls H (.ref p :: vs) (k :: ks)
theorem Pls.len {H : Hp} {vs : List V} {ks : List Pl} (h : Pls H vs ks) : vs.length = ks.length := by
  induction h with
  | nil => rfl
  | cons _ _ ih => rw [List.length_cons, List.length_cons, ih]
theorem Pls.mono {H H' : Hp} {vs : List V} {ks : List Pl} (s : ∀ b o, H b = some o → H' b = some o) (h : Pls H vs ks) : Pls H' vs ks := by
  induction h with
  | nil => exact .nil
  | cons h1 _ ih => exact .cons (s _ _ h1) ih
theorem Pls.app {H : Hp} {vs ws : List V} {ks ls : List Pl} (h : Pls H vs ks) (g : Pls H ws ls) : Pls H (vs ++ ws) (ks ++ ls) := by
  induction h with
  | nil => exact g
  | cons h1 _ ih => exact .cons h1 ih
theorem Pls.updL {H : Hp} {D : Addr} {l l' : List V} {vs : List V} {ks : List Pl} (hD : H D = some (.lst l)) (h : Pls H vs ks) : Pls (upd H D (.lst l')) vs ks := by
  induction h with
  | nil => exact .nil
  | cons h1 _ ih => exact .cons (by rw [upd_ne (ne_lst h1 hD)]; exact h1) ih
theorem Pls.get {H : Hp} {vs : List V} {ks : List Pl} (h : Pls H vs ks) : ∀ {i : Nat} {v : V}, vs[i]? = some v → ∃ p k, v = .ref p ∧ ks[i]? = some k ∧ H p = some (.tup (k.map V.int)) := by
  induction h with
  | nil => intro i v h; simp at h
  | cons h1 _ ih =>
    intro i v hv
    cases i with
    | zero =>
      cases hv
      exact ⟨_, _, rfl, rfl, h1⟩
    | succ i => exact ih (i := i) hv
section
variable {P : Program} {w : World} {K : PySem.W.Frag} {mg : Str → Option Value} {base : Heap}
theorem small100k {n : Nat} (h : n ≤ 100000) : n < sizeLine := Nat.lt_of_le_of_lt h (by decide)
theorem b62 {n : Nat} (h : n ≤ 100000) : (n : Int) < 2 ^ 62 := by
  have : (2 : Int) ^ 62 = 4611686018427387904 := by decide
  omega
def spPlus (K : PySem.W.Frag) : Sp := fun vs H Q _ => ∃ (a b : Addr) (k l : Pl), vs = [.ref a, .ref b] ∧ SqT K H a (k.map V.int) ∧ SqT K H b (l.map V.int) ∧ k.length ≤ l.length ∧ k.length ≤ 1000 ∧ ∀ p H', Same H H' → H' p = some (.tup ((plusP k l).map V.int)) → Q (.ref p) H'
theorem c__law_plus {f : Addr} {fd : FuncData} (D : C8.Def K mg "_law_plus" s__law_plus f fd) (b : Binds K fd ["_law_place", "_law_other"] []) (T : Bi mg) : C8.Cal P w K mg base 1 "_law_plus" (spPlus K) [] := by
  refine C8.cal0 D b .nil sc__law_plus (fun vs H Q E h => ?_) (fun cdv A outer s H vs Q E hr h => ?_)
  · obtain ⟨a, b, k, l, rfl, _⟩ := h
    rfl
  · obtain ⟨a, b, k, l, rfl, hk, hl, hkl, hz, q⟩ := h
    refine ⟨_, (pss_one (ps_ret (pe_callTy call_tuple_of (by rfl) T.n_tuple OT.b_tuple (pa_cons (pe_lc (own := [("_law_k", 2)]) (g := (gName 2)) (tt := tYes) rfl sc__law_plus.nd (pi_range1 rfl T.n_range (pa_cons (pe_callB call_len_seq (by rfl) T.n_len OT.b_len (pa_cons (pv 0) pa_nil)) pa_nil)) (blkOk_by (N := ["_law_place", "_law_other", "_law_k"]) (sc := C8.fnScope s__law_plus) (by decide +kernel)) (fun _ _ _ _ _ => (pg_name (i := 2) sc__law_plus.nd rfl (Or.inl rfl))) (fun _ _ _ _ _ => pts_nil) (fun _ _ _ _ _ => (pe_op op_add (pe_ix (show IxR _ (rIxT K) from ix_tup) (pv 0) (pv 2) (fun _ _ => rfl)) (pe_ix (show IxR _ (rIxT K) from ix_tup) (pv 1) (pv 2) (fun _ _ => rfl))))) pa_nil)))), ?_⟩
    have hpl := plusP_len hkl
    refine ⟨_, rfl, a, _, rfl, .inr hk, _, rfl, by omega, b62 (by rw [List.length_map]; omega), fun p np => ?_⟩
    rw [List.length_map, Int.toNat_natCast]
    refine lc_range (lo := 0) (n := k.length) (fun i H2 => Same H H2 ∧ H2 p = some (.lst (((plusP k l).take i).map V.int))) ⟨same_upd np, upd_same⟩ ?_ ?_
    · rintro i H2 hi ⟨sm, hp⟩
      have hil : i < l.length := by omega
      have hip : i < (plusP k l).length := by omega
      have gk : atI (k.map V.int) ((0 : Int) + (i : Int)) = some (.int k[i]) := by
        rw [Int.zero_add]
        exact atI_nat (by rw [List.getElem?_map, List.getElem?_eq_getElem hi]; rfl)
      have gl : atI (l.map V.int) ((0 : Int) + (i : Int)) = some (.int l[i]) := by
        rw [Int.zero_add]
        exact atI_nat (by rw [List.getElem?_map, List.getElem?_eq_getElem hil]; rfl)
      refine ⟨rfl, tYes_of ?_⟩
      refine ⟨_, rfl, _, rfl, a, _, _, _, rfl, rfl, same_t sm hk, gk, _, rfl, _, rfl, b, _, _, _, rfl, rfl, same_t sm hl, gl, _, _, rfl, rfl, _, hp, ?_, same_mut sm np, ?_⟩
      · rw [List.length_map, List.length_take]
        exact small1000 (by omega)
      · rw [upd_same, take_map_succ V.int hip, plusP_get hip hi hil]
    · rintro H2 ⟨sm, hp⟩
      rw [← hpl, List.take_length] at hp
      exact ⟨p, _, rfl, .inl ⟨.inl (.inl hp), fun t nt => q t _ (sm.trans (same_upd nt)) upd_same⟩⟩
def spMoved (K : PySem.W.Frag) : Sp := fun vs H Q _ => ∃ (a b : Addr) (xs : List V) (es : List Ent) (l : Pl), vs = [.ref a, .ref b] ∧ InEnts K H a xs es ∧ SqT K H b (l.map V.int) ∧ (∀ e ∈ es, e.1.length ≤ l.length) ∧ l.length ≤ 1000 ∧
  ∀ p ws H', Same H H' → H p = none → H' p = some (.lst ws) → Ents H' ws (movL es l) → Q (.ref p) H'
theorem c__law_moved {f : Addr} {fd : FuncData} (D : C8.Def K mg "_law_moved" s__law_moved f fd) (b : Binds K fd ["_law_row_here", "_law_by_here"] []) (T : Bi mg) (c__law_plus : C8.Cal P w K mg base 1 "_law_plus" (spPlus K) []) : C8.Cal P w K mg base 2 "_law_moved" (spMoved K) [] := by
  refine C8.cal0 D b .nil sc__law_moved (fun vs H Q E h => ?_) (fun cdv A outer s H vs Q E hr h => ?_)
  · obtain ⟨a, b, xs, es, l, rfl, _⟩ := h
    rfl
  · obtain ⟨a, b, xs, es, l, rfl, hE, hl, hle, hz, q⟩ := h
    refine ⟨_, (pss_one (ps_ret (pe_lc (own := [("_law_entry", 2)]) (g := (gName 2)) (tt := tYes) rfl sc__law_moved.nd (pi_list (pv 0)) (blkOk_by (N := ["_law_row_here", "_law_by_here", "_law_entry"]) (sc := C8.fnScope s__law_moved) (by decide +kernel)) (fun _ _ _ _ _ => (pg_name (i := 2) sc__law_moved.nd rfl (Or.inl rfl))) (fun _ _ _ _ _ => pts_nil) (fun _ _ _ _ _ => (pe_tup (pa_cons (C8.pe_c c__law_plus hr (by decide) (by rfl) (pa_cons (pe_ix (show IxR _ (rIxT K) from ix_tup) (pv 2) pe_int (fun _ _ => rfl)) (pa_cons (pv 1) pa_nil))) (pa_cons (pe_ix (show IxR _ (rIxT K) from ix_tup) (pv 2) pe_int (fun _ _ => rfl)) pa_nil))))))), ?_⟩
    have hx := hE.e.len
    have hez := hE.z
    refine ⟨_, rfl, a, rfl, ⟨_, hE.l⟩, fun p np => ?_⟩
    refine lc_list (K := K) (xs := xs) (fun i H2 => Same H H2 ∧ ∃ ws, H2 p = some (.lst ws) ∧ Ents H2 ws (movL (es.take i) l)) ?_ ?_ ?_ ?_
    · exact ⟨same_upd np, [], upd_same, .nil⟩
    · rintro i H2 _ ⟨sm, _⟩
      exact sm.seq hE.l
    · rintro i x H2 hxi ⟨sm, ws, hp, hW⟩
      obtain ⟨e, he, t, pe, rfl, ht, hpe⟩ := (hE.e.mono sm).get hxi
      obtain ⟨hi, hee⟩ := List.getElem?_eq_some_iff.mp he
      have hm := List.mem_of_getElem? he
      have hT : SqT K H2 t [.ref pe, .int e.2] := .inl (.inl ht)
      refine ⟨rfl, tYes_of ?_⟩
      refine ⟨_, rfl, t, _, 0, _, rfl, rfl, hT, atI_nat (j := 0) rfl, _, rfl, pe, b, e.1, l, rfl, .inl (.inl hpe), same_t sm hl, hle e hm, Nat.le_trans (hle e hm) hz, fun p3 H3 sm3 hp3 => ?_⟩
      refine ⟨_, rfl, t, _, 1, _, rfl, rfl, same_t sm3 hT, atI_nat (j := 1) rfl, (by show 2 ≤ sizeLine; decide), fun t4 nt4 => ?_⟩
      have sm4 : Same H3 (upd H3 t4 (.tup [.ref p3, .int e.2])) := same_upd nt4
      have smA := sm3.trans sm4
      have hv : EntAt (upd H3 t4 (.tup [.ref p3, .int e.2])) (.ref t4) (plusP e.1 l, e.2) := ⟨t4, p3, rfl, upd_same, sm4 _ _ hp3⟩
      have hD := smA _ _ hp
      have hwl := hW.len
      refine ⟨ws, hD, ?_, same_mut (sm.trans smA) np, ws ++ [.ref t4], upd_same, ?_⟩
      · unfold movL at hwl
        rw [List.length_map, List.length_take] at hwl
        omega
      · have ht1 : es.take (i + 1) = es.take i ++ [e] := by
          rw [List.take_add_one, he]
          rfl
        unfold movL
        rw [ht1, List.map_append]
        exact ((hW.mono smA).app (.cons hv .nil)).updL hD
    · rintro H2 ⟨sm, ws, hp, hW⟩
      rw [hx, List.take_length] at hW
      exact q p ws H2 sm np hp hW
def spBox (K : PySem.W.Frag) : Sp := fun vs H Q _ => ∃ (k u : Nat), vs = [.int (k : Int), .int (u : Int)] ∧ k < 3 ∧ ∀ p (bs : List Nat) H', (bs = [u] ∨ bs = [u, 2] ∨ bs = [2, 2, 2]) → bs.length = k + 1 → Same H H' → H' p = some (.lst (bs.map fun (n : Nat) => V.int n)) → Q (.ref p) H'
theorem c__law_box {f : Addr} {fd : FuncData} (D : C8.Def K mg "_law_box" s__law_box f fd) (b : Binds K fd ["_law_kind", "_law_wide"] []) (T : Bi mg) : C8.Cal P w K mg base 1 "_law_box" (spBox K) [] := by
  refine C8.cal0 D b .nil sc__law_box (fun vs H Q E h => ?_) (fun cdv A outer s H vs Q E hr h => ?_)
  · obtain ⟨k, u, rfl, _⟩ := h
    rfl
  · obtain ⟨k, u, rfl, hk, q⟩ := h
    refine ⟨_, (pss_cons (ps_if (pt_cmpR op_eq (pv 0) pe_int (nomark _)) (pss_one (ps_ret (pe_lst (pa_cons (pv 1) pa_nil)))) pss_nil)
  (pss_cons (ps_if (pt_cmpR op_eq (pv 0) pe_int (nomark _)) (pss_one (ps_ret (pe_lst (pa_cons (pv 1) (pa_cons pe_int pa_nil))))) pss_nil)
  (pss_one (ps_ret (pe_lst (pa_cons pe_int (pa_cons pe_int (pa_cons pe_int pa_nil)))))))), ?_⟩
    refine ⟨_, rfl, rfl, _, rfl, iteD (fun h => ?_) (fun h => ?_)⟩
    · refine ⟨_, rfl, (by show 1 ≤ sizeLine; decide), fun p np => ?_⟩
      have h0 := V.int.inj h
      exact q p [u] _ (.inl rfl) (by show 1 = k + 1; omega) (same_upd np) upd_same
    · refine ⟨_, rfl, rfl, _, rfl, iteD (fun h2 => ?_) (fun h2 => ?_)⟩
      · refine ⟨_, rfl, (by show 2 ≤ sizeLine; decide), fun p np => ?_⟩
        have h0 := V.int.inj h2
        exact q p [u, 2] _ (.inr (.inl rfl)) (by show 2 = k + 1; omega) (same_upd np) upd_same
      · refine ⟨(by show 3 ≤ sizeLine; decide), fun p np => ?_⟩
        have h0 : k ≠ 0 := fun e => h (by rw [e]; rfl)
        have h1 : k ≠ 1 := fun e => h2 (by rw [e]; rfl)
        exact q p [2, 2, 2] _ (.inr (.inr rfl)) (by show 3 = k + 1; omega) (same_upd np) upd_same
end
end OT

set_option Elab.async false
set_option linter.all false
set_option maxRecDepth 100000
set_option maxHeartbeats 2000000
namespace OT
open PySem PySem.Spec PyProof.Rows L2
theorem InR.get {ds zs : List Int} (h : InR ds zs) {i : Nat} {z : Int} (hz : zs[i]? = some z) : ∃ d, (ds.map V.int)[i]? = some (.int d) ∧ 0 ≤ d ∧ d < z := by
  have hi : i < ds.length := by
    rw [h.1]
    exact (List.getElem?_eq_some_iff.mp hz).1
  have e : ds[i]? = some ds[i] := List.getElem?_eq_getElem hi
  exact ⟨ds[i], by rw [List.getElem?_map, e]; rfl, h.2 i _ z e hz⟩
theorem ixN_nat {n j : Nat} (h : j < n) : ixN n (j : Int) = some j := by
  unfold ixN
  rw [if_pos (by omega), if_pos (by omega), Int.toNat_natCast]
theorem mod_nat {n : Nat} (h : 0 < n) (z : Int) : ∃ j : Nat, z % (n : Int) = (j : Int) ∧ j < n := by
  have h0 : 0 ≤ z % (n : Int) := Int.emod_nonneg _ (by omega)
  have h1 : z % (n : Int) < n := Int.emod_lt_of_pos _ (by omega)
  obtain ⟨j, hj⟩ := Int.eq_ofNat_of_zero_le h0
  exact ⟨j, hj, by omega⟩
/-- how many places a box has -/
def pr (bs : List Nat) : Nat := bs.foldl (· * ·) 1
theorem pr_snoc (bs : List Nat) (n : Nat) : pr (bs ++ [n]) = pr bs * n := by
  unfold pr
  rw [List.foldl_append]
  rfl
theorem pr_take {bs : List Nat} {i : Nat} (h : i < bs.length) : pr (bs.take (i + 1)) = pr (bs.take i) * bs[i] := by
  rw [List.take_add_one, List.getElem?_eq_getElem h]
  exact pr_snoc _ _
/-- within a box, direction by direction -/
def InB (o : Pl) (bs : List Nat) (k : Pl) : Prop := ∀ (i : Nat) (x y : Int) (b : Nat), k[i]? = some x → o[i]? = some y → bs[i]? = some b → y ≤ x ∧ x < y + (b : Int)
def zeros (n : Nat) : Pl := List.replicate n 0
theorem InB.push {n : Nat} {bs : List Nat} {k : Pl} {m w : Nat} (h : InB (zeros n) bs k) (hl : k.length = bs.length) (hm : m < w) (hn : bs.length ≤ n) : InB (zeros (n + 1)) (bs ++ [w]) (k ++ [(m : Int)]) := by
  intro i x y b hx hy hb
  have hy0 : y = 0 := by
    have := List.mem_of_getElem? hy
    exact (List.mem_replicate.mp this).2
  subst hy0
  by_cases c : i < k.length
  · rw [List.getElem?_append_left c] at hx
    rw [List.getElem?_append_left (by omega)] at hb
    refine h i x 0 b hx ?_ hb
    unfold zeros
    rw [List.getElem?_replicate, if_pos (by omega)]
  · have hi := (List.getElem?_eq_some_iff.mp hx).1
    rw [List.length_append, List.length_singleton] at hi
    have e : i = k.length := by omega
    subst e
    rw [List.getElem?_append_right (by omega), Nat.sub_self] at hx
    rw [hl, List.getElem?_append_right (by omega), Nat.sub_self] at hb
    cases hx
    cases hb
    omega
structure PlaceN (W : Nat) (cs : List Nat) (ks : List Pl) : Prop where
  l : ∀ k ∈ ks, k.length = cs.length
  c : ∀ k ∈ ks, ∀ x ∈ k, 0 ≤ x ∧ x < (W : Int)
  b : ∀ k ∈ ks, InB (zeros cs.length) cs k
theorem PlaceN.push {W : Nat} {cs : List Nat} {w : Nat} {ks : List Pl} {k : Pl} {m : Nat} (h : PlaceN W (cs ++ [w]) ks) (hl : k.length = cs.length) (hc : ∀ x ∈ k, 0 ≤ x ∧ x < (W : Int)) (hb : InB (zeros cs.length) cs k) (hm : m < W) (hw : m < w) : PlaceN W (cs ++ [w]) (ks ++ [k ++ [(m : Int)]]) := by
  constructor
  · intro y hy
    rcases List.mem_append.mp hy with hy | hy
    · exact h.l y hy
    · rw [List.mem_singleton.mp hy, List.length_append, hl, List.length_append]
      rfl
  · intro y hy x hx
    rcases List.mem_append.mp hy with hy | hy
    · exact h.c y hy x hx
    · rw [List.mem_singleton.mp hy] at hx
      rcases List.mem_append.mp hx with hx | hx
      · exact hc x hx
      · rw [List.mem_singleton.mp hx]
        omega
  · intro y hy
    rcases List.mem_append.mp hy with hy | hy
    · exact h.b y hy
    · rw [List.mem_singleton.mp hy, List.length_append, List.length_singleton]
      exact hb.push hl hw (Nat.le_refl _)
section
variable {P : Program} {w : World} {K : PySem.W.Frag} {mg : Str → Option Value} {base : Heap}
/-- a box that is small -/
structure BoxOk (W : Nat) (bs : List Nat) : Prop where
  n : bs.length ≤ 3
  w : ∀ n ∈ bs, n ≤ W
  p : ∀ i, pr (bs.take i) ≤ 64000
def spPlaces (K : PySem.W.Frag) : Sp := fun vs H Q _ => ∃ (b : Addr) (bs : List Nat) (W : Nat), vs = [.ref b] ∧ SqL K H b (bs.map fun (n : Nat) => V.int n) ∧ BoxOk W bs ∧ W ≤ 1000 ∧
  ∀ p ws ks H', Same H H' → H' p = some (.lst ws) → Pls H' ws ks → ks.length = pr bs → PlaceN W bs ks → Q (.ref p) H'
theorem c__law_places {f : Addr} {fd : FuncData} (D : C8.Def K mg "_law_places" s__law_places f fd) (b : Binds K fd ["_law_box_here"] []) (T : Bi mg) : C8.Cal P w K mg base 1 "_law_places" (spPlaces K) [] := by
  refine C8.cal0 D b .nil sc__law_places (fun vs H Q E h => ?_) (fun cdv A outer s H vs Q E hr h => ?_)
  · obtain ⟨b, bs, W, rfl, _⟩ := h
    rfl
  · obtain ⟨b, bs, W, rfl, hB, ok, hW0, q⟩ := h
    refine ⟨_, (pss_cons (ps_set (i := 1) sc__law_places.nd rfl (Or.inl rfl) (pe_lst (pa_cons (pe_tup pa_nil) pa_nil)))
  (pss_cons (ps_for PassesOwn.never rfl (pi_list (pv 0)) (pg_name (i := 2) sc__law_places.nd rfl (Or.inl rfl)) (pss_cons (ps_set (i := 3) sc__law_places.nd rfl (Or.inl rfl) (pe_lst pa_nil))
  (pss_cons (ps_for PassesOwn.never rfl (pi_list (pe_callTy call_list_of (by rfl) T.n_list OT.b_list (pa_cons (pv 1) pa_nil))) (pg_name (i := 4) sc__law_places.nd rfl (Or.inl rfl)) (pss_one (ps_for PassesOwn.never rfl (pi_range1 rfl T.n_range (pa_cons (pv 2) pa_nil)) (pg_name (i := 5) sc__law_places.nd rfl (Or.inl rfl)) (pss_one (ps_expr (pe_bm PySem.F.plainAttrs_list PySem.F.slot_list_append PySem.F.type_list_append mt_append (pv 3) (pa_cons (pe_op op_catA (pv 4) (pe_tup (pa_cons (pv 5) pa_nil))) pa_nil)))))))
  (pss_one (ps_set (i := 1) sc__law_places.nd rfl (Or.inl rfl) (pv 3))))))
  (pss_one (ps_ret (pv 1))))), ?_⟩
    refine ⟨(by show 0 ≤ sizeLine; decide), fun t0 nt0 => ⟨(by show 1 ≤ sizeLine; decide), fun p0 np0 => ?_⟩⟩
    have s0 : Same H (upd H t0 (.tup [])) := same_upd nt0
    have s1 : Same (upd H t0 (.tup [])) (upd (upd H t0 (.tup [])) p0 (.lst [.ref t0])) := same_upd np0
    refine ⟨_, rfl, b, rfl, ⟨_, (s0.trans s1).seq hB⟩, ?_⟩
    refine for_list (K := K) (xs := bs.map fun (n : Nat) => V.int n) (fun i σ H2 => ∃ (p : Addr) (ws : List V) (ks : List Pl) (y2 y3 y4 y5 : Option V), σ = [some (.ref b), some (.ref p), y2, y3, y4, y5] ∧ Same H H2 ∧ H2 p = some (.lst ws) ∧ Pls H2 ws ks ∧ ks.length = pr (bs.take i) ∧ PlaceN W (bs.take i) ks) ?_ ?_ ?_ ?_
    · refine ⟨p0, _, [[]], none, none, none, none, rfl, s0.trans s1, upd_same, .cons (s1 _ _ upd_same) .nil, rfl, ⟨fun k hk => ?_, fun k hk x hx => ?_, fun k hk => ?_⟩⟩
      · rw [List.mem_singleton.mp hk]
        rfl
      · rw [List.mem_singleton.mp hk] at hx
        cases hx
      · rw [List.mem_singleton.mp hk]
        intro i x y b hx _ _
        cases hx
    · rintro i σ H2 _ ⟨_, _, _, _, _, _, _, _, sm, _⟩
      exact sm.seq hB
    · rintro i x σ H2 hx ⟨p, ws, ks, y2, y3, y4, y5, rfl, sm, hp, hW, hkl, hN⟩
      obtain ⟨hi, rfl⟩ := getm hx
      have hwi := ok.w _ (List.getElem_mem hi)
      have hpi := ok.p i
      have hpi1 := ok.p (i + 1)
      rw [pr_take hi] at hpi1
      have htk : bs.take (i + 1) = bs.take i ++ [bs[i]] := by
        rw [List.take_add_one, List.getElem?_eq_getElem hi]
        rfl
      have htl : (bs.take i).length = i := by
        rw [List.length_take]
        omega
      rw [htk]
      generalize hbn : bs[i] = n at hwi hpi1 htk ⊢
      rw [← hkl] at hpi hpi1
      have hwl := hW.len
      refine ⟨Nat.zero_le _, fun D nD => ?_⟩
      have s2 : Same H2 (upd H2 D (.lst [])) := same_upd nD
      refine ⟨_, rfl, p, _, rfl, .inl (.inl (.inl (s2 _ _ hp))), fun l nl => ?_⟩
      have s3 : Same (upd H2 D (.lst [])) (upd (upd H2 D (.lst [])) l (.lst ws)) := same_upd nl
      refine ⟨l, rfl, ⟨_, .inl (.inl upd_same)⟩, ?_⟩
      have nDl : D ≠ l := ne_of_none upd_same nl
      refine for_list (K := K) (a := l) (xs := ws) (fun j σ H3 => ∃ (us : List V) (ls : List Pl) (z4 z5 : Option V), σ = [some (.ref b), some (.ref p), some (.int (n : Int)), some (.ref D), z4, z5] ∧ Same H2 H3 ∧ H3 l = some (.lst ws) ∧ H3 D = some (.lst us) ∧ Pls H3 us ls ∧ ls.length = j * n ∧ PlaceN W (bs.take i ++ [n]) ls) ?_ ?_ ?_ ?_
      · exact ⟨[], [], y4, y5, rfl, s2.trans s3, upd_same, s3 _ _ upd_same, .nil, by rw [Nat.zero_mul]; rfl, ⟨fun k hk => (by cases hk), fun k hk => (by cases hk), fun k hk => (by cases hk)⟩⟩
      · rintro j σ H3 _ ⟨_, _, _, _, _, _, hl, _⟩
        exact .inl (.inl hl)
      · rintro j x σ H3 hxj ⟨us, ls, z4, z5, rfl, sm3, hl, hD, hU, hll, hN3⟩
        obtain ⟨a, k, rfl, hkk, hak⟩ := (hW.mono sm3).get hxj
        have hj := (List.getElem?_eq_some_iff.mp hkk).1
        have hkm := List.mem_of_getElem? hkk
        have hjn : (j + 1) * n ≤ ks.length * n := Nat.mul_le_mul_right _ hj
        rw [Nat.succ_mul] at hjn
        refine ⟨_, rfl, _, rfl, by omega, b62 (by omega), ?_⟩
        rw [Int.toNat_natCast]
        refine for_range (lo := 0) (n := n) (fun m σ H4 => ∃ (us : List V) (ls : List Pl) (z5 : Option V), σ = [some (.ref b), some (.ref p), some (.int (n : Int)), some (.ref D), some (.ref a), z5] ∧ Same H2 H4 ∧ H4 l = some (.lst ws) ∧ H4 D = some (.lst us) ∧ Pls H4 us ls ∧ ls.length = j * n + m ∧ PlaceN W (bs.take i ++ [n]) ls) ⟨us, ls, z5, rfl, sm3, hl, hD, hU, hll, hN3⟩ ?_ ?_
        · rintro m σ H4 hm ⟨us, ls, z5, rfl, sm4, hl4, hD4, hU4, hll4, hN4⟩
          have hak4 : H4 a = some (.tup (k.map V.int)) := by
            obtain ⟨a2, k2, e1, e2, e3⟩ := (hW.mono sm4).get hxj
            cases e1
            rw [hkk] at e2
            cases e2
            exact e3
          have hul := hU4.len
          have nl4 : ∀ {o : HO}, upd H4 D o l = H4 l := fun {o} => upd_ne (Ne.symm nDl)
          refine ⟨_, rfl, .inl ⟨rfl, _, .inl (.inl hD4)⟩, _, rfl, _, rfl, (by show 1 ≤ sizeLine; decide), fun t nt => ?_⟩
          have sm5 : Same H4 (upd H4 t (.tup [.int ((0 : Int) + (m : Int))])) := same_upd nt
          have hN5 := hN4.push (hN.l k hkm) (hN.c k hkm) (hN.b k hkm) (show m < W by omega) hm
          have hlen5 : (ls ++ [k ++ [(m : Int)]]).length = j * n + (m + 1) := by
            rw [List.length_append, hll4]
            rfl
          refine ⟨a, t, _, _, rfl, rfl, .inl (.inl (sm5 _ _ hak4)), .inl (.inl upd_same), ?_, fun h0 => ?_, fun _ h => (by cases h), fun _ _ u nu => ?_⟩
          · rw [List.length_map, hN.l k hkm, htl]
            exact Nat.le_of_lt (small1000 (by show i + 1 ≤ 1000; have := ok.n; omega))
          · have hk0 : k = [] := List.map_eq_nil_iff.mp h0
            have hD5 := sm5 _ _ hD4
            refine ⟨D, us, _, rfl, rfl, hD5, small100k (by omega), ?_⟩
            refine ⟨us ++ [.ref t], ls ++ [k ++ [(m : Int)]], _, rfl, same_mut (sm4.trans sm5) nD, ?_, upd_same, ((hU4.mono sm5).app (.cons ?_ .nil)).updL hD5, hlen5, hN5⟩
            · rw [upd_ne (Ne.symm nDl)]
              exact sm5 _ _ hl4
            · rw [upd_same, hk0, Int.zero_add]
              rfl
          · have sm6 : Same (upd H4 t (.tup [.int ((0 : Int) + (m : Int))])) (upd (upd H4 t (.tup [.int ((0 : Int) + (m : Int))])) u (.tup (k.map V.int ++ [.int ((0 : Int) + (m : Int))]))) := same_upd nu
            have sm7 := sm5.trans sm6
            have hD5 := sm7 _ _ hD4
            refine ⟨D, us, _, rfl, rfl, hD5, small100k (by omega), ?_⟩
            refine ⟨us ++ [.ref u], ls ++ [k ++ [(m : Int)]], _, rfl, same_mut (sm4.trans sm7) nD, ?_, upd_same, ((hU4.mono sm7).app (.cons ?_ .nil)).updL hD5, hlen5, hN5⟩
            · rw [upd_ne (Ne.symm nDl)]
              exact sm7 _ _ hl4
            · rw [upd_same, List.map_append, Int.zero_add]
              rfl
        · rintro σ H4 ⟨us, ls, z5, rfl, sm4, hl4, hD4, hU4, hll4, hN4⟩
          exact ⟨us, ls, _, _, rfl, sm4, hl4, hD4, hU4, by rw [hll4, Nat.succ_mul], hN4⟩
      · rintro σ H3 ⟨us, ls, z4, z5, rfl, sm3, hl, hD, hU, hll, hN3⟩
        refine ⟨_, rfl, D, us, ls, _, _, _, _, rfl, sm.trans sm3, hD, hU, ?_, hN3⟩
        rw [hll, hwl, hkl, pr_snoc]
    · rintro σ H2 ⟨p, ws, ks, y2, y3, y4, y5, rfl, sm, hp, hW, hkl, hN⟩
      rw [List.length_map] at hkl hN
      rw [List.take_length] at hkl hN
      exact ⟨_, rfl, q p ws ks H2 sm hp hW hkl hN⟩
end
end OT

set_option Elab.async false
set_option linter.all false
set_option maxRecDepth 100000
set_option maxHeartbeats 2000000
namespace OT
open PySem PySem.Spec PyProof.Rows L2
/-- a row that is drawn: at most m places of n coordinates -/
structure DrawnR (n m c u : Nat) (r : List Ent) : Prop where
  v : Valid r
  m : r.length ≤ m
  n : ∀ e ∈ r, e.1.length = n
  c : ∀ e ∈ r, ∀ x ∈ e.1, x.natAbs ≤ c
  u : ∀ e ∈ r, e.2.natAbs ≤ u
/-- within some box of these sizes -/
def Boxed (bs : List Nat) (r : List Ent) : Prop := ∃ o : Pl, o.length = bs.length ∧ ∀ e ∈ r, InB o bs e.1
theorem InB.mov {n : Nat} {bs : List Nat} {k o : Pl} (h : InB (zeros n) bs k) (hk : k.length = o.length) (hn : o.length ≤ n) : InB o bs (plusP k o) := by
  intro i x y b hx hy hb
  have hi := (List.getElem?_eq_some_iff.mp hy).1
  have hik : i < k.length := by omega
  have hip : i < (plusP k o).length := (List.getElem?_eq_some_iff.mp hx).1
  rw [List.getElem?_eq_getElem hip] at hx
  rw [plusP_get hip hik hi] at hx
  have ho : o[i] = y := Option.some.inj ((List.getElem?_eq_getElem hi).symm.trans hy)
  obtain ⟨h1, h2⟩ := h i k[i] 0 b (List.getElem?_eq_getElem hik) (by
    unfold zeros
    rw [List.getElem?_replicate, if_pos (by omega)]) hb
  have := Option.some.inj hx
  omega
section
variable {P : Program} {w : World} {K : PySem.W.Frag} {mg : Str → Option Value} {base : Heap}
def spDrawn (K : PySem.W.Frag) : Sp := fun vs H Q _ => ∃ (c : Int) (b : Addr) (bs : List Nat) (rc mv W : Nat), vs = [.int c, .ref b, .int (rc : Int), .int (mv : Int)] ∧ SqL K H b (bs.map fun (n : Nat) => V.int n) ∧ BoxOk W bs ∧ W ≤ 1000 ∧ 1 ≤ bs.length ∧ pr bs ≤ 900 ∧ rc ≤ 1000 ∧ mv ≤ 100000 ∧
  ∀ p ws r H', Same H H' → H p = none → H' p = some (.lst ws) → Ents H' ws r → DrawnR bs.length (pr bs) (W + mv) (pr bs * rc) r → Boxed bs r → Q (.ref p) H'
theorem rep_get {n : Nat} {z : Int} {i : Nat} (h : i < n) (ys : List Int) : (List.replicate n z ++ ys)[i]? = some z := by
  rw [List.getElem?_append_left (by rw [List.length_replicate]; exact h), List.getElem?_replicate, if_pos h]
theorem rep_get2 {n m : Nat} {y z : Int} {i : Nat} (h : i < m) : (List.replicate n y ++ List.replicate m z)[n + i]? = some z := by
  rw [List.getElem?_append_right (by rw [List.length_replicate]; exact Nat.le_add_right _ _), List.length_replicate, Nat.add_sub_cancel_left, List.getElem?_replicate, if_pos h]
theorem c__law_drawn {f : Addr} {fd : FuncData} (D : C8.Def K mg "_law_drawn" s__law_drawn f fd) (b : Binds K fd ["_law_cell_here", "_law_box_here", "_law_reach", "_law_moves"] []) (T : Bi mg) (c__law_places : C8.Cal P w K mg base 1 "_law_places" (spPlaces K) []) (c__law_draws : C8.Cal P w K mg base 1 "_law_draws" (spDraws K) [])
    (c__law_row : C8.Cal P w K mg base 1 "_law_row" (spGather K) []) (c__law_moved : C8.Cal P w K mg base 2 "_law_moved" (spMoved K) []) : C8.Cal P w K mg base 3 "_law_drawn" (spDrawn K) [] := by
  refine C8.cal0 D b .nil sc__law_drawn (fun vs H Q E h => ?_) (fun cdv A outer s H vs Q E hr h => ?_)
  · obtain ⟨c, b, bs, rc, mv, W, rfl, _⟩ := h
    rfl
  · obtain ⟨c, b, bs, rc, mv, W, rfl, hB, ok, hW0, hb1, hpr, hrc, hmv, q⟩ := h
    refine ⟨_, (pss_cons (ps_set (i := 4) sc__law_drawn.nd rfl (Or.inr rfl) (C8.pe_c c__law_places hr (by decide) (by rfl) (pa_cons (pv 1) pa_nil)))
  (pss_cons (ps_set (i := 5) sc__law_drawn.nd rfl (Or.inr rfl) (C8.pe_c c__law_draws hr (by decide) (by rfl) (pa_cons (pv 0) (pa_cons (pe_op op_cat (pe_lc (own := [("_law_k", 7)]) (g := (gName 7)) (tt := tYes) rfl sc__law_drawn.nd (pi_list (pv 4)) (blkOk_by (N := ["_law_cell_here", "_law_box_here", "_law_reach", "_law_moves", "_law_places_here", "_law_draws_here", "_law_by_here", "_law_k"]) (sc := C8.fnScope s__law_drawn) (by decide +kernel)) (fun _ _ _ _ _ => (pg_name (i := 7) sc__law_drawn.nd rfl (Or.inl rfl))) (fun _ _ _ _ _ => pts_nil) (fun _ _ _ _ _ => (pe_op op_add (pe_op op_mul pe_int (pv 2)) pe_int))) (pe_lc (own := [("_law_k", 7)]) (g := (gName 7)) (tt := tYes) rfl sc__law_drawn.nd (pi_list (pv 1)) (blkOk_by (N := ["_law_cell_here", "_law_box_here", "_law_reach", "_law_moves", "_law_places_here", "_law_draws_here", "_law_by_here", "_law_k"]) (sc := C8.fnScope s__law_drawn) (by decide +kernel)) (fun _ _ _ _ _ => (pg_name (i := 7) sc__law_drawn.nd rfl (Or.inl rfl))) (fun _ _ _ _ _ => pts_nil) (fun _ _ _ _ _ => (pe_op op_add (pe_op op_mul pe_int (pv 3)) pe_int)))) pa_nil))))
  (pss_cons (ps_set (i := 6) sc__law_drawn.nd rfl (Or.inl rfl) (pe_callTy call_tuple_of (by rfl) T.n_tuple OT.b_tuple (pa_cons (pe_lc (own := [("_law_k", 7)]) (g := (gName 7)) (tt := tYes) rfl sc__law_drawn.nd (pi_range1 rfl T.n_range (pa_cons (pe_callB call_len_seq (by rfl) T.n_len OT.b_len (pa_cons (pv 1) pa_nil)) pa_nil)) (blkOk_by (N := ["_law_cell_here", "_law_box_here", "_law_reach", "_law_moves", "_law_places_here", "_law_draws_here", "_law_by_here", "_law_k"]) (sc := C8.fnScope s__law_drawn) (by decide +kernel)) (fun _ _ _ _ _ => (pg_name (i := 7) sc__law_drawn.nd rfl (Or.inl rfl))) (fun _ _ _ _ _ => pts_nil) (fun _ _ _ _ _ => (pe_op op_sub (pe_ix (show IxR _ (rIxL K) from ix_list) (pv 5) (pe_op op_add (pe_callB (show CallR _ _ (Evl.rLenS K) from call_len_seq) (by rfl) T.n_len OT.b_len (pa_cons (pv 4) pa_nil)) (pv 7)) (fun _ _ => rfl)) (pv 3)))) pa_nil)))
  (pss_one (ps_ret (C8.pe_c c__law_moved hr (by decide) (by rfl) (pa_cons (C8.pe_c c__law_row hr (by decide) (by rfl) (pa_cons (pe_lc (own := [("_law_k", 7)]) (g := (gName 7)) (tt := tYes) rfl sc__law_drawn.nd (pi_range1 rfl T.n_range (pa_cons (pe_callB call_len_seq (by rfl) T.n_len OT.b_len (pa_cons (pv 4) pa_nil)) pa_nil)) (blkOk_by (N := ["_law_cell_here", "_law_box_here", "_law_reach", "_law_moves", "_law_places_here", "_law_draws_here", "_law_by_here", "_law_k"]) (sc := C8.fnScope s__law_drawn) (by decide +kernel)) (fun _ _ _ _ _ => (pg_name (i := 7) sc__law_drawn.nd rfl (Or.inl rfl))) (fun _ _ _ _ _ => pts_nil) (fun _ _ _ _ _ => (pe_tup (pa_cons (pe_ix (show IxR _ (rIxL K) from ix_list) (pv 4) (pv 7) (fun _ _ => rfl)) (pa_cons (pe_op op_sub (pe_ix (show IxR _ (rIxL K) from ix_list) (pv 5) (pv 7) (fun _ _ => rfl)) (pv 2)) pa_nil))))) pa_nil)) (pa_cons (pv 6) pa_nil)))))))), ?_⟩
    refine ⟨_, rfl, b, bs, W, rfl, hB, ok, hW0, fun p ws ks H1 sm1 hp hW hkl hN => ?_⟩
    have hS : SqL K H1 p ws := .inl (.inl hp)
    have hwl := hW.len
    have hbn := ok.n
    refine ⟨_, rfl, _, rfl, p, rfl, ⟨_, hS⟩, fun D1 nD1 => ?_⟩
    refine lc_list (K := K) (xs := ws) (fun i H2 => Same H1 H2 ∧ H2 D1 = some (.lst (List.replicate i (V.int (2 * (rc : Int) + 1))))) ⟨same_upd nD1, upd_same⟩ ?_ ?_ ?_
    · rintro i H2 _ ⟨sm, _⟩
      exact sm.seq hS
    · rintro i x H2 hx ⟨sm, hD⟩
      have hi := (List.getElem?_eq_some_iff.mp hx).1
      refine ⟨rfl, tYes_of ?_⟩
      refine ⟨_, rfl, _, _, rfl, rfl, .inl ⟨by decide, by decide⟩, _, _, rfl, rfl, _, hD, ?_, same_mut sm nD1, ?_⟩
      · rw [List.length_replicate]
        exact small1000 (by omega)
      · rw [upd_same, List.replicate_succ']
    rintro H2 ⟨sm2, hD1⟩
    have sA := sm1.trans sm2
    refine ⟨_, rfl, b, rfl, ⟨_, sA.seq hB⟩, fun D2 nD2 => ?_⟩
    refine lc_list (K := K) (xs := bs.map fun (n : Nat) => V.int n) (fun i H3 => Same H2 H3 ∧ H3 D2 = some (.lst (List.replicate i (V.int (2 * (mv : Int) + 1))))) ⟨same_upd nD2, upd_same⟩ ?_ ?_ ?_
    · rintro i H3 _ ⟨sm, _⟩
      exact (sA.trans sm).seq hB
    · rintro i x H3 hx ⟨sm, hD⟩
      have hi := (List.getElem?_eq_some_iff.mp hx).1
      rw [List.length_map] at hi
      refine ⟨rfl, tYes_of ?_⟩
      refine ⟨_, rfl, _, _, rfl, rfl, .inl ⟨by decide, by decide⟩, _, _, rfl, rfl, _, hD, ?_, same_mut sm nD2, ?_⟩
      · rw [List.length_replicate]
        exact small1000 (by omega)
      · rw [upd_same, List.replicate_succ']
    rintro H3 ⟨sm3, hD2⟩
    rw [List.length_map] at hD2
    refine ⟨D1, D2, _, _, rfl, rfl, sm3 _ _ hD1, hD2, ?_, fun p3 np3 => ?_⟩
    · rw [List.length_replicate, List.length_replicate]
      exact Nat.le_of_lt (small1000 (by omega))
    let zs : List Int := List.replicate ws.length (2 * (rc : Int) + 1) ++ List.replicate bs.length (2 * (mv : Int) + 1)
    have hzl : zs.length = ws.length + bs.length := by
      show (_ ++ _ : List Int).length = _
      rw [List.length_append, List.length_replicate, List.length_replicate]
    have hzm : zs.map V.int = List.replicate ws.length (V.int (2 * (rc : Int) + 1)) ++ List.replicate bs.length (V.int (2 * (mv : Int) + 1)) := by
      show (_ ++ _ : List Int).map V.int = _
      rw [List.map_append, List.map_replicate, List.map_replicate]
    have sB := (sA.trans sm3).trans (same_upd (o := .lst (List.replicate ws.length (V.int (2 * (rc : Int) + 1)) ++ List.replicate bs.length (V.int (2 * (mv : Int) + 1)))) np3)
    have sB1 := (sm2.trans sm3).trans (same_upd (o := .lst (List.replicate ws.length (V.int (2 * (rc : Int) + 1)) ++ List.replicate bs.length (V.int (2 * (mv : Int) + 1)))) np3)
    refine ⟨p3, zs, c, rfl, .inl (.inl ?_), by omega, fun z hz => ?_, fun ds H4 p4 hin sm4 np4 hp4 => ?_⟩
    · rw [upd_same, hzm]
    · rcases List.mem_append.mp hz with hz | hz
      · rw [(List.mem_replicate.mp hz).2]
        omega
      · rw [(List.mem_replicate.mp hz).2]
        omega
    have sC := sB.trans sm4
    have sC1 := sB1.trans sm4
    have L4 : SqL K H4 p4 (ds.map V.int) := .inl (.inl hp4)
    refine ⟨_, rfl, b, _, rfl, .inl (sC.seq hB), _, rfl, by omega, b62 (by rw [List.length_map]; omega), fun p5 np5 => ?_⟩
    rw [List.length_map, Int.toNat_natCast]
    refine lc_range (lo := 0) (n := bs.length) (fun i H5 => ∃ ys : List Int, ys.length = i ∧ (∀ y ∈ ys, y.natAbs ≤ mv) ∧ Same H4 H5 ∧ H5 p5 = some (.lst (ys.map V.int))) ⟨[], rfl, fun y hy => (by cases hy), same_upd np5, upd_same⟩ ?_ ?_
    · rintro i H5 hi ⟨ys, hyl, hyb, sm5, hp5⟩
      obtain ⟨d, gd, gda, gdb⟩ := hin.get (i := ws.length + i) (rep_get2 hi)
      refine ⟨rfl, tYes_of ?_⟩
      have hix : atI (ds.map V.int) (((ws.length : Nat) : Int) + ((0 : Int) + (i : Int))) = some (.int d) := by
        rw [show ((ws.length : Nat) : Int) + ((0 : Int) + (i : Int)) = ((ws.length + i : Nat) : Int) by omega]
        exact atI_nat gd
      refine ⟨_, rfl, _, rfl, p, _, rfl, .inl ((sC1.trans sm5).seq hS), _, rfl, _, _, rfl, rfl, p4, _, _, _, rfl, rfl, sm5.seq L4, hix, ?_⟩
      refine ⟨_, rfl, _, _, rfl, rfl, ?_⟩
      refine ⟨_, hp5, ?_, ys ++ [d - (mv : Int)], by rw [List.length_append, hyl]; rfl, fun y hy => ?_, same_mut sm5 np5, ?_⟩
      · rw [List.length_map]
        exact small1000 (by omega)
      · rcases List.mem_append.mp hy with hy | hy
        · exact hyb y hy
        · rw [List.mem_singleton.mp hy]
          omega
      · rw [upd_same, List.map_append]
        rfl
    rintro H5 ⟨ys, hyl, hyb, sm5, hp5⟩
    refine ⟨p5, _, rfl, .inl ⟨.inl (.inl hp5), fun bt nbt => ?_⟩⟩
    have sm6 := sm5.trans (same_upd (o := .tup (ys.map V.int)) nbt)
    have hbt : (upd H5 bt (.tup (ys.map V.int))) bt = some (.tup (ys.map V.int)) := upd_same
    generalize upd H5 bt (.tup (ys.map V.int)) = H6 at sm6 hbt ⊢
    have sD := sC.trans sm6
    have sD1 := sC1.trans sm6
    refine ⟨_, rfl, p, _, rfl, .inl (sD1.seq hS), _, rfl, by omega, b62 (by omega), fun p7 np7 => ?_⟩
    rw [Int.toNat_natCast]
    refine lc_range (lo := 0) (n := ws.length) (fun i H7 => ∃ (us : List V) (es : List Ent), es.length = i ∧ Same H6 H7 ∧ H7 p7 = some (.lst us) ∧ Ents H7 us es ∧ (∀ e ∈ es, e.1 ∈ ks) ∧ ∀ e ∈ es, e.2.natAbs ≤ rc) ⟨[], [], rfl, same_upd np7, upd_same, .nil, fun e he => (by cases he), fun e he => (by cases he)⟩ ?_ ?_
    · rintro i H7 hi ⟨us, es, hel, sm7, hp7, hU, hek, hen⟩
      obtain ⟨d, gd, gda, gdb⟩ := hin.get (i := i) (rep_get hi _)
      have hWs := hW.mono (sD1.trans sm7)
      obtain ⟨a, k, ea, hk, hak⟩ := hWs.get (List.getElem?_eq_getElem hi)
      have hix : atI ws ((0 : Int) + (i : Int)) = some (.ref a) := by
        rw [Int.zero_add, ← ea]
        exact atI_nat (List.getElem?_eq_getElem hi)
      have hid : atI (ds.map V.int) ((0 : Int) + (i : Int)) = some (.int d) := by
        rw [Int.zero_add]
        exact atI_nat gd
      refine ⟨rfl, tYes_of ?_⟩
      refine ⟨_, rfl, _, rfl, p, _, _, _, rfl, rfl, (sD1.trans sm7).seq hS, hix, _, rfl, _, rfl, p4, _, _, _, rfl, rfl, (sm6.trans sm7).seq L4, hid, _, rfl, _, _, rfl, rfl, (by show 2 ≤ sizeLine; decide), fun t nt => ?_⟩
      have smt : Same H7 (upd H7 t (.tup [.ref a, .int (d - (rc : Int))])) := same_upd nt
      have hv : EntAt (upd H7 t (.tup [.ref a, .int (d - (rc : Int))])) (.ref t) (k, d - (rc : Int)) := ⟨t, a, rfl, upd_same, smt _ _ hak⟩
      have hul := hU.len
      refine ⟨us, smt _ _ hp7, small1000 (by omega), us ++ [.ref t], es ++ [(k, d - (rc : Int))], by rw [List.length_append, hel]; rfl, same_mut (sm7.trans smt) np7, upd_same, ((hU.mono smt).app (.cons hv .nil)).updL (smt _ _ hp7), fun e he => ?_, fun e he => ?_⟩
      · rcases List.mem_append.mp he with he | he
        · exact hek e he
        · rw [List.mem_singleton.mp he]
          exact List.mem_of_getElem? hk
      · rcases List.mem_append.mp he with he | he
        · exact hen e he
        · rw [List.mem_singleton.mp he]
          show (d - (rc : Int)).natAbs ≤ rc
          omega
    rintro H7 ⟨us, es, hel, sm7, hp7, hU, hek, hen⟩
    have hel2 : es.length ≤ pr bs := by omega
    refine ⟨p7, us, es, rfl, ⟨.inl (.inl hp7), hU, small1000 (by omega)⟩, fun e he z => ?_, fun r p8 rws H8 hr sm8 np8 hp8 he8 => ?_⟩
    · have := hN.l e.1 (hek e he)
      rw [z] at this
      have h0 : (0 : Nat) = bs.length := this
      omega
    have hrl := hr.len
    have hrk : ∀ e ∈ r, e.1 ∈ ks := fun e he => by
      obtain ⟨x, hx, ex⟩ := hr.mem he
      rw [← ex]
      exact hek x hx
    have hrn := hr.bound hen
    have hle : ∀ e ∈ r, e.1.length ≤ ys.length := fun e he => by
      rw [hN.l _ (hrk e he), hyl]
      exact Nat.le_refl _
    refine ⟨_, rfl, p8, bt, rws, r, ys, rfl, ⟨.inl (.inl hp8), he8, small1000 (by omega)⟩, .inl (.inl ((sm7.trans sm8) _ _ hbt)), hle, by omega, fun p9 ws9 H9 sm9 np9 hp9 he9 => ?_⟩
    have sZ := sD.trans (sm7.trans sm8)
    refine q p9 ws9 (movL r ys) H9 (sZ.trans sm9) ?_ hp9 he9 ⟨movL_valid hr.v hle, ?_, fun e he => ?_, fun e he x hx => ?_, fun e he => ?_⟩ ⟨ys, hyl, fun e he => ?_⟩
    · cases z : H p9 with
      | none => rfl
      | some o =>
        rw [sZ _ _ z] at np9
        cases np9
    · unfold movL
      rw [List.length_map]
      omega
    · obtain ⟨y, hy, rfl⟩ := List.mem_map.mp he
      show (plusP y.1 ys).length = _
      rw [plusP_len (hle y hy)]
      exact hN.l _ (hrk y hy)
    · obtain ⟨y, hy, rfl⟩ := List.mem_map.mp he
      obtain ⟨a, ha, b2, hb2, rfl⟩ := plusP_mem hx
      have h1 := hN.c _ (hrk y hy) a ha
      have h2 := hyb b2 hb2
      omega
    · obtain ⟨y, hy, rfl⟩ := List.mem_map.mp he
      exact Nat.le_trans (hrn y hy) (Nat.mul_le_mul_right _ hel2)
    · obtain ⟨y, hy, rfl⟩ := List.mem_map.mp he
      exact (hN.b _ (hrk y hy)).mov (by rw [hN.l _ (hrk y hy), hyl]) (by rw [hyl]; exact Nat.le_refl _)
end
end OT

set_option Elab.async false
set_option linter.all false
set_option maxRecDepth 100000
set_option maxHeartbeats 2000000
namespace OT
open PySem PySem.Spec PyProof.Rows L2
def negP (k : Pl) : Pl := k.map fun x => -x
theorem negP_len (k : Pl) : (negP k).length = k.length := List.length_map _
def scaleL (es : List Ent) (f : Int) : List Ent := es.map fun e => (e.1, e.2 * f)
def mirL (es : List Ent) : List Ent := es.map fun e => (negP e.1, e.2)
section
variable {P : Program} {w : World} {K : PySem.W.Frag} {mg : Str → Option Value} {base : Heap}
def spBack (K : PySem.W.Frag) : Sp := fun vs H Q _ => ∃ (a : Addr) (ns : Pl), vs = [.ref a] ∧ SqT K H a (ns.map V.int) ∧ ns.length ≤ 1000 ∧ ∀ p H', Same H H' → H' p = some (.tup ((negP ns).map V.int)) → Q (.ref p) H'
theorem c__law_back {f : Addr} {fd : FuncData} (D : C8.Def K mg "_law_back" s__law_back f fd) (b : Binds K fd ["_law_place"] []) (T : Bi mg) : C8.Cal P w K mg base 1 "_law_back" (spBack K) [] := by
  refine C8.cal0 D b .nil sc__law_back (fun vs H Q E h => ?_) (fun cdv A outer s H vs Q E hr h => ?_)
  · obtain ⟨a, ns, rfl, _⟩ := h
    rfl
  · obtain ⟨a, ns, rfl, hS, hl, q⟩ := h
    refine ⟨_, (pss_one (ps_ret (pe_callTy call_tuple_of (by rfl) T.n_tuple OT.b_tuple (pa_cons (pe_lc (own := [("_law_x", 1)]) (g := (gName 1)) (tt := tYes) rfl sc__law_back.nd (pi_tup (pv 0)) (blkOk_by (N := ["_law_place", "_law_x"]) (sc := C8.fnScope s__law_back) (by decide +kernel)) (fun _ _ _ _ _ => (pg_name (i := 1) sc__law_back.nd rfl (Or.inl rfl))) (fun _ _ _ _ _ => pts_nil) (fun _ _ _ _ _ => (pe_un un_neg (pv 1)))) pa_nil)))), ?_⟩
    refine ⟨_, rfl, a, rfl, ⟨_, hS⟩, fun p np => ?_⟩
    refine lc_tup (K := K) (xs := ns.map V.int) (fun i H2 => Same H H2 ∧ H2 p = some (.lst ((ns.take i).map fun n => V.int (-n)))) ?_ ?_ ?_ ?_
    · exact ⟨same_upd np, upd_same⟩
    · rintro i H2 _ ⟨sm, _⟩
      exact same_t sm hS
    · rintro i x H2 hx ⟨sm, hp⟩
      obtain ⟨hi, rfl⟩ := getm hx
      refine ⟨rfl, tYes_of ?_⟩
      refine ⟨_, rfl, _, rfl, _, hp, ?_, same_mut sm np, ?_⟩
      · rw [List.length_map, List.length_take]
        exact small1000 (by omega)
      · rw [upd_same, take_map_succ (fun n => V.int (-n)) hi]
    · rintro H2 ⟨sm, hp⟩
      rw [List.length_map, List.take_length] at hp
      refine ⟨p, _, rfl, .inl ⟨.inl (.inl hp), fun l nl => ?_⟩⟩
      refine q l _ (sm.trans (same_upd nl)) ?_
      rw [upd_same]
      unfold negP
      rw [List.map_map]
      rfl
/-- a list of entries of places that are not empty -/
structure Lst (H : Hp) (a : Addr) (xs : List V) (es : List Ent) : Prop where
  l : H a = some (.lst xs)
  e : Ents H xs es
  z : es.length ≤ 1000
  p : ∀ e ∈ es, e.1 ≠ []
theorem Lst.mono {H H' : Hp} {a : Addr} {xs : List V} {es : List Ent} (s : Same H H') (h : Lst H a xs es) : Lst H' a xs es := ⟨s _ _ h.l, h.e.mono s, h.z, h.p⟩
theorem wantRow.mono {H H2 : Hp} {es : List Ent} {Q : VK} (sm : Same H H2) (q : wantRow H es Q) : wantRow H2 es Q := by
  intro r p ws H3 hr sm3 np hp he
  refine q r p ws H3 hr (sm.trans sm3) ?_ hp he
  cases z : H p with
  | none => rfl
  | some o =>
    rw [sm _ _ z] at np
    cases np
def spAdd : Sp := fun vs H Q _ => ∃ (a b : Addr) (xs ys : List V) (es fs : List Ent), vs = [.ref a, .ref b] ∧ Lst H a xs es ∧ Lst H b ys fs ∧ wantRow H (es ++ fs) Q
theorem c__law_add {f : Addr} {fd : FuncData} (D : C8.Def K mg "_law_add" s__law_add f fd) (b : Binds K fd ["_law_first", "_law_second"] []) (T : Bi mg) (c__law_row : C8.Cal P w K mg base 1 "_law_row" (spGather K) []) : C8.Cal P w K mg base 2 "_law_add" spAdd [] := by
  refine C8.cal0 D b .nil sc__law_add (fun vs H Q E h => ?_) (fun cdv A outer s H vs Q E hr h => ?_)
  · obtain ⟨a, b, xs, ys, es, fs, rfl, _⟩ := h
    rfl
  · obtain ⟨a, b, xs, ys, es, fs, rfl, hA, hB, q⟩ := h
    refine ⟨_, (pss_one (ps_ret (C8.pe_c c__law_row hr (by decide) (by rfl) (pa_cons (pe_op op_cat (pv 0) (pv 1)) pa_nil)))), ?_⟩
    have h1 := hA.e.len
    have h2 := hB.e.len
    have z1 := hA.z
    have z2 := hB.z
    refine ⟨_, rfl, _, rfl, a, b, _, _, rfl, rfl, hA.l, hB.l, Nat.le_of_lt (small100k (by omega)), fun p np => ?_⟩
    have s1 : Same H (upd H p (.lst (xs ++ ys))) := same_upd np
    refine ⟨p, xs ++ ys, es ++ fs, rfl, ⟨.inl (.inl upd_same), (hA.e.app hB.e).mono s1, by rw [List.length_append]; exact small100k (by omega)⟩, fun e he => ?_, q.mono s1⟩
    rcases List.mem_append.mp he with he | he
    · exact hA.p e he
    · exact hB.p e he
def spScaled : Sp := fun vs H Q _ => ∃ (a : Addr) (xs : List V) (es : List Ent) (m : Int), vs = [.ref a, .int m] ∧ Lst H a xs es ∧ (-(2 ^ 64) < m ∧ m < 2 ^ 64) ∧ wantRow H (scaleL es m) Q
theorem take_snoc {es : List Ent} {i : Nat} {e : Ent} (h : es[i]? = some e) : es.take (i + 1) = es.take i ++ [e] := by
  rw [List.take_add_one, h]
  rfl
theorem c__law_scaled {f : Addr} {fd : FuncData} (D : C8.Def K mg "_law_scaled" s__law_scaled f fd) (b : Binds K fd ["_law_row_here", "_law_factor"] []) (T : Bi mg) (c__law_row : C8.Cal P w K mg base 1 "_law_row" (spGather K) []) : C8.Cal P w K mg base 2 "_law_scaled" spScaled [] := by
  refine C8.cal0 D b .nil sc__law_scaled (fun vs H Q E h => ?_) (fun cdv A outer s H vs Q E hr h => ?_)
  · obtain ⟨a, xs, es, m, rfl, _⟩ := h
    rfl
  · obtain ⟨a, xs, es, m, rfl, hA, hm, q⟩ := h
    refine ⟨_, (pss_one (ps_ret (C8.pe_c c__law_row hr (by decide) (by rfl) (pa_cons (pe_lc (own := [("_law_entry", 2)]) (g := (gName 2)) (tt := tYes) rfl sc__law_scaled.nd (pi_list (pv 0)) (blkOk_by (N := ["_law_row_here", "_law_factor", "_law_entry"]) (sc := C8.fnScope s__law_scaled) (by decide +kernel)) (fun _ _ _ _ _ => (pg_name (i := 2) sc__law_scaled.nd rfl (Or.inl rfl))) (fun _ _ _ _ _ => pts_nil) (fun _ _ _ _ _ => (pe_tup (pa_cons (pe_ix (show IxR _ (rIxT K) from ix_tup) (pv 2) pe_int (fun _ _ => rfl)) (pa_cons (pe_op op_mul (pe_ix (show IxR _ (rIxT K) from ix_tup) (pv 2) pe_int (fun _ _ => rfl)) (pv 1)) pa_nil))))) pa_nil)))), ?_⟩
    have hS : SqL K H a xs := .inl (.inl hA.l)
    have hx := hA.e.len
    have hz := hA.z
    refine ⟨_, rfl, a, rfl, ⟨_, hS⟩, fun p np => ?_⟩
    refine lc_list (K := K) (xs := xs) (fun i H2 => Same H H2 ∧ ∃ ws, H2 p = some (.lst ws) ∧ Ents H2 ws (scaleL (es.take i) m)) ?_ ?_ ?_ ?_
    · exact ⟨same_upd np, [], upd_same, .nil⟩
    · rintro i H2 _ ⟨sm, _⟩
      exact sm.seq hS
    · rintro i x H2 hxi ⟨sm, ws, hp, hW⟩
      obtain ⟨e, he, t, pe, rfl, ht, hpe⟩ := (hA.e.mono sm).get hxi
      obtain ⟨hi, hee⟩ := List.getElem?_eq_some_iff.mp he
      have hT : SqT K H2 t [.ref pe, .int e.2] := .inl (.inl ht)
      refine ⟨rfl, tYes_of ?_⟩
      refine ⟨_, rfl, t, _, 0, _, rfl, rfl, hT, atI_nat (j := 0) rfl, _, rfl, t, _, 1, _, rfl, rfl, hT, atI_nat (j := 1) rfl, _, rfl, _, _, rfl, rfl, .inr hm, (by show 2 ≤ sizeLine; decide), fun t4 nt4 => ?_⟩
      have sm4 : Same H2 (upd H2 t4 (.tup [.ref pe, .int (e.2 * m)])) := same_upd nt4
      have hv : EntAt (upd H2 t4 (.tup [.ref pe, .int (e.2 * m)])) (.ref t4) (e.1, e.2 * m) := ⟨t4, pe, rfl, upd_same, sm4 _ _ hpe⟩
      have hD := sm4 _ _ hp
      have hwl := hW.len
      refine ⟨ws, hD, ?_, same_mut (sm.trans sm4) np, ws ++ [.ref t4], upd_same, ?_⟩
      · unfold scaleL at hwl
        rw [List.length_map, List.length_take] at hwl
        exact small100k (by omega)
      · unfold scaleL
        rw [take_snoc he, List.map_append]
        exact ((hW.mono sm4).app (.cons hv .nil)).updL hD
    · rintro H2 ⟨sm, ws, hp, hW⟩
      rw [hx, List.take_length] at hW
      refine ⟨p, ws, scaleL es m, rfl, ⟨.inl (.inl hp), hW, by unfold scaleL; rw [List.length_map]; exact small100k (by omega)⟩, fun e he => ?_, q.mono sm⟩
      obtain ⟨y, hy, rfl⟩ := List.mem_map.mp he
      exact hA.p y hy
def spMir : Sp := fun vs H Q _ => ∃ (a : Addr) (xs : List V) (es : List Ent), vs = [.ref a] ∧ Lst H a xs es ∧ (∀ e ∈ es, e.1.length ≤ 1000) ∧ wantRow H (mirL es) Q
theorem c__law_mirror {f : Addr} {fd : FuncData} (D : C8.Def K mg "_law_mirror" s__law_mirror f fd) (b : Binds K fd ["_law_row_here"] []) (T : Bi mg) (c__law_row : C8.Cal P w K mg base 1 "_law_row" (spGather K) []) (c__law_back : C8.Cal P w K mg base 1 "_law_back" (spBack K) []) : C8.Cal P w K mg base 2 "_law_mirror" spMir [] := by
  refine C8.cal0 D b .nil sc__law_mirror (fun vs H Q E h => ?_) (fun cdv A outer s H vs Q E hr h => ?_)
  · obtain ⟨a, xs, es, rfl, _⟩ := h
    rfl
  · obtain ⟨a, xs, es, rfl, hA, hle, q⟩ := h
    refine ⟨_, (pss_one (ps_ret (C8.pe_c c__law_row hr (by decide) (by rfl) (pa_cons (pe_lc (own := [("_law_entry", 1)]) (g := (gName 1)) (tt := tYes) rfl sc__law_mirror.nd (pi_list (pv 0)) (blkOk_by (N := ["_law_row_here", "_law_entry"]) (sc := C8.fnScope s__law_mirror) (by decide +kernel)) (fun _ _ _ _ _ => (pg_name (i := 1) sc__law_mirror.nd rfl (Or.inl rfl))) (fun _ _ _ _ _ => pts_nil) (fun _ _ _ _ _ => (pe_tup (pa_cons (C8.pe_c c__law_back hr (by decide) (by rfl) (pa_cons (pe_ix (show IxR _ (rIxT K) from ix_tup) (pv 1) pe_int (fun _ _ => rfl)) pa_nil)) (pa_cons (pe_ix (show IxR _ (rIxT K) from ix_tup) (pv 1) pe_int (fun _ _ => rfl)) pa_nil))))) pa_nil)))), ?_⟩
    have hS : SqL K H a xs := .inl (.inl hA.l)
    have hx := hA.e.len
    have hz := hA.z
    refine ⟨_, rfl, a, rfl, ⟨_, hS⟩, fun p np => ?_⟩
    refine lc_list (K := K) (xs := xs) (fun i H2 => Same H H2 ∧ ∃ ws, H2 p = some (.lst ws) ∧ Ents H2 ws (mirL (es.take i))) ?_ ?_ ?_ ?_
    · exact ⟨same_upd np, [], upd_same, .nil⟩
    · rintro i H2 _ ⟨sm, _⟩
      exact sm.seq hS
    · rintro i x H2 hxi ⟨sm, ws, hp, hW⟩
      obtain ⟨e, he, t, pe, rfl, ht, hpe⟩ := (hA.e.mono sm).get hxi
      obtain ⟨hi, hee⟩ := List.getElem?_eq_some_iff.mp he
      have hm := List.mem_of_getElem? he
      have hT : SqT K H2 t [.ref pe, .int e.2] := .inl (.inl ht)
      refine ⟨rfl, tYes_of ?_⟩
      refine ⟨_, rfl, t, _, 0, _, rfl, rfl, hT, atI_nat (j := 0) rfl, pe, e.1, rfl, .inl (.inl hpe), hle e hm, fun p3 H3 sm3 hp3 => ?_⟩
      refine ⟨_, rfl, t, _, 1, _, rfl, rfl, same_t sm3 hT, atI_nat (j := 1) rfl, (by show 2 ≤ sizeLine; decide), fun t4 nt4 => ?_⟩
      have sm4 : Same H3 (upd H3 t4 (.tup [.ref p3, .int e.2])) := same_upd nt4
      have smA := sm3.trans sm4
      have hv : EntAt (upd H3 t4 (.tup [.ref p3, .int e.2])) (.ref t4) (negP e.1, e.2) := ⟨t4, p3, rfl, upd_same, sm4 _ _ hp3⟩
      have hD := smA _ _ hp
      have hwl := hW.len
      refine ⟨ws, hD, ?_, same_mut (sm.trans smA) np, ws ++ [.ref t4], upd_same, ?_⟩
      · unfold mirL at hwl
        rw [List.length_map, List.length_take] at hwl
        exact small100k (by omega)
      · unfold mirL
        rw [take_snoc he, List.map_append]
        exact ((hW.mono smA).app (.cons hv .nil)).updL hD
    · rintro H2 ⟨sm, ws, hp, hW⟩
      rw [hx, List.take_length] at hW
      refine ⟨p, ws, mirL es, rfl, ⟨.inl (.inl hp), hW, by unfold mirL; rw [List.length_map]; exact small100k (by omega)⟩, fun e he z => ?_, q.mono sm⟩
      obtain ⟨y, hy, rfl⟩ := List.mem_map.mp he
      have z2 : (negP y.1).length = 0 := by
        have z3 : negP y.1 = [] := z
        rw [z3]
        rfl
      rw [negP_len] at z2
      exact hA.p y hy (List.length_eq_zero_iff.mp z2)
end
end OT

set_option Elab.async false
set_option linter.all false
set_option maxRecDepth 100000
set_option maxHeartbeats 2000000
namespace OT
open PySem PySem.Spec PyProof.Rows L2
theorem walk_zipT' {K : PySem.W.Frag} {a b : Addr} {xs ys : List V} : Walk (RZ.ItzT K a b) (min xs.length ys.length) (fun H => SqT K H a xs ∧ SqT K H b ys) (YPair (fun i => xs[i]?) (fun i => ys[i]?)) := by
  refine ⟨fun i _ hi q => ?_, fun _ q => ⟨xs, ys, q.1, q.2, by omega⟩, fun i H v H' _ q y => ?_⟩
  · exact ⟨xs, ys, xs[i]'(by omega), ys[i]'(by omega), q.1, q.2, List.getElem?_eq_getElem _, List.getElem?_eq_getElem _⟩
  · obtain ⟨t, x, z, e, n, h, k1, k2⟩ := y
    exact ⟨t, x, z, e, n, h, k1 xs q.1, k2 ys q.2⟩
section
variable {P : Program} {w : World} {K : PySem.W.Frag} {mg : Str → Option Value} {base : Heap}
/-- the entries times a factor; none, if it is 0 -/
def scaleP (es : List Ent) (f : Int) : List Ent := if f = 0 then [] else scaleL es f
theorem scaleP_valid {es : List Ent} {f : Int} (h : Valid es) : Valid (scaleP es f) := by
  unfold scaleP
  by_cases z : f = 0
  · rw [if_pos z]
    exact ⟨.nil, fun e he => by cases he⟩
  · rw [if_neg z]
    refine ⟨?_, fun e he => ?_⟩
    · unfold scaleL
      rw [List.pairwise_map]
      exact h.asc
    · obtain ⟨y, hy, rfl⟩ := List.mem_map.mp he
      exact fun c => (Int.mul_eq_zero.mp c).elim (h.nz y hy) z
theorem scaleL_sum (es : List Ent) (f : Int) (q : Pl) : numAt (scaleL es f) q = numAt es q * f := by
  induction es with
  | nil =>
    show (0 : Int) = 0 * f
    rw [Int.zero_mul]
  | cons e r ih =>
    show (if e.1 = q then e.2 * f else 0) + numAt (scaleL r f) q = ((if e.1 = q then e.2 else 0) + numAt r q) * f
    rw [ih, Int.add_mul]
    by_cases c : e.1 = q
    · rw [if_pos c, if_pos c]
    · rw [if_neg c, if_neg c, Int.zero_mul]
theorem scaleP_is {es : List Ent} {f : Int} (h : Valid es) : RowIs (scaleP es f) (scaleL es f) := by
  refine ⟨scaleP_valid h, fun q => ?_⟩
  unfold scaleP
  by_cases z : f = 0
  · rw [if_pos z, scaleL_sum, z, Int.mul_zero]
    rfl
  · rw [if_neg z]
end
end OT

set_option Elab.async false
set_option linter.all false
set_option maxRecDepth 100000
set_option maxHeartbeats 2000000
namespace OT
open PySem PySem.Spec PyProof.Rows L2
/-! mirrors and normal rows: the program's road and the law's lead to the same row -/
theorem RowIs.self {r : List Ent} (h : Valid r) : RowIs r r := ⟨h, fun _ => rfl⟩
theorem negP_lt : ∀ {a b : Pl}, a.length = b.length → HT.lexLt (negP b) (negP a) = HT.lexLt a b
  | [], [], _ => rfl
  | x :: a, y :: b, h => by
    show (if -y = -x then HT.lexLt (negP b) (negP a) else decide (-y < -x)) = if x = y then HT.lexLt a b else decide (x < y)
    rw [negP_lt (Nat.succ.inj h)]
    by_cases e : x = y
    · rw [if_pos e, if_pos (by rw [e])]
    · rw [if_neg e, if_neg (by omega)]
      by_cases c : x < y
      · rw [decide_eq_true c, decide_eq_true (by omega)]
      · rw [decide_eq_false c, decide_eq_false (by omega)]
theorem numAt_rev (es : List Ent) (q : Pl) : numAt es.reverse q = numAt es q := by
  induction es with
  | nil => rfl
  | cons e r ih =>
    rw [List.reverse_cons, numAt_app, ih]
    show numAt r q + ((if e.1 = q then e.2 else 0) + 0) = (if e.1 = q then e.2 else 0) + numAt r q
    omega
/-- the program's mirror -/
def mirP (es : List Ent) : List Ent := es.reverse.map fun e => (negP e.1, e.2)
theorem mirP_valid {es : List Ent} {n : Nat} (h : Valid es) (hn : ∀ e ∈ es, e.1.length = n) : Valid (mirP es) := by
  unfold mirP
  refine ⟨?_, fun e he => ?_⟩
  · rw [List.pairwise_map, List.pairwise_reverse]
    refine List.Pairwise.imp_of_mem (fun {x y} hx hy q => ?_) h.asc
    rw [negP_lt ((hn x hx).trans (hn y hy).symm)]
    exact q
  · obtain ⟨y, hy, rfl⟩ := List.mem_map.mp he
    exact h.nz y (List.mem_reverse.mp hy)
theorem mirP_is {es : List Ent} {n : Nat} (h : Valid es) (hn : ∀ e ∈ es, e.1.length = n) : RowIs (mirP es) (mirL es) := by
  refine ⟨mirP_valid h hn, fun q => ?_⟩
  have e : mirP es = (mirL es).reverse := by
    unfold mirP mirL
    rw [List.map_reverse]
  rw [e, numAt_rev]
theorem mov_scale (es : List Ent) (c : Pl) (s : Int) : movL (scaleL es s) c = scaleL (movL es c) s := by
  unfold movL scaleL
  rw [List.map_map, List.map_map]
  rfl
/-- a row times a unit: valid, told by its entries -/
theorem unit_is {es : List Ent} {c : Pl} {s : Int} (h : Valid es) (hl : ∀ e ∈ es, e.1.length ≤ c.length) (hs : s ≠ 0) : RowIs (movL (scaleP es s) c) (scaleL (movL es c) s) := by
  have e : scaleP es s = scaleL es s := by
    unfold scaleP
    exact if_neg hs
  rw [e, mov_scale]
  refine RowIs.self ?_
  have hm := movL_valid h hl
  have := scaleP_valid (f := s) hm
  unfold scaleP at this
  rw [if_neg hs] at this
  exact this
/-- the dimension of a row -/
def dimE : List Ent → Nat
  | [] => 0
  | e :: _ => e.1.length
section
variable {P : Program} {w : World} {K : PySem.W.Frag} {mg : Str → Option Value} {base : Heap}
def spPLen (K : PySem.W.Frag) : Sp := fun vs H Q _ => ∃ (a : Addr) (xs : List V) (es : List Ent), vs = [.ref a] ∧ SqL K H a xs ∧ Ents H xs es ∧ Q (.int (dimE es : Nat)) H
theorem c_places_length {f : Addr} {fd : FuncData} (D : C8.Def K mg "places_length" s_places_length f fd) (b : Binds K fd ["row"] []) (T : Bi mg) : C8.Cal P w K mg base 1 "places_length" (spPLen K) [] := by
  refine C8.cal0 D b .nil sc_places_length (fun vs H Q E h => ?_) (fun cdv A outer s H vs Q E hr h => ?_)
  · obtain ⟨a, xs, es, rfl, _⟩ := h
    rfl
  · obtain ⟨a, xs, es, rfl, hS, hE, q⟩ := h
    refine ⟨_, (pss_one (ps_ret (pe_ifExp (pt_truth (pv 0) (by intro _; rfl)) (pe_callB call_len_seq (by rfl) T.n_len OT.b_len (pa_cons (pe_ix ix_tup (pe_ix ix_list (pv 0) pe_int (fun _ _ => rfl)) pe_int (fun _ _ => rfl)) pa_nil)) pe_int))), ?_⟩
    refine ⟨_, rfl, _, .inl ⟨xs, hS, rfl⟩, ?_⟩
    cases hE with
    | nil =>
      refine iteF ?_
      exact q
    | cons h1 h2 =>
      rename_i v e vs es
      obtain ⟨t, p, rfl, ht, hp⟩ := h1
      refine iteT ?_
      refine ⟨_, rfl, a, _, 0, _, rfl, rfl, hS, atI_nat (j := 0) rfl, t, _, 0, _, rfl, rfl, .inl (.inl ht), atI_nat (j := 0) rfl, p, _, rfl, .inr (.inl (.inl hp)), ?_⟩
      rw [List.length_map]
      exact q
end
end OT

set_option Elab.async false
set_option linter.all false
set_option maxRecDepth 100000
set_option maxHeartbeats 2000000
namespace OT
open PySem PySem.Spec PyProof.Rows L2
/-- some length is another than the first one -/
def mixL (ns : List Int) : Bool := (ns.map fun m => !decide (V.int m = V.int (ns.headD 0))).any id
def nz (n : Int) : Bool := decide (n ≠ 0)
section
variable {P : Program} {w : World} {K : PySem.W.Frag} {mg : Str → Option Value} {base : Heap}
/-! ### the errors' own __init__ -/
theorem ok_te {f : Addr} {fd : FuncData} (F : C8.Fun K "__init__" "TableError.__init__" s_TableError___init__ f fd) : FnOk P w K mg base L2.CX0 1 f fd ["self"] (spTE K) := by
  refine C8.fn0 F sc_TableError___init__ (fun vs H Q E h => ?_) (fun cdv A outer s H vs Q E hr h => ?_)
  · obtain ⟨a, C, nm, rfl, _⟩ := h
    rfl
  · obtain ⟨a, C, nm, rfl, ha, T, k⟩ := h
    refine ⟨_, pss_one (ps_ost (pv 0) (pe_otname (pv 0))), ?_⟩
    exact ⟨_, rfl, a, C, nm, rfl, ha, T.oc, T.on, _, rfl, a, C, rfl, T.ox, T.nw, Or.inl ⟨ha, fun d nd ne => k d nd ne⟩⟩
/-- what is known of an error of a class that tells an index -/
structure ErrI (K : PySem.W.Frag) (mg : Str → Option Value) (nm : Str) (C fI : Addr) : Prop where
  g : mg nm = some (.ref C)
  t : OtErr K C nm
  i : PySem.W.findIn K (.ref C) "__init__" = some (some (.ref fI))
  ty : PySem.W.typeIn K (.ref fI) = some (.type "function")
def errM : List (Str × V) := [("word", .str "MixedDimensions")]
def spSL (K : PySem.W.Frag) (M : Addr) : Sp := fun vs H Q E => ∃ (a : Addr) (ns : List Int), vs = [.ref a] ∧ SqL K H a (ns.map V.int) ∧ ns.length ≤ 100000 ∧
  (mixL (ns.filter nz) = true → ∀ d H', Same H H' → H' d = some (.xd errM) → E (.ref M) (some d) H') ∧ (mixL (ns.filter nz) = false → ∀ H', Same H H' → Q .non H')
theorem ok_same_lengths {f M fB : Addr} {fd fdB : FuncData} (D : C8.Def K mg "same_lengths" s_same_lengths f fd) (T : Bi mg) (X : ErrI K mg "MixedDimensions" M fB) (GB : FnOk P w K mg base L2.CX0 1 fB fdB ["self"] (spTE K)) (bB : Binds K fdB ["self"] []) :
    FnOk P w K mg base (L2.CX P w) 3 f fd ["lengths"] (spSL K M) := by
  obtain ⟨oc, od, dV, kV, doc, pm, an, cdv, ct, osl, rfl, lk, hcd⟩ := D.fn.ex
  refine fn_of lk hcd sc_same_lengths (fun vs H Q E h => ?_) fun A outer s H vs Q E hr h => ?_
  · obtain ⟨a, ns, rfl, _⟩ := h
    rfl
  · obtain ⟨a, ns, rfl, hS, hz, qE, qN⟩ := h
    refine ⟨_, (pss_cons (ps_set (i := 1) sc_same_lengths.nd rfl (Or.inr rfl) (pe_lc (own := [("length", 2)]) (g := (gName 2)) rfl sc_same_lengths.nd (pi_list (pv 0)) (blkOk_by (N := ["lengths", "known", "length"]) (sc := C8.fnScope s_same_lengths) (by decide +kernel)) (fun _ _ _ _ _ => (pg_name (i := 2) sc_same_lengths.nd rfl (Or.inl rfl))) (fun _ _ _ _ _ => (pts_one (pt_cmpR op_ne (pv 2) pe_int (nomark _)))) (fun _ _ _ _ _ => (pv 2))))
  (pss_one (ps_if (pt_val (pe_callB (cr_any rfl) (by rfl) T.n_any OT.b_any (pa_cons (pe_lc (own := [("length", 2)]) (g := (gName 2)) (tt := tYes) rfl sc_same_lengths.nd (pi_list (pv 1)) (blkOk_by (N := ["lengths", "known", "length"]) (sc := C8.fnScope s_same_lengths) (by decide +kernel)) (fun _ _ _ _ _ => (pg_name (i := 2) sc_same_lengths.nd rfl (Or.inl rfl))) (fun _ _ _ _ _ => pts_nil) (fun _ _ _ _ _ => (pe_cmpR op_ne (pv 2) (pe_ix (show IxR _ (rIxL K) from ix_list) (pv 1) pe_int (fun _ _ => rfl)) (nomark _)))) pa_nil))) (pss_one (ps_raise rfl (takes_of rfl rfl rfl rfl) (pmk_oex0 X.t.ox X.i X.ty GB hr bB pass0 (by rfl) X.g))) pss_nil))), ?_⟩
    refine ⟨_, rfl, a, rfl, ⟨_, hS⟩, fun p np => ?_⟩
    refine lc_list (K := K) (xs := ns.map V.int) (fun i H2 => Same H H2 ∧ H2 p = some (.lst (((ns.take i).filter nz).map V.int))) ?_ ?_ ?_ ?_
    · exact ⟨same_upd np, upd_same⟩
    · rintro i H2 _ ⟨sm, _⟩
      exact sm.seq hS
    · rintro i x H2 hx ⟨sm, hp⟩
      obtain ⟨hi, rfl⟩ := getm hx
      have htk : (ns.take (i + 1)).filter nz = (ns.take i).filter nz ++ (if nz ns[i] = true then [ns[i]] else []) := by
        rw [List.take_add_one, List.getElem?_eq_getElem hi, List.filter_append]
        show _ ++ (match nz ns[i] with | true => [ns[i]] | false => []) = _
        cases nz ns[i] <;> rfl
      refine ⟨rfl, _, rfl, rfl, _, rfl, iteND (fun hn => ?_) (fun h0 => ?_)⟩
      · have hnz : nz ns[i] = true := decide_eq_true fun z => hn (by rw [z])
        rw [htk, if_pos hnz]
        refine ⟨_, rfl, _, hp, ?_, same_mut sm np, ?_⟩
        · rw [List.length_map]
          have h1 := List.length_filter_le nz (ns.take i)
          rw [List.length_take] at h1
          exact Nat.lt_of_le_of_lt (show _ ≤ 100000 by omega) (by decide)
        · rw [upd_same, List.map_append]
          rfl
      · have hnz : ¬ nz ns[i] = true := fun z => of_decide_eq_true z (V.int.inj h0)
        rw [htk, if_neg hnz, List.append_nil]
        exact ⟨sm, hp⟩
    · rintro H2 ⟨sm, hp⟩
      rw [List.length_map, List.take_length] at hp
      have hz : (ns.filter nz).length ≤ 100000 := Nat.le_trans (List.length_filter_le _ _) hz
      generalize ns.filter nz = ns at hp hz qE qN
      have hP : SqL K H2 p (ns.map V.int) := .inl (.inl hp)
      refine ⟨_, rfl, p, rfl, ⟨_, hP⟩, fun p2 np2 => ?_⟩
      refine lc_list (K := K) (xs := ns.map V.int) (fun i H3 => Same H2 H3 ∧ H3 p2 = some (.lst ((ns.take i).map fun m => V.bl (!decide (V.int m = V.int (ns.headD 0)))))) ?_ ?_ ?_ ?_
      · exact ⟨same_upd np2, upd_same⟩
      · rintro i H3 _ ⟨sm3, _⟩
        exact sm3.seq hP
      · rintro i x H3 hx ⟨sm3, hp3⟩
        obtain ⟨hi, rfl⟩ := getm hx
        have h0 : (ns.map V.int)[0]? = some (.int (ns.headD 0)) := by
          cases ns with
          | nil => exact absurd hi (Nat.not_lt_zero _)
          | cons n r => rfl
        refine ⟨rfl, tYes_of ?_⟩
        refine ⟨_, rfl, _, rfl, p, _, 0, _, rfl, rfl, sm3.seq hP, atI_nat (j := 0) h0, rfl, _, hp3, ?_, same_mut sm3 np2, ?_⟩
        · rw [List.length_map, List.length_take]
          exact Nat.lt_of_le_of_lt (show min i ns.length ≤ 100000 by omega) (by decide)
        · rw [upd_same, take_map_succ (fun m => V.bl (!decide (V.int m = V.int (ns.headD 0)))) hi]
      · rintro H3 ⟨sm3, hp3⟩
        rw [List.length_map, List.take_length] at hp3
        have sA := sm.trans sm3
        refine ⟨p2, ns.map fun m => !decide (V.int m = V.int (ns.headD 0)), rfl, .inl (.inl ?_), _, rfl, ?_⟩
        · rw [hp3, List.map_map]
          rfl
        show if mixL ns = true then _ else _
        cases e : mixL ns with
        | true =>
          refine iteT ?_
          refine ⟨(by show 0 ≤ 1000; decide), fun a na => ⟨a, M, _, rfl, upd_same, X.t, fun d nd ne => ?_⟩⟩
          have nd3 : H3 d = none := by
            rw [upd_ne ne] at nd
            exact nd
          refine ⟨rfl, d, _, upd_same, ?_, nd3, qE e d _ ?_ upd_same⟩
          · rw [upd_ne ne, upd_same]
            rfl
          · intro b o hb
            have hb2 := sA b o hb
            have nba : b ≠ a := ne_of_none hb2 na
            have nbd : b ≠ d := ne_of_none hb2 nd3
            rw [upd_ne nbd, del_ne nba, upd_ne nba, upd_ne nbd, upd_ne nba]
            exact hb2
        | false =>
          refine iteF ?_
          exact qN e H3 sA
end
end OT

set_option Elab.async false
set_option linter.all false
set_option maxRecDepth 100000
set_option maxHeartbeats 2000000
namespace OT
open PySem PySem.Spec PyProof.Rows L2
/-- rows at addresses, in turn -/
inductive RowsAt (H : Hp) : List V → List (List Ent) → Prop
  | nil : RowsAt H [] []
  | cons {a : Addr} {xs : List V} {es : List Ent} {vs : List V} {ess : List (List Ent)} : H a = some (.lst xs) → Ents H xs es → RowsAt H vs ess → RowsAt H (.ref a :: vs) (es :: ess)
theorem RowsAt.len {H : Hp} {vs : List V} {ess : List (List Ent)} (h : RowsAt H vs ess) : vs.length = ess.length := by
  induction h with
  | nil => rfl
  | cons _ _ _ ih => rw [List.length_cons, List.length_cons, ih]
theorem RowsAt.mono {H H' : Hp} {vs : List V} {ess : List (List Ent)} (s : ∀ b o, H b = some o → H' b = some o) (h : RowsAt H vs ess) : RowsAt H' vs ess := by
  induction h with
  | nil => exact .nil
  | cons h1 h2 _ ih => exact .cons (s _ _ h1) (h2.mono s) ih
theorem RowsAt.get {H : Hp} {vs : List V} {ess : List (List Ent)} (h : RowsAt H vs ess) : ∀ {i : Nat} {v : V}, vs[i]? = some v → ∃ a xs es, v = .ref a ∧ ess[i]? = some es ∧ H a = some (.lst xs) ∧ Ents H xs es := by
  induction h with
  | nil => intro i v h; simp at h
  | cons h1 h2 _ ih =>
    intro i v hv
    cases i with
    | zero =>
      cases hv
      exact ⟨_, _, _, rfl, rfl, h1, h2⟩
    | succ i => exact ih (i := i) hv
def dims (ess : List (List Ent)) : List Int := ess.map fun es => ((dimE es : Nat) : Int)
def plens (ks : List Pl) : List Int := ks.map fun k => (k.length : Int)
theorem dims_snoc {ess : List (List Ent)} {i : Nat} {es : List Ent} (h : ess[i]? = some es) : (dims (ess.take (i + 1))).map V.int = (dims (ess.take i)).map V.int ++ [V.int ((dimE es : Nat) : Int)] := by
  rw [List.take_add_one, h]
  unfold dims
  rw [List.map_append, List.map_append]
  rfl
theorem plens_snoc {ks : List Pl} {i : Nat} {k : Pl} (h : ks[i]? = some k) : (plens (ks.take (i + 1))).map V.int = (plens (ks.take i)).map V.int ++ [V.int (k.length : Int)] := by
  rw [List.take_add_one, h]
  unfold plens
  rw [List.map_append, List.map_append]
  rfl
section
variable {P : Program} {w : World} {K : PySem.W.Frag} {mg : Str → Option Value} {base : Heap}
def spSD (K : PySem.W.Frag) (M : Addr) : Sp := fun vs H Q E => ∃ (a b : Addr) (us ws : List V) (ess : List (List Ent)) (ks : List Pl), vs = [.ref a, .ref b] ∧ SqL K H a us ∧ RowsAt H us ess ∧ SqL K H b ws ∧ Pls H ws ks ∧ ess.length ≤ 1000 ∧ ks.length ≤ 1000 ∧
  (mixL ((dims ess ++ plens ks).filter nz) = true → ∀ d H', Same H H' → H' d = some (.xd errM) → E (.ref M) (some d) H') ∧ (mixL ((dims ess ++ plens ks).filter nz) = false → ∀ H', Same H H' → Q .non H')
theorem ok_same_dimension {f M fS : Addr} {fd fdS : FuncData} (D : C8.Def K mg "same_dimension" s_same_dimension f fd) (T : Bi mg) (DS : C8.Def K mg "same_lengths" s_same_lengths fS fdS) (bS : Binds K fdS ["lengths"] []) (GS : FnOk P w K mg base (L2.CX P w) 3 fS fdS ["lengths"] (spSL K M))
    (c_places_length : C8.Cal P w K mg base 1 "places_length" (spPLen K) []) : FnOk P w K mg base (L2.CX P w) 4 f fd ["rows", "places"] (spSD K M) := by
  obtain ⟨oc, od, dV, kV, doc, pm, an, cdv, ct, osl, rfl, lk, hcd⟩ := D.fn.ex
  refine fn_of lk hcd sc_same_dimension (fun vs H Q E h => ?_) fun A outer s H vs Q E hr h => ?_
  · obtain ⟨a, b, us, ws, ess, ks, rfl, _⟩ := h
    rfl
  · obtain ⟨a, b, us, ws, ess, ks, rfl, ha, hR, hb, hP, z1, z2, qE, qN⟩ := h
    refine ⟨_, (pss_one (ps_expr (pe_callS GS hr rfl DS.mgf DS.kp bS (fun σ => passAt (takes_of rfl rfl rfl rfl) σ) (pa_cons (pe_op op_cat (pe_lc (own := [("row", 2)]) (g := (gName 2)) (tt := tYes) rfl sc_same_dimension.nd (pi_list (pv 0)) (blkOk_by (N := ["rows", "places", "row", "place"]) (sc := C8.fnScope s_same_dimension) (by decide +kernel)) (fun _ _ _ _ _ => (pg_name (i := 2) sc_same_dimension.nd rfl (Or.inl rfl))) (fun _ _ _ _ _ => pts_nil) (fun _ _ _ _ _ => (C8.pe_c c_places_length hr (by decide) (by rfl) (pa_cons (pv 2) pa_nil)))) (pe_lc (own := [("place", 3)]) (g := (gName 3)) (tt := tYes) rfl sc_same_dimension.nd (pi_list (pv 1)) (blkOk_by (N := ["rows", "places", "row", "place"]) (sc := C8.fnScope s_same_dimension) (by decide +kernel)) (fun _ _ _ _ _ => (pg_name (i := 3) sc_same_dimension.nd rfl (Or.inl rfl))) (fun _ _ _ _ _ => pts_nil) (fun _ _ _ _ _ => (pe_callB (show CallR _ _ (Evl.rLenS K) from call_len_seq) (by rfl) T.n_len OT.b_len (pa_cons (pv 3) pa_nil))))) pa_nil)))), ?_⟩
    have l1 := hR.len
    have l2 := hP.len
    refine ⟨_, rfl, a, rfl, ⟨_, ha⟩, fun p np => ?_⟩
    refine lc_list (K := K) (xs := us) (fun i H2 => Same H H2 ∧ H2 p = some (.lst ((dims (ess.take i)).map V.int))) ?_ ?_ ?_ ?_
    · exact ⟨same_upd np, upd_same⟩
    · rintro i H2 _ ⟨sm, _⟩
      exact sm.seq ha
    · rintro i x H2 hx ⟨sm, hp⟩
      obtain ⟨a1, xs, es, rfl, he, h1, h2⟩ := (hR.mono sm).get hx
      have hi := (List.getElem?_eq_some_iff.mp he).1
      refine ⟨rfl, tYes_of ?_⟩
      refine ⟨_, rfl, a1, xs, es, rfl, .inl (.inl h1), h2, _, hp, ?_, same_mut sm np, ?_⟩
      · unfold dims
        rw [List.length_map, List.length_map, List.length_take]
        exact small1000 (by omega)
      · rw [upd_same, dims_snoc he]
    · rintro H2 ⟨sm2, hp⟩
      rw [l1, List.take_length] at hp
      refine ⟨_, rfl, b, rfl, ⟨_, sm2.seq hb⟩, fun p3 np3 => ?_⟩
      refine lc_list (K := K) (xs := ws) (fun i H3 => Same H2 H3 ∧ H3 p3 = some (.lst ((plens (ks.take i)).map V.int))) ?_ ?_ ?_ ?_
      · exact ⟨same_upd np3, upd_same⟩
      · rintro i H3 _ ⟨sm, _⟩
        exact (sm2.trans sm).seq hb
      · rintro i x H3 hx ⟨sm, hp3⟩
        obtain ⟨q3, k, rfl, hk, hq3⟩ := (hP.mono (sm2.trans sm)).get hx
        have hi := (List.getElem?_eq_some_iff.mp hk).1
        refine ⟨rfl, tYes_of ?_⟩
        refine ⟨_, rfl, q3, _, rfl, .inr (.inl (.inl hq3)), _, hp3, ?_, same_mut sm np3, ?_⟩
        · unfold plens
          rw [List.length_map, List.length_map, List.length_take]
          exact small1000 (by omega)
        · rw [upd_same, plens_snoc hk, List.length_map]
      · rintro H3 ⟨sm3, hp3⟩
        rw [l2, List.take_length] at hp3
        have sA := sm2.trans sm3
        have d1 : (dims ess).length = ess.length := List.length_map _
        have d2 : (plens ks).length = ks.length := List.length_map _
        refine ⟨p, p3, _, _, rfl, rfl, sm3 _ _ hp, hp3, ?_, fun p4 np4 => ?_⟩
        · rw [List.length_map, List.length_map, d1, d2]
          exact Nat.le_of_lt (small100k (by omega))
        have s4 : Same H3 (upd H3 p4 (.lst ((dims ess).map V.int ++ (plens ks).map V.int))) := same_upd np4
        have sB := sA.trans s4
        refine ⟨p4, dims ess ++ plens ks, rfl, .inl (.inl ?_), ?_, fun hm d H5 sm5 hd => qE hm d H5 (sB.trans sm5) hd, fun hm H5 sm5 => qN hm H5 (sB.trans sm5)⟩
        · rw [upd_same, List.map_append]
        · rw [List.length_append, d1, d2]
          omega
end
end OT

set_option Elab.async false
set_option linter.all false
set_option maxRecDepth 100000
set_option maxHeartbeats 2000000
namespace OT
open PySem PySem.Spec PyProof.Rows L2
theorem Ents.rev {H : Hp} {vs : List V} {es : List Ent} (h : Ents H vs es) : Ents H vs.reverse es.reverse := by
  induction h with
  | nil => exact .nil
  | cons h1 _ ih =>
    rw [List.reverse_cons, List.reverse_cons]
    exact ih.app (.cons h1 .nil)
/-- tuple(xs) -/
def rTupOf (K : PySem.W.Frag) : List V → Hp → VK → Prop := fun args H Q => ∃ (b : Addr) (items : List V), args = [.ref b] ∧ ((SqL K H b items ∧ ∀ l, H l = none → Q (.ref l) (upd H l (.tup items))) ∨ (SqT K H b items ∧ Q (.ref b) H))
section
variable {P : Program} {w : World} {K : PySem.W.Frag} {mg : Str → Option Value} {base : Heap}
def spMirror : Sp := fun vs H Q _ => ∃ (a : Addr) (xs : List V) (es : List Ent), vs = [.ref a] ∧ H a = some (.lst xs) ∧ Ents H xs es ∧ es.length ≤ 1000 ∧ (∀ e ∈ es, e.1.length ≤ 1000) ∧ ∀ p ws H', Same H H' → H p = none → H' p = some (.lst ws) → Ents H' ws (mirP es) → Q (.ref p) H'
theorem c_mirror {f : Addr} {fd : FuncData} (D : C8.Def K mg "mirror" s_mirror f fd) (b : Binds K fd ["row"] []) (T : Bi mg) : C8.Cal P w K mg base 1 "mirror" spMirror [] := by
  refine C8.cal0 D b .nil sc_mirror (fun vs H Q E h => ?_) (fun cdv A outer s H vs Q E hr h => ?_)
  · obtain ⟨a, xs, es, rfl, _⟩ := h
    rfl
  · obtain ⟨a, xs, es, rfl, ha, hE, hz, hle, q⟩ := h
    refine ⟨_, (pss_one (ps_ret (pe_lc (own := [("place", 1), ("number", 2)]) (g := (gTup K 2 (gCons (gName 1) (gCons (gName 2) gNil)))) (tt := tYes) rfl sc_mirror.nd (pi_list (pe_revL (pv 0))) (blkOk_by (N := ["row", "place", "number", "x"]) (sc := C8.fnScope s_mirror) (by decide +kernel)) (fun _ _ _ _ _ => (pg_tup rfl (pgs_cons (pg_name (i := 1) sc_mirror.nd rfl (Or.inl rfl)) (pgs_cons (pg_name (i := 2) sc_mirror.nd rfl (Or.inl rfl)) pgs_nil)))) (fun _ _ _ _ _ => pts_nil) (fun _ _ _ _ _ => (pe_tup (pa_cons (pe_callTy (show CallR _ _ (rTupOf K) from call_tuple_of) (by rfl) T.n_tuple OT.b_tuple (pa_cons (pe_lc (own := [("x", 3)]) (g := (gName 3)) (tt := tYes) rfl sc_mirror.nd (show PI _ _ _ (iTup K (tVar 1)) from pi_tup (pe_var (i := 1) rfl (.inl rfl))) (blkOk_by (N := ["row", "place", "number", "x"]) (sc := { kind := .function, names := [(".0", .local), ("place", .local), ("number", .local), ("tuple", .globalImplicit)], isGenerator := false, isCoroutine := false }) (by decide +kernel)) (fun _ _ _ _ _ => (pg_name (i := 3) sc_mirror.nd rfl (Or.inl rfl))) (fun _ _ _ _ _ => pts_nil) (fun _ _ _ _ _ => (pe_un un_neg (pv 3)))) pa_nil)) (pa_cons (pv 2) pa_nil))))))), ?_⟩
    have hS : SqL K H a xs := .inl (.inl ha)
    have hx := hE.len
    refine ⟨_, rfl, a, xs, rfl, hS, fun ra nra => ?_⟩
    have s1 : Same H (upd H ra (.lst xs.reverse)) := same_upd nra
    have hra : (upd H ra (.lst xs.reverse)) ra = some (.lst xs.reverse) := upd_same
    generalize upd H ra (.lst xs.reverse) = H1 at s1 hra ⊢
    refine ⟨ra, rfl, ⟨_, .inl (.inl hra)⟩, fun p np => ?_⟩
    have hE1 : Ents H1 xs.reverse es.reverse := (hE.mono s1).rev
    refine lc_list (K := K) (xs := xs.reverse) (fun i H2 => Same H1 H2 ∧ ∃ ws, H2 p = some (.lst ws) ∧ Ents H2 ws ((es.reverse.take i).map fun e => (negP e.1, e.2))) ?_ ?_ ?_ ?_
    · exact ⟨same_upd np, [], upd_same, .nil⟩
    · rintro i H2 _ ⟨sm, _⟩
      exact .inl (.inl (sm _ _ hra))
    · rintro i x H2 hxi ⟨sm, ws, hp, hW⟩
      obtain ⟨e, he, t, pe, rfl, ht, hpe⟩ := (hE1.mono sm).get hxi
      obtain ⟨hi, hee⟩ := List.getElem?_eq_some_iff.mp he
      have hm := List.mem_reverse.mp (List.mem_of_getElem? he)
      rw [List.length_reverse] at hi
      refine ⟨t, _, rfl, .inl (.inl ht), rfl, _, _, rfl, _, _, rfl, rfl, rfl, tYes_of ?_⟩
      refine ⟨_, rfl, pe, rfl, ⟨_, .inl (.inl hpe)⟩, fun p3 np3 => ?_⟩
      refine lc_tup (K := K) (xs := e.1.map V.int) (fun j H3 => Same H2 H3 ∧ H3 p3 = some (.lst ((e.1.take j).map fun n => V.int (-n)))) ?_ ?_ ?_ ?_
      · exact ⟨same_upd np3, upd_same⟩
      · rintro j H3 _ ⟨sm3, _⟩
        exact .inl (.inl (sm3 _ _ hpe))
      · rintro j y H3 hy ⟨sm3, hp3⟩
        obtain ⟨hj, rfl⟩ := getm hy
        refine ⟨rfl, tYes_of ?_⟩
        refine ⟨_, rfl, _, rfl, _, hp3, ?_, same_mut sm3 np3, ?_⟩
        · rw [List.length_map, List.length_take]
          have := hle e hm
          exact small100k (by omega)
        · rw [upd_same, take_map_succ (fun n => V.int (-n)) hj]
      · rintro H3 ⟨sm3, hp3⟩
        rw [List.length_map, List.take_length] at hp3
        refine ⟨p3, _, rfl, .inl ⟨.inl (.inl hp3), fun l4 nl4 => ?_⟩⟩
        have sm4 : Same H3 (upd H3 l4 (.tup (e.1.map fun n => V.int (-n)))) := same_upd nl4
        have hl4 : (upd H3 l4 (.tup (e.1.map fun n => V.int (-n)))) l4 = some (.tup ((negP e.1).map V.int)) := by
          rw [upd_same]
          unfold negP
          rw [List.map_map]
          rfl
        generalize upd H3 l4 (.tup (e.1.map fun n => V.int (-n))) = H4 at sm4 hl4 ⊢
        refine ⟨_, rfl, (by show 2 ≤ sizeLine; decide), fun t6 nt6 => ?_⟩
        have sm6 : Same H4 (upd H4 t6 (.tup [.ref l4, .int e.2])) := same_upd nt6
        have smX := (sm3.trans sm4).trans sm6
        have hv : EntAt (upd H4 t6 (.tup [.ref l4, .int e.2])) (.ref t6) (negP e.1, e.2) := ⟨t6, l4, rfl, upd_same, sm6 _ _ hl4⟩
        have hD := smX _ _ hp
        have hwl := hW.len
        refine ⟨ws, hD, ?_, same_mut (sm.trans smX) np, ws ++ [.ref t6], upd_same, ?_⟩
        · rw [List.length_map, List.length_take, List.length_reverse] at hwl
          exact small100k (by omega)
        · rw [take_snoc he, List.map_append]
          exact ((hW.mono smX).app (.cons hv .nil)).updL hD
    · rintro H2 ⟨sm, ws, hp, hW⟩
      rw [List.length_reverse, hx, ← List.length_reverse, List.take_length] at hW
      refine q p ws H2 (s1.trans sm) ?_ hp hW
      cases z : H p with
      | none => rfl
      | some o =>
        rw [s1 _ _ z] at np
        cases np
end
end OT

set_option Elab.async false
set_option linter.all false
set_option maxRecDepth 100000
set_option maxHeartbeats 2000000
namespace OT
open PySem PySem.Spec PyProof.Rows L2
section
variable {P : Program} {w : World} {K : PySem.W.Frag} {mg : Str → Option Value} {base : Heap}
theorem c_row_of {f : Addr} {fd : FuncData} (D : C8.Def K mg "row_of" s_row_of f fd) (b : Binds K fd ["numbers"] []) (T : Bi mg) : C8.Cal P w K mg base 1 "row_of" (spRowOf K) [] := by
  refine C8.cal0 D b .nil sc_row_of (fun vs H Q E h => ?_) (fun cdv A outer s H vs Q E hr h => ?_)
  · obtain ⟨d, kvs, ks, es, rfl, _⟩ := h
    rfl
  · obtain ⟨d, kvs, ks, es, rfl, hd, hs, hne, hz, q⟩ := h
    refine ⟨_, (pss_one (ps_ret (pe_lc (own := [("place", 1)]) (g := (gName 1)) rfl sc_row_of.nd (pi_list (pe_callB (cr_sortedDT rfl) (by rfl) T.n_sorted OT.b_sorted (pa_cons (pv 0) pa_nil))) (blkOk_by (N := ["numbers", "place"]) (sc := C8.fnScope s_row_of) (by decide +kernel)) (fun _ _ _ _ _ => (pg_name (i := 1) sc_row_of.nd rfl (Or.inl rfl))) (fun _ _ _ _ _ => (pts_one (pt_cmpR op_ne (pe_dget (hu_of hr) (pv 0) (pv 1) (fun _ _ => rfl)) pe_int (nomark _)))) (fun _ _ _ _ _ => (pe_tup (pa_cons (pv 1) (pa_cons (pe_dget (hu_of hr) (pv 0) (pv 1) (fun _ _ => rfl)) pa_nil))))))), ?_⟩
    refine ⟨_, rfl, d, kvs, ks, rfl, .inl hd, hs.keys, fun _ => hne, fun out p perm pw nod held np => ?_⟩
    refine ⟨p, rfl, ⟨_, .inl (.inl upd_same)⟩, fun D nD => ?_⟩
    have hpD : p ≠ D := ne_of_none upd_same nD
    obtain ⟨hDn, _⟩ := none_of_upd nD
    have hkd : ∀ x ∈ out, x.2 ∈ ks := fun x hx => perm.mem_iff.mp (List.mem_map_of_mem hx)
    refine lc_list (K := K) (a := p) (xs := out.map fun x => V.ref x.1) (fun i H2 => Same H H2 ∧ H2 p = some (.lst (out.map fun x => V.ref x.1)) ∧ ∃ ws, H2 D = some (.lst ws) ∧ Ents H2 ws (mkR (numAt es) ((out.take i).map (·.2)))) ?_ ?_ ?_ ?_
    · refine ⟨(same_upd np).trans (same_upd nD), ?_, [], upd_same, .nil⟩
      rw [upd_ne hpD, upd_same]
    · rintro i H2 _ ⟨_, hp, _⟩
      exact .inl (.inl hp)
    · rintro i x H2 hx ⟨sm, hp, ws, hD, hE⟩
      obtain ⟨hi, rfl⟩ := getm hx
      have hm := List.getElem_mem hi
      have hk := sm _ _ (held _ hm)
      have hv := hs.get (hkd _ hm)
      have hd2 := sm _ _ hd
      refine ⟨rfl, _, rfl, _, rfl, d, _, rfl, dgetT hd2 hk hv, ?_⟩
      refine ⟨rfl, _, rfl, ?_⟩
      have htk : (out.take (i + 1)).map (·.2) = (out.take i).map (·.2) ++ [out[i].2] := take_map_succ (·.2) hi
      rw [htk, mkR_snoc]
      refine iteND (fun hn => ?_) (fun h0 => ?_)
      · have hn0 : numAt es out[i].2 ≠ 0 := fun z => hn (by rw [z])
        rw [if_neg hn0]
        refine ⟨_, rfl, _, rfl, _, rfl, d, _, rfl, dgetT hd2 hk hv, (by show 2 ≤ sizeLine; decide), fun t nt => ?_⟩
        have ntD : D ≠ t := ne_of_none hD nt
        have smt : Same H2 (upd H2 t (.tup [.ref out[i].1, .int (numAt es out[i].2)])) := same_upd nt
        have hD3 := smt _ _ hD
        refine ⟨ws, hD3, ?_, same_mut (sm.trans smt) hDn, ?_, ws ++ [.ref t], upd_same, ?_⟩
        · have h1 := hE.len
          have h2 := mkR_len (numAt es) ((out.take i).map (·.2))
          have h3 := perm.length_eq
          rw [List.length_map] at h2 h3
          rw [List.length_take] at h2
          omega
        · rw [upd_ne hpD]
          exact smt _ _ hp
        · refine ((hE.mono smt).updL hD3).app (.cons (EntAt.updL hD3 ⟨t, _, rfl, upd_same, ?_⟩) .nil)
          exact smt _ _ hk
      · have h0' : numAt es out[i].2 = 0 := V.int.inj h0
        rw [if_pos h0', List.append_nil]
        exact ⟨sm, hp, ws, hD, hE⟩
    · rintro H2 ⟨sm, hp, ws, hD, hE⟩
      rw [List.length_map, List.take_length] at hE
      exact q _ D ws H2 (row_sorted perm pw nod hs.out) sm hDn hD hE
theorem c_gather {f : Addr} {fd : FuncData} (D : C8.Def K mg "gather" s_gather f fd) (b : Binds K fd ["entries"] []) (T : Bi mg) (c_row_of : C8.Cal P w K mg base 1 "row_of" (spRowOf K) []) : C8.Cal P w K mg base 2 "gather" (spGather K) [] := by
  refine C8.cal0 D b .nil sc_gather (fun vs H Q E h => ?_) (fun cdv A outer s H vs Q E hr h => ?_)
  · obtain ⟨a, xs, es, rfl, _⟩ := h
    rfl
  · obtain ⟨a, xs, es, rfl, hE, hne, q⟩ := h
    refine ⟨_, (pss_cons (ps_set (i := 1) sc_gather.nd rfl (Or.inl rfl) pe_dnewT)
  (pss_cons (ps_for PassesOwn.never rfl (pi_list (pv 0)) (pg_tup rfl (pgs_cons (pg_name (i := 2) sc_gather.nd rfl (Or.inl rfl)) (pgs_cons (pg_name (i := 3) sc_gather.nd rfl (Or.inl rfl)) pgs_nil))) (pss_one (ps_dput (hu_of hr) (pv 1) (pv 2) (pe_op op_add (pe_dget2 (hu_of hr) (pv 1) (pv 2) pe_int ⟨rfl, rfl, rfl, rfl⟩) (pv 3)) rfl)))
  (pss_one (ps_ret (C8.pe_c c_row_of hr (by decide) (by rfl) (pa_cons (pv 1) pa_nil)))))), ?_⟩
    refine fun d nd => ?_
    have s1 : Same H (upd H d (.dT [])) := same_upd nd
    refine ⟨_, rfl, a, rfl, ⟨xs, s1.seq hE.l⟩, ?_⟩
    refine for_list (K := K) (xs := xs) (fun i σ H2 => ∃ (kvs : List (List Key × V)) (ks : List Pl) (y2 y3 : Option V), σ = [some (.ref a), some (.ref d), y2, y3] ∧ Same H H2 ∧ H2 d = some (.dT kvs) ∧ Sums kvs ks (numAt (es.take i)) ∧ (∀ k ∈ ks, k ≠ []) ∧ ks.length ≤ i) ?_ ?_ ?_ ?_
    · exact ⟨[], [], none, none, rfl, s1, upd_same, Sums.nil, fun k hk => (by cases hk), Nat.le_refl _⟩
    · rintro i σ H2 _ ⟨_, _, _, _, _, sm, _⟩
      exact sm.seq hE.l
    · rintro i x σ H2 hx ⟨kvs, ks, y2, y3, rfl, sm, hd, hs, hk, hl⟩
      obtain ⟨e, he, hv⟩ := (hE.e.mono sm).get hx
      obtain ⟨t, p, rfl, ht, hp⟩ := hv
      have hi := (List.getElem?_eq_some_iff.mp he).1
      have hm : e ∈ es := List.mem_of_getElem? he
      have hz := hE.z
      refine ⟨t, _, rfl, .inl (.inl ht), rfl, _, _, rfl, _, _, rfl, rfl, ?_⟩
      refine ⟨_, rfl, d, rfl, .inr ⟨kvs, .inl hd⟩, _, rfl, _, dgetT hd hp rfl, _, rfl, numAt (es.take i) e.1, e.2, hs.getD _, rfl, _, rfl, _, rfl, d, _, rfl, DPut.t hd (k := e.1.map Sum.inl) (by rw [kV_ints]; exact hp) ?_, ?_⟩
      · rw [hs.len]
        omega
      · exact ⟨_, _, _, _, rfl, same_mut sm nd, upd_same, hs.next he, put_keys_ne hk (hne e hm), put_keys_len hl⟩
    · rintro σ H2 ⟨kvs, ks, y2, y3, rfl, sm, hd, hs, hk, hl⟩
      have hz := hE.z
      have hlen := hE.e.len
      rw [hlen, List.take_length] at hs
      refine ⟨_, rfl, d, kvs, ks, es, rfl, hd, hs, hk, by omega, fun r p ws H3 hr sm3 np hp he => ?_⟩
      refine q r p ws H3 hr (sm.trans sm3) ?_ hp he
      cases z : H p with
      | none => rfl
      | some o =>
        rw [sm _ _ z] at np
        cases np
end
end OT

set_option Elab.async false
set_option linter.all false
set_option maxRecDepth 100000
set_option maxHeartbeats 2000000
namespace OT
open PySem PySem.Spec PyProof.Rows L2
/-! places as one number -/
def keyP (b : Int) : Pl → Int
  | [] => 0
  | x :: r => x * b ^ r.length + keyP b r
theorem keyP_snoc (b x : Int) : ∀ p : Pl, keyP b (p ++ [x]) = keyP b p * b + x
  | [] => by
    show x * b ^ 0 + 0 = 0 * b + x
    rw [Int.pow_zero]
    omega
  | y :: r => by
    show y * b ^ (r ++ [x]).length + keyP b (r ++ [x]) = (y * b ^ r.length + keyP b r) * b + x
    rw [keyP_snoc b x r, List.length_append, List.length_singleton, Int.pow_succ, Int.add_mul, ← Int.mul_assoc, Int.add_assoc]
theorem keyP_plus (b : Int) : ∀ {p q : Pl}, p.length = q.length → keyP b (plusP p q) = keyP b p + keyP b q
  | [], [], _ => rfl
  | [], _ :: _, h => by cases h
  | _ :: _, [], h => by cases h
  | x :: r, y :: t, h => by
    have hl : r.length = t.length := Nat.succ.inj h
    have ih := keyP_plus b hl
    have lp : (plusP r t).length = r.length := plusP_len (Nat.le_of_eq hl)
    show (x + y) * b ^ (plusP r t).length + keyP b (plusP r t) = (x * b ^ r.length + keyP b r) + (y * b ^ t.length + keyP b t)
    rw [ih, lp, hl, Int.add_mul]
    omega
/-- the numbers of a place stay within h -/
def Within (h : Nat) (p : Pl) : Prop := ∀ x ∈ p, x.natAbs ≤ h
theorem Within.tail {h : Nat} {x : Int} {r : Pl} (w : Within h (x :: r)) : Within h r := fun y hy => w y (List.mem_cons_of_mem _ hy)
theorem pow_pos' {b : Int} (hb : 0 < b) (n : Nat) : 0 < b ^ n := Int.pow_pos hb
theorem keyP_bound {h : Nat} {b : Int} (hb : b = 2 * (h : Int) + 1) : ∀ {p : Pl}, Within h p → 2 * keyP b p < b ^ p.length ∧ -(b ^ p.length) < 2 * keyP b p
  | [], _ => by
    show 2 * (0 : Int) < b ^ 0 ∧ -(b ^ 0) < 2 * (0 : Int)
    rw [Int.pow_zero]
    decide
  | x :: r, w => by
    obtain ⟨h1, h2⟩ := keyP_bound hb w.tail
    have hx := w x List.mem_cons_self
    have hp := pow_pos' (show 0 < b by omega) r.length
    show 2 * (x * b ^ r.length + keyP b r) < b ^ (r.length + 1) ∧ -(b ^ (r.length + 1)) < 2 * (x * b ^ r.length + keyP b r)
    rw [Int.pow_succ]
    generalize b ^ r.length = B at h1 h2 hp ⊢
    generalize keyP b r = k at h1 h2 ⊢
    subst hb
    have e1 : x * B ≤ (h : Int) * B := Int.mul_le_mul_of_nonneg_right (by omega) (by omega)
    have e2 : -(h : Int) * B ≤ x * B := Int.mul_le_mul_of_nonneg_right (by omega) (by omega)
    have e3 : B * (2 * (h : Int) + 1) = 2 * ((h : Int) * B) + B := by
      rw [Int.mul_add, Int.mul_one, Int.mul_comm B (2 * (h : Int)), Int.mul_assoc]
    have e4 : -(h : Int) * B = -((h : Int) * B) := Int.neg_mul _ _
    omega
theorem keyP_lt {h : Nat} {b : Int} (hb : b = 2 * (h : Int) + 1) : ∀ {p q : Pl}, p.length = q.length → Within h p → Within h q → HT.lexLt p q = true → keyP b p < keyP b q
  | [], [], _, _, _, e => by cases e
  | [], _ :: _, h, _, _, _ => by cases h
  | _ :: _, [], h, _, _, _ => by cases h
  | x :: r, y :: t, hl, w1, w2, e => by
    have hl' : r.length = t.length := Nat.succ.inj hl
    rw [HT.lexLt_cons] at e
    show x * b ^ r.length + keyP b r < y * b ^ t.length + keyP b t
    rw [hl']
    by_cases z : x = y
    · rw [if_pos z] at e
      have := keyP_lt hb hl' w1.tail w2.tail e
      rw [z]
      omega
    · rw [if_neg z] at e
      have z2 : x < y := of_decide_eq_true e
      obtain ⟨a1, a2⟩ := keyP_bound hb w1.tail
      obtain ⟨b1, b2⟩ := keyP_bound hb w2.tail
      rw [hl'] at a1 a2
      have hp := pow_pos' (show 0 < b by omega) t.length
      generalize b ^ t.length = B at a1 a2 b1 b2 hp ⊢
      have e1 : (x + 1) * B ≤ y * B := Int.mul_le_mul_of_nonneg_right (by omega) (by omega)
      rw [Int.add_mul, Int.one_mul] at e1
      omega
theorem lex_tri : ∀ {p q : Pl}, p.length = q.length → HT.lexLt p q = true ∨ p = q ∨ HT.lexLt q p = true
  | [], [], _ => .inr (.inl rfl)
  | [], _ :: _, h => by cases h
  | _ :: _, [], h => by cases h
  | x :: r, y :: t, hl => by
    rw [HT.lexLt_cons, HT.lexLt_cons]
    by_cases z : x = y
    · subst z
      rw [if_pos rfl, if_pos rfl]
      rcases lex_tri (Nat.succ.inj hl : r.length = t.length) with h | h | h
      · exact .inl h
      · exact .inr (.inl (by rw [h]))
      · exact .inr (.inr h)
    · rw [if_neg z, if_neg (fun e => z e.symm)]
      by_cases c : x < y
      · exact .inl (decide_eq_true c)
      · exact .inr (.inr (decide_eq_true (by omega)))
theorem keyP_inj {h : Nat} {b : Int} (hb : b = 2 * (h : Int) + 1) {p q : Pl} (hl : p.length = q.length) (w1 : Within h p) (w2 : Within h q) (e : keyP b p = keyP b q) : p = q := by
  rcases lex_tri hl with z | z | z
  · have := keyP_lt hb hl w1 w2 z
    omega
  · exact z
  · have := keyP_lt hb hl.symm w2 w1 z
    omega
theorem keyP_le {h : Nat} {b : Int} (hb : b = 2 * (h : Int) + 1) {p q : Pl} (hl : p.length = q.length) (w1 : Within h p) (w2 : Within h q) (e : keyP b p ≤ keyP b q) : HT.lexLt q p = false := by
  cases z : HT.lexLt q p with
  | false => rfl
  | true =>
    have := keyP_lt hb hl.symm w2 w1 z
    omega
/-- the last number of a place, from its key -/
theorem digit {h : Nat} {b k x : Int} (hb : b = 2 * (h : Int) + 1) (hx : x.natAbs ≤ h) : (k * b + x + h) % b - h = x ∧ (k * b + x - x) / b = k := by
  have hpos : 0 < b := by omega
  have e1 : (k * b + x + h) % b = x + h := by
    rw [show k * b + x + (h : Int) = x + h + k * b by omega, Int.add_mul_emod_self_right]
    exact Int.emod_eq_of_lt (by omega) (by omega)
  refine ⟨by omega, ?_⟩
  rw [show k * b + x - x = k * b by omega, Int.mul_ediv_cancel _ (by omega)]
end OT

set_option Elab.async false
set_option linter.all false
set_option maxRecDepth 100000
set_option maxHeartbeats 2000000
namespace OT
open PySem PySem.Spec PyProof.Rows L2
/-- two fors: the outer one over a list -/
theorem lc2_out {K : PySem.W.Frag} {a : Addr} {xs : List V} {g : TG} {tt : TT} {wi1 : TI} {g1 : TG} {tt1 : TT} {te : TE} {vs vs1 : List Nat} {σ : L2.St} {H1 : Hp} {D : Addr} {Qd : Hp → Prop} (Pv : Nat → Hp → Prop) (h0 : Pv 0 (upd H1 D (.lst []))) (hl : ∀ i H, i ≤ xs.length → Pv i H → SqL K H a xs)
    (hs : ∀ i x H, xs[i]? = some x → Pv i H → g x (wipe σ vs) H fun σ2 H2 => wipe σ2 vs = wipe σ vs ∧ tt σ2 H2 fun b H3 =>
      if b = true then wi1 σ2 H3 fun J1 H4 => ∃ W1 : Nat → Nat → Hp → Prop, (∃ m, W1 0 m H4) ∧ ∀ j k H, W1 j k H →
        (J1.stop j H ∧ Pv (i + 1) H) ∨ (J1.go j H ∧ ∃ Nx1 : Hp → Prop, (∀ H', Nx1 H' → ∃ k', k' < k ∧ W1 (j + 1) k' H') ∧ ∀ x H', J1.yld j H x H' → g1 x (wipe σ2 vs1) H' fun σ3 H5 => wipe σ3 vs1 = wipe σ2 vs1 ∧ tt1 σ3 H5 fun b H6 =>
          if b = true then te σ3 H6 fun y H7 => ∃ acc, H7 D = some (.lst acc) ∧ acc.length < sizeLine ∧ Nx1 (upd H7 D (.lst (acc ++ [y]))) else Nx1 H6)
      else Pv (i + 1) H3) (hd : ∀ H, Pv xs.length H → Qd H) :
    ∃ W : Nat → Nat → Hp → Prop, (∃ m, W 0 m (upd H1 D (.lst []))) ∧ ∀ i m H, W i m H →
      ((Itl K a).stop i H ∧ Qd H) ∨ ((Itl K a).go i H ∧ ∃ Nx : Hp → Prop, (∀ H', Nx H' → ∃ m', m' < m ∧ W (i + 1) m' H') ∧ ∀ x H', (Itl K a).yld i H x H' → g x (wipe σ vs) H' fun σ2 H2 => wipe σ2 vs = wipe σ vs ∧ tt σ2 H2 fun b H3 =>
        if b = true then wi1 σ2 H3 fun J1 H4 => ∃ W1 : Nat → Nat → Hp → Prop, (∃ m, W1 0 m H4) ∧ ∀ j k H, W1 j k H →
          (J1.stop j H ∧ Nx H) ∨ (J1.go j H ∧ ∃ Nx1 : Hp → Prop, (∀ H', Nx1 H' → ∃ k', k' < k ∧ W1 (j + 1) k' H') ∧ ∀ x H', J1.yld j H x H' → g1 x (wipe σ2 vs1) H' fun σ3 H5 => wipe σ3 vs1 = wipe σ2 vs1 ∧ tt1 σ3 H5 fun b H6 =>
            if b = true then te σ3 H6 fun y H7 => ∃ acc, H7 D = some (.lst acc) ∧ acc.length < sizeLine ∧ Nx1 (upd H7 D (.lst (acc ++ [y]))) else Nx1 H6)
        else Nx H3) := by
  refine ⟨fun i m H => m = xs.length - i ∧ i ≤ xs.length ∧ Pv i H, ⟨xs.length, by simp, Nat.zero_le _, h0⟩, ?_⟩
  rintro i m H ⟨rfl, hi, p⟩
  have q := hl i H hi p
  by_cases hlt : i < xs.length
  · refine .inr ⟨⟨xs, xs[i], q, by simp [hlt]⟩, Pv (i + 1), fun H' p' => ⟨xs.length - (i + 1), by omega, rfl, hlt, p'⟩, fun x H' y => ?_⟩
    obtain ⟨e, y⟩ := y
    subst e
    exact hs i x _ (y xs q) p
  · have e : i = xs.length := by omega
    subst e
    exact .inl ⟨⟨xs, q, Nat.le_refl _⟩, hd H p⟩
/-- the inner one over a tuple -/
theorem lc2_tup {K : PySem.W.Frag} {a : Addr} {ys : List V} {g1 : TG} {tt1 : TT} {te : TE} {vs1 : List Nat} {σ2 : L2.St} {H4 : Hp} {D : Addr} {Nx : Hp → Prop} (Pw : Nat → Hp → Prop) (h0 : Pw 0 H4) (hl : ∀ j H, j ≤ ys.length → Pw j H → SqT K H a ys)
    (hs : ∀ j y H, ys[j]? = some y → Pw j H → g1 y (wipe σ2 vs1) H fun σ3 H5 => wipe σ3 vs1 = wipe σ2 vs1 ∧ tt1 σ3 H5 fun b H6 =>
      if b = true then te σ3 H6 fun y H7 => ∃ acc, H7 D = some (.lst acc) ∧ acc.length < sizeLine ∧ Pw (j + 1) (upd H7 D (.lst (acc ++ [y]))) else Pw (j + 1) H6) (hd : ∀ H, Pw ys.length H → Nx H) :
    ∃ W1 : Nat → Nat → Hp → Prop, (∃ m, W1 0 m H4) ∧ ∀ j k H, W1 j k H →
      ((Itt K a).stop j H ∧ Nx H) ∨ ((Itt K a).go j H ∧ ∃ Nx1 : Hp → Prop, (∀ H', Nx1 H' → ∃ k', k' < k ∧ W1 (j + 1) k' H') ∧ ∀ x H', (Itt K a).yld j H x H' → g1 x (wipe σ2 vs1) H' fun σ3 H5 => wipe σ3 vs1 = wipe σ2 vs1 ∧ tt1 σ3 H5 fun b H6 =>
        if b = true then te σ3 H6 fun y H7 => ∃ acc, H7 D = some (.lst acc) ∧ acc.length < sizeLine ∧ Nx1 (upd H7 D (.lst (acc ++ [y]))) else Nx1 H6) := by
  refine ⟨fun j k H => k = ys.length - j ∧ j ≤ ys.length ∧ Pw j H, ⟨ys.length, by simp, Nat.zero_le _, h0⟩, ?_⟩
  rintro j k H ⟨rfl, hj, p⟩
  have q := hl j H hj p
  by_cases hlt : j < ys.length
  · refine .inr ⟨⟨ys, ys[j], q, by simp [hlt]⟩, Pw (j + 1), fun H' p' => ⟨ys.length - (j + 1), by omega, rfl, hlt, p'⟩, fun x H' y => ?_⟩
    obtain ⟨e, y⟩ := y
    subst e
    exact hs j x _ (y ys q) p
  · have e : j = ys.length := by omega
    subst e
    exact .inl ⟨⟨ys, q, Nat.le_refl _⟩, hd H p⟩
section
variable {P : Program} {w : World} {K : PySem.W.Frag} {mg : Str → Option Value} {base : Heap}
/-- the greatest absolute coordinate -/
def ReachIs (es : List Ent) (h : Nat) : Prop := (∀ e ∈ es, Within h e.1) ∧ ∀ C : Nat, (∀ e ∈ es, Within C e.1) → h ≤ C
def absP (p : Pl) : List Int := p.map fun x => if x < 0 then -x else x
def coords (es : List Ent) : List Int := es.flatMap fun e => absP e.1
theorem coords_len : ∀ {es : List Ent}, (∀ e ∈ es, e.1.length ≤ 3) → (coords es).length ≤ 3 * es.length
  | [], _ => Nat.le_refl _
  | e :: r, h => by
    have ih := coords_len (es := r) fun x hx => h x (List.mem_cons_of_mem _ hx)
    have h1 := h e List.mem_cons_self
    show (absP e.1 ++ coords r).length ≤ 3 * (r.length + 1)
    rw [List.length_append, show (absP e.1).length = e.1.length from List.length_map _]
    omega
theorem coords_mem {es : List Ent} {n : Int} : n ∈ coords es ↔ ∃ e ∈ es, ∃ x ∈ e.1, n = (x.natAbs : Int) := by
  unfold coords absP
  rw [List.mem_flatMap]
  constructor
  · rintro ⟨e, he, h⟩
    obtain ⟨x, hx, rfl⟩ := List.mem_map.mp h
    refine ⟨e, he, x, hx, ?_⟩
    by_cases z : x < 0
    · rw [if_pos z]
      omega
    · rw [if_neg z]
      omega
  · rintro ⟨e, he, x, hx, rfl⟩
    refine ⟨e, he, List.mem_map.mpr ⟨x, hx, ?_⟩⟩
    by_cases z : x < 0
    · rw [if_pos z]
      omega
    · rw [if_neg z]
      omega
theorem reach_nil {es : List Ent} (h : coords es = []) : ReachIs es 0 := by
  refine ⟨fun e he x hx => ?_, fun C _ => Nat.zero_le _⟩
  have : (x.natAbs : Int) ∈ coords es := coords_mem.mpr ⟨e, he, x, hx, rfl⟩
  rw [h] at this
  cases this
theorem reach_max {es : List Ent} {m : Int} (hm : m ∈ coords es) (hb : ∀ y ∈ coords es, y ≤ m) : ∃ h : Nat, m = (h : Int) ∧ ReachIs es h := by
  obtain ⟨e, he, x, hx, rfl⟩ := coords_mem.mp hm
  refine ⟨x.natAbs, rfl, fun e' he' x' hx' => ?_, fun C h => h e he x hx⟩
  have := hb _ (coords_mem.mpr ⟨e', he', x', hx', rfl⟩)
  omega
def spReach (K : PySem.W.Frag) : Sp := fun vs H Q _ => ∃ (a : Addr) (xs : List V) (es : List Ent), vs = [.ref a] ∧ SqL K H a xs ∧ Ents H xs es ∧ es.length ≤ 1000 ∧ (∀ e ∈ es, e.1.length ≤ 3) ∧ ∀ h H', ReachIs es h → Same H H' → Q (.int (h : Nat)) H'
theorem c_reach {f : Addr} {fd : FuncData} (D : C8.Def K mg "reach" s_reach f fd) (b : Binds K fd ["row"] []) (T : Bi mg) : C8.Cal P w K mg base 1 "reach" (spReach K) [] := by
  refine C8.cal0 D b .nil sc_reach (fun vs H Q E h => ?_) (fun cdv A outer s H vs Q E hr h => ?_)
  · obtain ⟨a, xs, es, rfl, _⟩ := h
    rfl
  · obtain ⟨a, xs, es, rfl, hS, hE, hz, hd, q⟩ := h
    refine ⟨_, (pss_one (ps_ret (pe_callBK (show CallRK _ _ _ (OW.rMaxDf K) from OW.cr_maxDf rfl hr.units) (by rfl) T.n_max OT.b_max (pa_cons (pe_lc2 (own := [("place", 2), ("number", 3), ("x", 1)]) (vs1 := [1]) (g := (gTup K 2 (gCons (gName 2) (gCons (gName 3) gNil)))) (g1 := (gName 1)) (tt := tYes) (tt1 := tYes) rfl sc_reach.nd (pi_list (pv 0)) (blkOk_by (N := ["row", "x", "place", "number"]) (sc := C8.fnScope s_reach) (by decide +kernel)) (by decide) (fun _ _ _ _ _ => (pg_tup rfl (pgs_cons (pg_name (i := 2) sc_reach.nd rfl (Or.inl rfl)) (pgs_cons (pg_name (i := 3) sc_reach.nd rfl (Or.inl rfl)) pgs_nil)))) (fun _ _ _ _ _ => pts_nil) (fun _ _ _ _ _ => (show PI _ _ _ (iTup K (tVar 2)) from pi_tup (pe_var (i := 2) rfl (.inl rfl)))) (fun _ _ _ _ _ => (pg_name (i := 1) sc_reach.nd rfl (Or.inl rfl))) (fun _ _ _ _ _ => pts_nil) (fun _ _ _ _ _ => (pe_callB call_abs (by rfl) T.n_abs OT.b_abs (pa_cons (pv 1) pa_nil)))) pa_nil) (pk_cons pe_int pk_nil)))), ?_⟩
    refine ⟨_, rfl, a, rfl, ⟨_, hS⟩, fun D nD => ?_⟩
    refine lc2_out (K := K) (xs := xs) (fun i H2 => Same H H2 ∧ H2 D = some (.lst ((coords (es.take i)).map V.int))) ⟨same_upd nD, upd_same⟩ ?_ ?_ ?_
    · rintro i H2 _ ⟨sm, _⟩
      exact sm.seq hS
    · rintro i v H2 hv ⟨sm, hp⟩
      obtain ⟨e, he, t, p, rfl, ht, hpe⟩ := hE.get hv
      have hie := (List.getElem?_eq_some_iff.mp he).1
      have hem : e ∈ es := List.mem_of_getElem? he
      have h3 := hd e hem
      have hc1 := coords_len (es := es.take i) fun x hx => hd x (List.mem_of_mem_take hx)
      rw [List.length_take] at hc1
      refine ⟨t, _, rfl, .inl (.inl (sm _ _ ht)), rfl, _, _, rfl, _, _, rfl, rfl, rfl, tYes_of ?_⟩
      have hT : SqT K H2 p (e.1.map V.int) := .inl (.inl (sm _ _ hpe))
      refine ⟨_, rfl, p, rfl, ⟨_, hT⟩, ?_⟩
      refine lc2_tup (K := K) (ys := e.1.map V.int) (fun j H3 => Same H H3 ∧ H3 D = some (.lst ((coords (es.take i) ++ absP (e.1.take j)).map V.int))) ⟨sm, ?_⟩ ?_ ?_ ?_
      · rw [hp, show absP (e.1.take 0) = [] from rfl, List.append_nil]
      · rintro j H3 _ ⟨sm3, _⟩
        exact .inl (.inl (sm3 _ _ hpe))
      · rintro j y H3 hy ⟨sm3, hp3⟩
        obtain ⟨hj, rfl⟩ := getm hy
        refine ⟨rfl, tYes_of ?_⟩
        refine ⟨_, rfl, e.1[j], rfl, _, hp3, ?_, same_mut sm3 nD, ?_⟩
        · have hj3 := h3
          rw [List.length_map, List.length_append, show (absP (e.1.take j)).length = (e.1.take j).length from List.length_map _, List.length_take]
          exact small100k (by omega)
        · rw [upd_same, List.take_add_one, List.getElem?_eq_getElem hj]
          show some (HO.lst _) = some (HO.lst (List.map V.int (coords (es.take i) ++ List.map _ (e.1.take j ++ [e.1[j]]))))
          rw [List.map_append (l₂ := [e.1[j]]), ← List.append_assoc, List.map_append (l₂ := List.map _ [e.1[j]])]
          rfl
      · rintro H3 ⟨sm3, hp3⟩
        refine ⟨sm3, ?_⟩
        rw [List.length_map, List.take_length] at hp3
        rw [hp3, take_snoc he]
        show _ = some (HO.lst (List.map V.int (List.flatMap _ (es.take i ++ [e]))))
        rw [List.flatMap_append]
        simp [coords]
    · rintro H2 ⟨sm, hp⟩
      rw [hE.len, List.take_length] at hp
      refine ⟨D, coords es, 0, rfl, rfl, .inl (.inl hp), fun h0 => q 0 H2 (reach_nil h0) sm, fun m hm hb => ?_⟩
      obtain ⟨h, rfl, hR⟩ := reach_max hm hb
      exact q h H2 hR sm
end
end OT

set_option Elab.async false
set_option linter.all false
set_option maxRecDepth 100000
set_option maxHeartbeats 2000000
namespace OT
open PySem PySem.Spec PyProof.Rows L2
section
variable {P : Program} {w : World} {K : PySem.W.Frag} {mg : Str → Option Value} {base : Heap}
structure RowL (K : PySem.W.Frag) (H : Hp) (a : Addr) (xs : List V) (es : List Ent) : Prop where
  l : SqL K H a xs
  e : Ents H xs es
  z : es.length ≤ 1000
  d : ∀ e ∈ es, e.1.length ≤ 3
theorem RowL.mono {H H' : Hp} {a : Addr} {xs : List V} {es : List Ent} (s : Same H H') (h : RowL K H a xs es) : RowL K H' a xs es := ⟨s.seq h.l, h.e.mono s, h.z, h.d⟩
def spKB (K : PySem.W.Frag) : Sp := fun vs H Q _ => ∃ (a b : Addr) (xs ys : List V) (es fs : List Ent), vs = [.ref a, .ref b] ∧ RowL K H a xs es ∧ RowL K H b ys fs ∧ ∀ h g H', ReachIs es h → ReachIs fs g → Same H H' → Q (.int (2 * ((h + g : Nat) : Int) + 1)) H'
theorem c_key_base {f : Addr} {fd : FuncData} (D : C8.Def K mg "key_base" s_key_base f fd) (b : Binds K fd ["first", "second"] []) (T : Bi mg) (c_reach : C8.Cal P w K mg base 1 "reach" (spReach K) []) : C8.Cal P w K mg base 2 "key_base" (spKB K) [] := by
  refine C8.cal0 D b .nil sc_key_base (fun vs H Q E h => ?_) (fun cdv A outer s H vs Q E hr h => ?_)
  · obtain ⟨a, b, xs, ys, es, fs, rfl, _⟩ := h
    rfl
  · obtain ⟨a, b, xs, ys, es, fs, rfl, hR, hS, q⟩ := h
    refine ⟨_, (pss_one (ps_ret (pe_op op_add (pe_op op_mul pe_int (pe_op op_add (C8.pe_c c_reach hr (by decide) (by rfl) (pa_cons (pv 0) pa_nil)) (C8.pe_c c_reach hr (by decide) (by rfl) (pa_cons (pv 1) pa_nil)))) pe_int))), ?_⟩
    refine ⟨_, rfl, a, xs, es, rfl, hR.l, hR.e, hR.z, hR.d, fun h H2 hh s2 => ?_⟩
    have hS2 := hS.mono s2
    refine ⟨_, rfl, b, ys, fs, rfl, hS2.l, hS2.e, hS2.z, hS2.d, fun g H3 hg s3 => ?_⟩
    refine ⟨_, _, rfl, rfl, _, _, rfl, rfl, .inl ⟨by decide, by decide⟩, _, _, rfl, rfl, ?_⟩
    have e : (2 : Int) * ((h : Int) + (g : Int)) + 1 = 2 * ((h + g : Nat) : Int) + 1 := by omega
    show Q (.int ((2 : Int) * ((h : Int) + (g : Int)) + 1)) H3
    rw [e]
    exact q h g H3 hh hg (s2.trans s3)
def spKO (K : PySem.W.Frag) : Sp := fun vs H Q _ => ∃ (a : Addr) (p : Pl) (b : Int), vs = [.ref a, .int b] ∧ SqT K H a (p.map V.int) ∧ (-(2 ^ 64) < b ∧ b < 2 ^ 64) ∧ Q (.int (keyP b p)) H
theorem c_key_of {f : Addr} {fd : FuncData} (D : C8.Def K mg "key_of" s_key_of f fd) (b : Binds K fd ["place", "base"] []) (T : Bi mg) : C8.Cal P w K mg base 1 "key_of" (spKO K) [] := by
  refine C8.cal0 D b .nil sc_key_of (fun vs H Q E h => ?_) (fun cdv A outer s H vs Q E hr h => ?_)
  · obtain ⟨a, p, b, rfl, _⟩ := h
    rfl
  · obtain ⟨a, p, b, rfl, hS, hb, q⟩ := h
    refine ⟨_, (pss_cons (ps_set (i := 2) sc_key_of.nd rfl (Or.inl rfl) pe_int)
  (pss_cons (ps_for PassesOwn.never rfl (pi_tup (pv 0)) (pg_name (i := 3) sc_key_of.nd rfl (Or.inl rfl)) (pss_one (ps_set (i := 2) sc_key_of.nd rfl (Or.inl rfl) (pe_op op_add (pe_op op_mul (pv 2) (pv 1)) (pv 3)))))
  (pss_one (ps_ret (pv 2))))), ?_⟩
    refine ⟨_, rfl, a, rfl, ⟨_, hS⟩, ?_⟩
    refine for_tup (K := K) (xs := p.map V.int) (fun i σ H2 => ∃ y, σ = [some (.ref a), some (.int b), some (.int (keyP b (p.take i))), y] ∧ H2 = H) ⟨none, rfl, rfl⟩ ?_ ?_ ?_
    · rintro i σ H2 _ ⟨_, _, rfl⟩
      exact hS
    · rintro i x σ H2 hx ⟨y, rfl, rfl⟩
      obtain ⟨hi, rfl⟩ := getm hx
      refine ⟨_, rfl, _, rfl, _, _, rfl, rfl, .inr hb, _, rfl, _, _, rfl, rfl, ?_⟩
      refine ⟨some (V.int p[i]), ?_, rfl⟩
      rw [List.take_add_one, List.getElem?_eq_getElem hi]
      show _ = [some (V.ref a), some (V.int b), some (V.int (keyP b (p.take i ++ [p[i]]))), _]
      rw [keyP_snoc]
      rfl
    · rintro σ H2 ⟨y, rfl, rfl⟩
      rw [List.length_map, List.take_length]
      exact ⟨_, rfl, q⟩
def spPO : Sp := fun vs H Q _ => ∃ (p : Pl) (h : Nat), vs = [.int (keyP (2 * (h : Int) + 1) p), .int (2 * (h : Int) + 1), .int (p.length : Int)] ∧ Within h p ∧ p.length ≤ 1000 ∧ h ≤ 100000000 ∧ ∀ q H', Same H H' → H' q = some (.tup (p.map V.int)) → Q (.ref q) H'
theorem c_place_of {f : Addr} {fd : FuncData} (D : C8.Def K mg "place_of" s_place_of f fd) (b : Binds K fd ["key", "base", "length"] []) (T : Bi mg) : C8.Cal P w K mg base 1 "place_of" spPO [] := by
  refine C8.cal0 D b .nil sc_place_of (fun vs H Q E h => ?_) (fun cdv A outer s H vs Q E hr h => ?_)
  · obtain ⟨p, h, rfl, _⟩ := h
    rfl
  · obtain ⟨p, h, rfl, hw, hl, hh, q⟩ := h
    refine ⟨_, (pss_cons (ps_set (i := 3) sc_place_of.nd rfl (Or.inl rfl) (pe_op op_fdiv (pv 1) pe_int))
  (pss_cons (ps_set (i := 4) sc_place_of.nd rfl (Or.inl rfl) (pe_lst pa_nil))
  (pss_cons (ps_for PassesOwn.never rfl (pi_range1 rfl T.n_range (pa_cons (pv 2) pa_nil)) (pg_name (i := 5) sc_place_of.nd rfl (Or.inl rfl)) (pss_cons (ps_set (i := 6) sc_place_of.nd rfl (Or.inl rfl) (pe_op op_sub (pe_op op_mod (pe_op op_add (pv 0) (pv 3)) (pv 1)) (pv 3)))
  (pss_cons (ps_expr (pe_bm PySem.F.plainAttrs_list PySem.F.slot_list_append PySem.F.type_list_append mt_append (pv 4) (pa_cons (pv 6) pa_nil)))
  (pss_one (ps_set (i := 0) sc_place_of.nd rfl (Or.inl rfl) (pe_op op_fdiv (pe_op op_sub (pv 0) (pv 6)) (pv 1)))))))
  (pss_one (ps_ret (pe_callTy call_tuple_of (by rfl) T.n_tuple OT.b_tuple (pa_cons (pe_revL (pv 4)) pa_nil))))))), ?_⟩
    refine ⟨_, rfl, _, _, rfl, rfl, ⟨by decide, by decide⟩, ?_⟩
    have e1 : (2 * (h : Int) + 1) / 2 = (h : Int) := by omega
    refine ⟨by decide, fun c nc => ?_⟩
    refine ⟨_, rfl, (p.length : Int), rfl, by omega, by omega, ?_⟩
    rw [Int.toNat_natCast]
    refine for_range (lo := 0) (n := p.length) (fun i σ H2 => ∃ y5 y6 : Option V, σ = [some (.int (keyP (2 * (h : Int) + 1) (p.take (p.length - i)))), some (.int (2 * (h : Int) + 1)), some (.int (p.length : Int)), some (.int (h : Int)), some (.ref c), y5, y6] ∧ Same H H2 ∧ H2 c = some (.lst ((p.reverse.take i).map V.int))) ?_ ?_ ?_
    · refine ⟨none, none, ?_, same_upd nc, upd_same⟩
      rw [Nat.sub_zero, List.take_length]
      show [_, _, _, some (V.int ((2 * (h : Int) + 1) / 2)), _, _, _] = _
      rw [e1]
    · rintro i σ H2 hi ⟨y5, y6, rfl, sm, hc⟩
      have hn : p.length - (i + 1) < p.length := by omega
      have hs : p.take (p.length - i) = p.take (p.length - (i + 1)) ++ [p[p.length - (i + 1)]] := by
        rw [show p.length - i = p.length - (i + 1) + 1 by omega, List.take_add_one, List.getElem?_eq_getElem hn]
        rfl
      have hr : p.reverse[i]? = some (p[p.length - (i + 1)]) := by
        rw [List.getElem?_reverse hi, List.getElem?_eq_getElem (by omega)]
        congr 2
        omega
      have hx := hw _ (List.getElem_mem hn)
      rw [hs, keyP_snoc]
      generalize p[p.length - (i + 1)] = x at hr hx ⊢
      generalize hk : keyP (2 * (h : Int) + 1) (p.take (p.length - (i + 1))) = k
      obtain ⟨d1, d2⟩ := digit (b := 2 * (h : Int) + 1) (k := k) rfl hx
      refine ⟨_, rfl, _, rfl, _, _, rfl, rfl, _, rfl, _, _, rfl, rfl, (by show (0 : Int) < 2 * (h : Int) + 1; omega), _, rfl, _, _, rfl, rfl, ?_⟩
      refine ⟨_, rfl, .inl ⟨rfl, _, .inl (.inl hc)⟩, _, rfl, c, _, _, rfl, rfl, hc, ?_, ?_⟩
      · rw [List.length_map, List.length_take]
        exact small1000 (by omega)
      · refine ⟨_, rfl, _, rfl, _, _, rfl, rfl, _, rfl, _, _, rfl, rfl, ⟨by omega, by omega⟩, ?_⟩
        refine ⟨some (V.int (0 + (i : Int))), some (V.int x), ?_, same_mut sm nc, ?_⟩
        · show [some (V.int ((k * (2 * (h : Int) + 1) + x - ((k * (2 * (h : Int) + 1) + x + (h : Int)) % (2 * (h : Int) + 1) - (h : Int))) / (2 * (h : Int) + 1))), _, _, _, _, _, some (V.int ((k * (2 * (h : Int) + 1) + x + (h : Int)) % (2 * (h : Int) + 1) - (h : Int)))] = _
          rw [d1, d2]
        · rw [upd_same, List.take_add_one, hr]
          show some (HO.lst (_ ++ [V.int ((k * (2 * (h : Int) + 1) + x + (h : Int)) % (2 * (h : Int) + 1) - (h : Int))])) = _
          rw [d1, List.map_append]
          rfl
    · rintro σ H2 ⟨y5, y6, rfl, sm, hc⟩
      rw [← List.length_reverse, List.take_length] at hc
      refine ⟨_, rfl, c, _, rfl, .inl (.inl hc), fun r nr => ?_⟩
      refine ⟨r, _, rfl, .inl ⟨.inl (.inl upd_same), fun l nl => ?_⟩⟩
      refine q l _ ((sm.trans (same_upd nr)).trans (same_upd nl)) ?_
      rw [upd_same, ← List.map_reverse, List.reverse_reverse]
end
end OT

set_option Elab.async false
set_option linter.all false
set_option maxRecDepth 100000
set_option maxHeartbeats 2000000
namespace OT
open PySem PySem.Spec PyProof.Rows L2
/-- pairs of a key and a number in the heap -/
def KpAt (H : Hp) (v : V) (e : Int × Int) : Prop := ∃ t, v = .ref t ∧ H t = some (.tup [.int e.1, .int e.2])
inductive Kps (H : Hp) : List V → List (Int × Int) → Prop
  | nil : Kps H [] []
  | cons {v : V} {e : Int × Int} {vs : List V} {es : List (Int × Int)} : KpAt H v e → Kps H vs es → Kps H (v :: vs) (e :: es)
theorem Kps.len {H : Hp} {vs : List V} {es : List (Int × Int)} (h : Kps H vs es) : vs.length = es.length := by
  induction h with
  | nil => rfl
  | cons _ _ ih => rw [List.length_cons, List.length_cons, ih]
theorem KpAt.mono {H H' : Hp} {v : V} {e : Int × Int} (s : Same H H') (h : KpAt H v e) : KpAt H' v e := by
  obtain ⟨t, rfl, h1⟩ := h
  exact ⟨t, rfl, s _ _ h1⟩
theorem Kps.mono {H H' : Hp} {vs : List V} {es : List (Int × Int)} (s : Same H H') (h : Kps H vs es) : Kps H' vs es := by
  induction h with
  | nil => exact .nil
  | cons h1 _ ih => exact .cons (h1.mono s) ih
theorem Kps.app {H : Hp} {vs ws : List V} {es fs : List (Int × Int)} (h : Kps H vs es) (g : Kps H ws fs) : Kps H (vs ++ ws) (es ++ fs) := by
  induction h with
  | nil => exact g
  | cons h1 _ ih => exact .cons h1 ih
theorem Kps.get {H : Hp} {vs : List V} {es : List (Int × Int)} (h : Kps H vs es) : ∀ {i : Nat} {v : V}, vs[i]? = some v → ∃ e, es[i]? = some e ∧ KpAt H v e := by
  induction h with
  | nil => intro i v h; simp at h
  | cons h1 _ ih =>
    intro i v hv
    cases i with
    | zero =>
      cases hv
      exact ⟨_, rfl, h1⟩
    | succ i => exact ih (i := i) hv
theorem KpAt.updL {H : Hp} {D : Addr} {l l' : List V} {v : V} {e : Int × Int} (hD : H D = some (.lst l)) (h : KpAt H v e) : KpAt (upd H D (.lst l')) v e := by
  obtain ⟨t, rfl, h1⟩ := h
  exact ⟨t, rfl, by rw [upd_ne (ne_lst h1 hD)]; exact h1⟩
theorem Kps.updL {H : Hp} {D : Addr} {l l' : List V} {vs : List V} {es : List (Int × Int)} (hD : H D = some (.lst l)) (h : Kps H vs es) : Kps (upd H D (.lst l')) vs es := by
  induction h with
  | nil => exact .nil
  | cons h1 _ ih => exact .cons (h1.updL hD) ih
/-- a dict of sums, its keys places as numbers -/
structure KSums (b : Int) (G : Pl → Prop) (kvs : List (Key × V)) (ks : List Pl) (f : Pl → Int) : Prop where
  keys : kvs.map (·.1) = ks.map fun k => (Sum.inl (keyP b k) : Key)
  val : ∀ k : Pl, G k → valV kvs (Sum.inl (keyP b k)) = if k ∈ ks then some (V.int (f k)) else none
  out : ∀ k, k ∉ ks → f k = 0
  gd : ∀ k ∈ ks, G k
  nod : ks.Nodup
theorem KSums.nil {b : Int} {G : Pl → Prop} : KSums b G [] [] (fun _ => 0) := ⟨rfl, fun k _ => rfl, fun _ _ => rfl, fun k h => (by cases h), .nil⟩
theorem KSums.len {b : Int} {G : Pl → Prop} {kvs : List (Key × V)} {ks : List Pl} {f : Pl → Int} (h : KSums b G kvs ks f) : kvs.length = ks.length := by
  have := congrArg List.length h.keys
  rwa [List.length_map, List.length_map] at this
theorem KSums.put {b : Int} {G : Pl → Prop} (inj : ∀ k l, G k → G l → keyP b k = keyP b l → k = l) {kvs : List (Key × V)} {ks : List Pl} {f : Pl → Int} (h : KSums b G kvs ks f) (k : Pl) (hk : G k) (n : Int) :
    KSums b G (putK kvs (Sum.inl (keyP b k)) (.int (f k + n))) (if k ∈ ks then ks else ks ++ [k]) (fun q => f q + if k = q then n else 0) := by
  have hv := h.val k hk
  refine ⟨?_, fun q hg => ?_, fun q hq => ?_, ?_, ?_⟩
  · by_cases m : k ∈ ks
    · rw [if_pos m] at hv ⊢
      rw [putK_keys (by rw [hv]; rfl), h.keys]
    · rw [if_neg m] at hv ⊢
      rw [putK_new _ hv, List.map_append, List.map_append, h.keys]
      rfl
  · rw [valV_put, h.val q hg]
    by_cases e : q = k
    · subst e
      rw [if_pos rfl, if_pos rfl, if_pos]
      by_cases m : q ∈ ks
      · rw [if_pos m]
        exact m
      · rw [if_neg m]
        exact List.mem_append_right _ List.mem_cons_self
    · have ne1 : ¬ ((Sum.inl (keyP b q) : Key) = Sum.inl (keyP b k)) := fun z => e (inj q k hg hk (Sum.inl.inj z))
      have ne2 : ¬ (k = q) := fun z => e z.symm
      rw [if_neg ne1, if_neg ne2]
      have mm : (q ∈ if k ∈ ks then ks else ks ++ [k]) ↔ q ∈ ks := by
        by_cases m : k ∈ ks
        · rw [if_pos m]
        · rw [if_neg m, List.mem_append, List.mem_singleton]
          exact ⟨fun z => z.elim id fun z => absurd z e, .inl⟩
      by_cases m : q ∈ ks
      · rw [if_pos m, if_pos (mm.mpr m), Int.add_zero]
      · rw [if_neg m, if_neg (fun z => m (mm.mp z))]
  · have hq2 : q ∉ ks ∧ k ≠ q := by
      by_cases m : k ∈ ks
      · rw [if_pos m] at hq
        exact ⟨hq, fun z => hq (z ▸ m)⟩
      · rw [if_neg m] at hq
        exact ⟨fun z => hq (List.mem_append_left _ z), fun z => hq (List.mem_append_right _ (z ▸ List.mem_cons_self))⟩
    show f q + (if k = q then n else 0) = 0
    rw [if_neg hq2.2, h.out q hq2.1]
    rfl
  · intro q hq
    by_cases m : k ∈ ks
    · rw [if_pos m] at hq
      exact h.gd q hq
    · rw [if_neg m] at hq
      rcases List.mem_append.mp hq with z | z
      · exact h.gd q z
      · rw [List.mem_singleton.mp z]
        exact hk
  · by_cases m : k ∈ ks
    · rw [if_pos m]
      exact h.nod
    · rw [if_neg m]
      exact List.nodup_append.mpr ⟨h.nod, List.nodup_cons.mpr ⟨fun z => (by cases z), .nil⟩, fun x hx y hy z => m (by rw [← List.mem_singleton.mp hy, ← z]; exact hx)⟩
theorem KSums.getD {b : Int} {G : Pl → Prop} {kvs : List (Key × V)} {ks : List Pl} {f : Pl → Int} (h : KSums b G kvs ks f) (k : Pl) (hk : G k) : (valV kvs (Sum.inl (keyP b k))).getD (.int 0) = .int (f k) := by
  rw [h.val k hk]
  by_cases m : k ∈ ks
  · rw [if_pos m]
    rfl
  · rw [if_neg m, h.out k m]
    rfl
theorem perm_map {f : Pl → Int} {ys zs : List Int} (h : ys.Perm zs) : ∀ ks : List Pl, zs = ks.map f → ∃ out : List Pl, ys = out.map f ∧ out.Perm ks := by
  induction h with
  | nil =>
    intro ks e
    cases ks with
    | nil => exact ⟨[], rfl, .nil⟩
    | cons k r => cases e
  | cons x _ ih =>
    intro ks e
    cases ks with
    | nil => cases e
    | cons k r =>
      obtain ⟨e1, e2⟩ := List.cons.inj e
      obtain ⟨out, o1, o2⟩ := ih r e2
      exact ⟨k :: out, by rw [List.map_cons, ← e1, ← o1], .cons k o2⟩
  | swap x y l =>
    intro ks e
    match ks, e with
    | [], e => cases e
    | [_], e => cases e
    | k :: k2 :: r, e =>
      obtain ⟨e1, e2⟩ := List.cons.inj e
      obtain ⟨e3, e4⟩ := List.cons.inj e2
      exact ⟨k2 :: k :: r, by rw [List.map_cons, List.map_cons, ← e1, ← e3, ← e4], .swap _ _ _⟩
  | trans _ _ ih1 ih2 =>
    intro ks e
    obtain ⟨o2, e2, p2⟩ := ih2 ks e
    obtain ⟨o1, e1, p1⟩ := ih1 o2 e2
    exact ⟨o1, e1, p1.trans p2⟩
section
variable {P : Program} {w : World} {K : PySem.W.Frag} {mg : Str → Option Value} {base : Heap}
def keyL (b : Int) (es : List Ent) : List (Int × Int) := es.map fun e => (keyP b e.1, e.2)
def spKeyed (K : PySem.W.Frag) : Sp := fun vs H Q _ => ∃ (a : Addr) (xs : List V) (es : List Ent) (b : Int), vs = [.ref a, .int b] ∧ SqL K H a xs ∧ Ents H xs es ∧ es.length ≤ 1000 ∧ (-(2 ^ 64) < b ∧ b < 2 ^ 64) ∧ ∀ p ws H', Same H H' → H p = none → H' p = some (.lst ws) → Kps H' ws (keyL b es) → Q (.ref p) H'
theorem c_keyed {f : Addr} {fd : FuncData} (D : C8.Def K mg "keyed" s_keyed f fd) (b : Binds K fd ["row", "base"] []) (T : Bi mg) (c_key_of : C8.Cal P w K mg base 1 "key_of" (spKO K) []) : C8.Cal P w K mg base 2 "keyed" (spKeyed K) [] := by
  refine C8.cal0 D b .nil sc_keyed (fun vs H Q E h => ?_) (fun cdv A outer s H vs Q E hr h => ?_)
  · obtain ⟨a, xs, es, b, rfl, _⟩ := h
    rfl
  · obtain ⟨a, xs, es, b, rfl, hS, hE, hz, hb, q⟩ := h
    refine ⟨_, (pss_one (ps_ret (pe_lc (own := [("place", 2), ("number", 3)]) (g := (gTup K 2 (gCons (gName 2) (gCons (gName 3) gNil)))) (tt := tYes) rfl sc_keyed.nd (pi_list (pv 0)) (blkOk_by (N := ["row", "base", "place", "number"]) (sc := C8.fnScope s_keyed) (by decide +kernel)) (fun _ _ _ _ _ => (pg_tup rfl (pgs_cons (pg_name (i := 2) sc_keyed.nd rfl (Or.inl rfl)) (pgs_cons (pg_name (i := 3) sc_keyed.nd rfl (Or.inl rfl)) pgs_nil)))) (fun _ _ _ _ _ => pts_nil) (fun _ _ _ _ _ => (pe_tup (pa_cons (C8.pe_c c_key_of hr (by decide) (by rfl) (pa_cons (pv 2) (pa_cons (pv 1) pa_nil))) (pa_cons (pv 3) pa_nil))))))), ?_⟩
    have hx := hE.len
    refine ⟨_, rfl, a, rfl, ⟨_, hS⟩, fun p np => ?_⟩
    refine lc_list (K := K) (xs := xs) (fun i H2 => Same H H2 ∧ ∃ ws, H2 p = some (.lst ws) ∧ Kps H2 ws (keyL b (es.take i))) ?_ ?_ ?_ ?_
    · exact ⟨same_upd np, [], upd_same, .nil⟩
    · rintro i H2 _ ⟨sm, _⟩
      exact sm.seq hS
    · rintro i x H2 hxi ⟨sm, ws, hp, hW⟩
      obtain ⟨e, he, t, pe, rfl, ht, hpe⟩ := (hE.mono sm).get hxi
      obtain ⟨hi, hee⟩ := List.getElem?_eq_some_iff.mp he
      refine ⟨t, _, rfl, .inl (.inl ht), rfl, _, _, rfl, _, _, rfl, rfl, rfl, tYes_of ?_⟩
      refine ⟨_, rfl, _, rfl, pe, e.1, b, rfl, .inl (.inl hpe), hb, ?_⟩
      refine ⟨_, rfl, (by show 2 ≤ sizeLine; decide), fun t4 nt4 => ?_⟩
      have sm4 : Same H2 (upd H2 t4 (.tup [.int (keyP b e.1), .int e.2])) := same_upd nt4
      have hv : KpAt (upd H2 t4 (.tup [.int (keyP b e.1), .int e.2])) (.ref t4) (keyP b e.1, e.2) := ⟨t4, rfl, upd_same⟩
      have hD := sm4 _ _ hp
      have hwl := hW.len
      refine ⟨ws, hD, ?_, same_mut (sm.trans sm4) np, ws ++ [.ref t4], upd_same, ?_⟩
      · unfold keyL at hwl
        rw [List.length_map, List.length_take] at hwl
        exact small100k (by omega)
      · unfold keyL
        rw [take_snoc he, List.map_append]
        exact ((hW.mono sm4).app (.cons hv .nil)).updL hD
    · rintro H2 ⟨sm, ws, hp, hW⟩
      rw [hx, List.take_length] at hW
      exact q p ws H2 sm np hp hW
def Gd (h n : Nat) (k : Pl) : Prop := k.length = n ∧ Within h k
def spUnk : Sp := fun vs H Q _ => ∃ (d : Addr) (h n : Nat) (kvs : List (Key × V)) (ks : List Pl) (es : List Ent), vs = [.ref d, .int (2 * (h : Int) + 1), .int (n : Int)] ∧ H d = some (.dK kvs) ∧ KSums (2 * (h : Int) + 1) (Gd h n) kvs ks (numAt es) ∧ ks.length ≤ 10000 ∧ n ≤ 1000 ∧ h ≤ 100000000 ∧ wantRow H es Q
theorem c_unkeyed {f : Addr} {fd : FuncData} (D : C8.Def K mg "unkeyed" s_unkeyed f fd) (b : Binds K fd ["numbers", "base", "length"] []) (T : Bi mg) (c_place_of : C8.Cal P w K mg base 1 "place_of" spPO []) : C8.Cal P w K mg base 2 "unkeyed" spUnk [] := by
  refine C8.cal0 D b .nil sc_unkeyed (fun vs H Q E h => ?_) (fun cdv A outer s H vs Q E hr h => ?_)
  · obtain ⟨d, h, n, kvs, ks, es, rfl, _⟩ := h
    rfl
  · obtain ⟨d, h, n, kvs, ks, es, rfl, hd, hs, hkl, hn, hh, q⟩ := h
    refine ⟨_, (pss_one (ps_ret (pe_lc (own := [("key", 3)]) (g := (gName 3)) rfl sc_unkeyed.nd (pi_list (pe_callB (OW.cr_sortedDI rfl) (by rfl) T.n_sorted OT.b_sorted (pa_cons (pv 0) pa_nil))) (blkOk_by (N := ["numbers", "base", "length", "key"]) (sc := C8.fnScope s_unkeyed) (by decide +kernel)) (fun _ _ _ _ _ => (pg_name (i := 3) sc_unkeyed.nd rfl (Or.inl rfl))) (fun _ _ _ _ _ => (pts_one (pt_cmpR op_ne (pe_dget (hu_of hr) (pv 0) (pv 3) (fun _ _ => rfl)) pe_int (nomark _)))) (fun _ _ _ _ _ => (pe_tup (pa_cons (C8.pe_c c_place_of hr (by decide) (by rfl) (pa_cons (pv 3) (pa_cons (pv 1) (pa_cons (pv 2) pa_nil)))) (pa_cons (pe_dget (hu_of hr) (pv 0) (pv 3) (fun _ _ => rfl)) pa_nil))))))), ?_⟩
    refine ⟨_, rfl, d, kvs, ks.map (keyP (2 * (h : Int) + 1)), rfl, .inl hd, ?_, fun ys p perm pw np => ?_⟩
    · rw [hs.keys, List.map_map]
      rfl
    obtain ⟨out, rfl, perm2⟩ := perm_map perm ks rfl
    have hgd : ∀ k ∈ out, Gd h n k := fun k hk => hs.gd k (perm2.mem_iff.mp hk)
    have pw2 : out.Pairwise fun a b => HT.lexLt b a = false := by
      refine List.Pairwise.imp_of_mem (fun {a b} ha hb hab => ?_) (List.pairwise_map.mp pw)
      exact keyP_le rfl ((hgd a ha).1.trans (hgd b hb).1.symm) (hgd a ha).2 (hgd b hb).2 hab
    refine ⟨p, rfl, ⟨_, .inl (.inl upd_same)⟩, fun D nD => ?_⟩
    have hpD : p ≠ D := ne_of_none upd_same nD
    obtain ⟨hDn, _⟩ := none_of_upd nD
    have hlo : out.length = ks.length := perm2.length_eq
    refine lc_list (K := K) (a := p) (xs := (out.map (keyP (2 * (h : Int) + 1))).map V.int) (fun i H2 => Same H H2 ∧ H2 p = some (.lst ((out.map (keyP (2 * (h : Int) + 1))).map V.int)) ∧ ∃ ws, H2 D = some (.lst ws) ∧ Ents H2 ws (mkR (numAt es) (out.take i))) ?_ ?_ ?_ ?_
    · refine ⟨(same_upd np).trans (same_upd nD), ?_, [], upd_same, .nil⟩
      rw [upd_ne hpD, upd_same]
    · rintro i H2 _ ⟨_, hp, _⟩
      exact .inl (.inl hp)
    · rintro i x H2 hx ⟨sm, hp, ws, hD, hE⟩
      rw [List.map_map] at hx
      obtain ⟨hi, rfl⟩ := getm hx
      have hm := List.getElem_mem hi
      have hg := hgd _ hm
      have hv := hs.val _ hg
      rw [if_pos (perm2.mem_iff.mp hm)] at hv
      have hd2 := sm _ _ hd
      have hget : DGet H2 d (.int (keyP (2 * (h : Int) + 1) out[i])) (some (.int (numAt es out[i]))) := by
        rw [← hv]
        exact DGet.k (k := Sum.inl (keyP (2 * (h : Int) + 1) out[i])) hd2
      refine ⟨rfl, _, rfl, _, rfl, d, _, rfl, hget, ?_⟩
      refine ⟨rfl, _, rfl, ?_⟩
      have htk : out.take (i + 1) = out.take i ++ [out[i]] := by
        rw [List.take_add_one, List.getElem?_eq_getElem hi]
        rfl
      rw [htk, mkR_snoc]
      refine iteND (fun hn' => ?_) (fun h0 => ?_)
      · have hn0 : numAt es out[i] ≠ 0 := fun z => hn' (by rw [z])
        rw [if_neg hn0]
        refine ⟨_, rfl, _, rfl, _, rfl, out[i], h, ?_, hg.2, by rw [hg.1]; exact hn, hh, fun q2 H3 sm3 hq2 => ?_⟩
        · rw [hg.1]
          rfl
        have hd3 := sm3 _ _ hd2
        have hget3 : DGet H3 d (.int (keyP (2 * (h : Int) + 1) out[i])) (some (.int (numAt es out[i]))) := by
          rw [← hv]
          exact DGet.k (k := Sum.inl (keyP (2 * (h : Int) + 1) out[i])) hd3
        refine ⟨_, rfl, _, rfl, d, _, rfl, hget3, (by show 2 ≤ sizeLine; decide), fun t nt => ?_⟩
        have smt : Same H3 (upd H3 t (.tup [.ref q2, .int (numAt es out[i])])) := same_upd nt
        have smA := sm3.trans smt
        have hD3 := smA _ _ hD
        refine ⟨ws, hD3, ?_, same_mut (sm.trans smA) hDn, ?_, ws ++ [.ref t], upd_same, ?_⟩
        · have h1 := hE.len
          have h2 := mkR_len (numAt es) (out.take i)
          rw [List.length_take] at h2
          exact small100k (by omega)
        · rw [upd_ne hpD]
          exact smA _ _ hp
        · refine ((hE.mono smA).updL hD3).app (.cons (EntAt.updL hD3 ⟨t, _, rfl, upd_same, ?_⟩) .nil)
          exact smt _ _ hq2
      · have h0' : numAt es out[i] = 0 := V.int.inj h0
        rw [if_pos h0', List.append_nil]
        exact ⟨sm, hp, ws, hD, hE⟩
    · rintro H2 ⟨sm, hp, ws, hD, hE⟩
      rw [List.length_map, List.length_map, List.take_length] at hE
      exact q _ D ws H2 (row_sorted perm2 pw2 hs.nod hs.out) sm hDn hD hE
end
end OT

set_option Elab.async false
set_option linter.all false
set_option maxRecDepth 100000
set_option maxHeartbeats 2000000
namespace OT
open PySem PySem.Spec PyProof.Rows L2
/-- the products of all pairs of entries -/
def rowT (e : Ent) (fs : List Ent) : List Ent := fs.map fun g => (plusP e.1 g.1, e.2 * g.2)
def timesL (es fs : List Ent) : List Ent := es.flatMap fun e => rowT e fs
theorem timesL_snoc (es fs : List Ent) (e : Ent) : timesL (es ++ [e]) fs = timesL es fs ++ rowT e fs := by
  unfold timesL
  rw [List.flatMap_append]
  simp
theorem Kps.updK {H : Hp} {D : Addr} {l l' : List (Key × V)} {vs : List V} {es : List (Int × Int)} (hD : H D = some (.dK l)) (h : Kps H vs es) : Kps (upd H D (.dK l')) vs es := by
  induction h with
  | nil => exact .nil
  | cons h1 _ ih =>
    obtain ⟨t, rfl, h1⟩ := h1
    refine .cons ⟨t, rfl, ?_⟩ ih
    rw [upd_ne (fun z => by rw [z, hD] at h1; cases h1)]
    exact h1
theorem dimE_eq {es : List Ent} {n : Nat} (h : ∀ e ∈ es, e.1.length = n) (hp : es ≠ []) : dimE es = n := by
  cases es with
  | nil => exact absurd rfl hp
  | cons e r => exact h e List.mem_cons_self
theorem put_klen {ks : List Pl} {e : Pl} {i : Nat} (h : ks.length ≤ i) : (if e ∈ ks then ks else ks ++ [e]).length ≤ i + 1 := by
  by_cases m : e ∈ ks
  · rw [if_pos m]
    omega
  · rw [if_neg m, List.length_append, List.length_singleton]
    omega
theorem reach_le {es : List Ent} {h C : Nat} (hr : ReachIs es h) (hc : ∀ e ∈ es, ∀ x ∈ e.1, x.natAbs ≤ C) : h ≤ C := hr.2 C fun e he x hx => hc e he x hx
section
variable {P : Program} {w : World} {K : PySem.W.Frag} {mg : Str → Option Value} {base : Heap}
def spSDT (K : PySem.W.Frag) (M : Addr) : Sp := fun vs H Q E => ∃ (a b : Addr) (us : List V) (ess : List (List Ent)), vs = [.ref a, .ref b] ∧ SqL K H a us ∧ RowsAt H us ess ∧ SqT K H b [] ∧ ess.length ≤ 1000 ∧
  (mixL ((dims ess).filter nz) = true → ∀ d H', Same H H' → H' d = some (.xd errM) → E (.ref M) (some d) H') ∧ (mixL ((dims ess).filter nz) = false → ∀ H', Same H H' → Q .non H')
theorem ok_same_dimensionT {f M fS : Addr} {fd fdS : FuncData} (D : C8.Def K mg "same_dimension" s_same_dimension f fd) (T : Bi mg) (DS : C8.Def K mg "same_lengths" s_same_lengths fS fdS) (bS : Binds K fdS ["lengths"] []) (GS : FnOk P w K mg base (L2.CX P w) 3 fS fdS ["lengths"] (spSL K M))
    (c_places_length : C8.Cal P w K mg base 1 "places_length" (spPLen K) []) : FnOk P w K mg base (L2.CX P w) 4 f fd ["rows", "places"] (spSDT K M) := by
  obtain ⟨oc, od, dV, kV, doc, pm, an, cdv, ct, osl, rfl, lk, hcd⟩ := D.fn.ex
  refine fn_of lk hcd sc_same_dimension (fun vs H Q E h => ?_) fun A outer s H vs Q E hr h => ?_
  · obtain ⟨a, b, us, ess, rfl, _⟩ := h
    rfl
  · obtain ⟨a, b, us, ess, rfl, ha, hR, hb, z1, qE, qN⟩ := h
    refine ⟨_, (pss_one (ps_expr (pe_callS GS hr rfl DS.mgf DS.kp bS (fun σ => passAt (takes_of rfl rfl rfl rfl) σ) (pa_cons (pe_op op_cat (pe_lc (own := [("row", 2)]) (g := (gName 2)) (tt := tYes) rfl sc_same_dimension.nd (pi_list (pv 0)) (blkOk_by (N := ["rows", "places", "row", "place"]) (sc := C8.fnScope s_same_dimension) (by decide +kernel)) (fun _ _ _ _ _ => (pg_name (i := 2) sc_same_dimension.nd rfl (Or.inl rfl))) (fun _ _ _ _ _ => pts_nil) (fun _ _ _ _ _ => (C8.pe_c c_places_length hr (by decide) (by rfl) (pa_cons (pv 2) pa_nil)))) (pe_lc (own := [("place", 3)]) (g := (gName 3)) (tt := tYes) rfl sc_same_dimension.nd (pi_tup (pv 1)) (blkOk_by (N := ["rows", "places", "row", "place"]) (sc := C8.fnScope s_same_dimension) (by decide +kernel)) (fun _ _ _ _ _ => (pg_name (i := 3) sc_same_dimension.nd rfl (Or.inl rfl))) (fun _ _ _ _ _ => pts_nil) (fun _ _ _ _ _ => (pe_callB (show CallR _ _ (Evl.rLenS K) from call_len_seq) (by rfl) T.n_len OT.b_len (pa_cons (pv 3) pa_nil))))) pa_nil)))), ?_⟩
    have l1 := hR.len
    refine ⟨_, rfl, a, rfl, ⟨_, ha⟩, fun p np => ?_⟩
    refine lc_list (K := K) (xs := us) (fun i H2 => Same H H2 ∧ H2 p = some (.lst ((dims (ess.take i)).map V.int))) ?_ ?_ ?_ ?_
    · exact ⟨same_upd np, upd_same⟩
    · rintro i H2 _ ⟨sm, _⟩
      exact sm.seq ha
    · rintro i x H2 hx ⟨sm, hp⟩
      obtain ⟨a1, xs, es, rfl, he, h1, h2⟩ := (hR.mono sm).get hx
      have hi := (List.getElem?_eq_some_iff.mp he).1
      refine ⟨rfl, tYes_of ?_⟩
      refine ⟨_, rfl, a1, xs, es, rfl, .inl (.inl h1), h2, _, hp, ?_, same_mut sm np, ?_⟩
      · unfold dims
        rw [List.length_map, List.length_map, List.length_take]
        exact small1000 (by omega)
      · rw [upd_same, dims_snoc he]
    · rintro H2 ⟨sm2, hp⟩
      rw [l1, List.take_length] at hp
      refine ⟨_, rfl, b, rfl, ⟨_, same_t sm2 hb⟩, fun p3 np3 => ?_⟩
      refine lc_tup (K := K) (xs := []) (fun i H3 => Same H2 H3 ∧ H3 p3 = some (.lst [])) ?_ ?_ ?_ ?_
      · exact ⟨same_upd np3, upd_same⟩
      · rintro i H3 _ ⟨sm, _⟩
        exact same_t (sm2.trans sm) hb
      · rintro i x H3 hx ⟨sm, hp3⟩
        cases hx
      · rintro H3 ⟨sm3, hp3⟩
        have sA := sm2.trans sm3
        have d1 : (dims ess).length = ess.length := List.length_map _
        refine ⟨p, p3, _, _, rfl, rfl, sm3 _ _ hp, hp3, ?_, fun p4 np4 => ?_⟩
        · rw [List.length_map, d1]
          exact Nat.le_of_lt (small100k (by show ess.length + 0 ≤ 100000; omega))
        have s4 : Same H3 (upd H3 p4 (.lst ((dims ess).map V.int ++ []))) := same_upd np4
        have sB := sA.trans s4
        refine ⟨p4, dims ess, rfl, .inl (.inl ?_), ?_, fun hm d H5 sm5 hd => qE hm d H5 (sB.trans sm5) hd, fun hm H5 sm5 => qN hm H5 (sB.trans sm5)⟩
        · rw [upd_same, List.append_nil]
        · rw [d1]
          omega
/-- two rows that are handed to a def of two rows -/
structure TwoR (K : PySem.W.Frag) (H : Hp) (a b : Addr) (xs ys : List V) (es fs : List Ent) (n m C : Nat) : Prop where
  ha : H a = some (.lst xs)
  hb : H b = some (.lst ys)
  e : Ents H xs es
  f : Ents H ys fs
  ze : es.length ≤ 1000
  zf : fs.length ≤ 1000
  de : ∀ e ∈ es, e.1.length = n
  df : ∀ e ∈ fs, e.1.length = m
  n3 : n ≤ 3
  m3 : m ≤ 3
  ce : ∀ e ∈ es, ∀ x ∈ e.1, x.natAbs ≤ C
  cf : ∀ e ∈ fs, ∀ x ∈ e.1, x.natAbs ≤ C
  c : C ≤ 1000000
theorem TwoR.mono {H H' : Hp} {a b : Addr} {xs ys : List V} {es fs : List Ent} {n m C : Nat} (s : Same H H') (h : TwoR K H a b xs ys es fs n m C) : TwoR K H' a b xs ys es fs n m C :=
  ⟨s _ _ h.ha, s _ _ h.hb, h.e.mono s, h.f.mono s, h.ze, h.zf, h.de, h.df, h.n3, h.m3, h.ce, h.cf, h.c⟩
def spMul (K : PySem.W.Frag) (M : Addr) : Sp := fun vs H Q E => ∃ (a b : Addr) (xs ys : List V) (es fs : List Ent) (n m C : Nat), vs = [.ref a, .ref b] ∧ TwoR K H a b xs ys es fs n m C ∧ es.length * fs.length < 2000 ∧ (∀ g ∈ fs, -(2 ^ 64) < g.2 ∧ g.2 < 2 ^ 64) ∧
  (mixL ((dims [es, fs]).filter nz) = true → ∀ d H', Same H H' → H' d = some (.xd errM) → E (.ref M) (some d) H') ∧
  (mixL ((dims [es, fs]).filter nz) = false → (es ≠ [] → fs ≠ [] → n = m) ∧ wantRow H (timesL es fs) Q)
theorem ok_multiply {f M fD A0 : Addr} {fd fdD : FuncData} {ds : List Value} (D : C8.Def K mg "multiply" s_multiply f fd) (T : Bi mg) (DD : C8.Def K mg "same_dimension" s_same_dimension fD fdD) (bD : Binds K fdD ["rows", "places"] ds) (hdv : Vals [V.ref A0] ds) (hA0 : ∀ H, SqT K H A0 [])
    (GD : FnOk P w K mg base (L2.CX P w) 4 fD fdD ["rows", "places"] (spSDT K M)) (c_key_base : C8.Cal P w K mg base 2 "key_base" (spKB K) []) (c_keyed : C8.Cal P w K mg base 2 "keyed" (spKeyed K) []) (c_unkeyed : C8.Cal P w K mg base 2 "unkeyed" spUnk []) (c_places_length : C8.Cal P w K mg base 1 "places_length" (spPLen K) []) : FnOk P w K mg base (L2.CX P w) 5 f fd ["first", "second"] (spMul K M) := by
  obtain ⟨oc, od, dV, kV, doc, pm, an, cdv, ct, osl, rfl, lk, hcd⟩ := D.fn.ex
  refine fn_of lk hcd sc_multiply (fun vs H Q E h => ?_) fun A outer s H vs Q E hr h => ?_
  · obtain ⟨a, b, xs, ys, es, fs, n, m, C, rfl, _⟩ := h
    rfl
  · obtain ⟨a, b, xs, ys, es, fs, n, m, C, rfl, R, hz, hnum, qE, qN⟩ := h
    refine ⟨_, (pss_cons (ps_expr (pe_callSD GD hr rfl DD.mgf DD.kp bD hdv (fun σ => passAt (takes_of rfl rfl rfl rfl) σ) (pa_cons (pe_lst (pa_cons (pv 0) (pa_cons (pv 1) pa_nil))) pa_nil)))
  (pss_cons (ps_set (i := 2) sc_multiply.nd rfl (Or.inl rfl) (C8.pe_c c_key_base hr (by decide) (by rfl) (pa_cons (pv 0) (pa_cons (pv 1) pa_nil))))
  (pss_cons (ps_set (i := 3) sc_multiply.nd rfl (Or.inl rfl) (C8.pe_c c_keyed hr (by decide) (by rfl) (pa_cons (pv 1) (pa_cons (pv 2) pa_nil))))
  (pss_cons (ps_set (i := 4) sc_multiply.nd rfl (Or.inl rfl) pe_dnewK)
  (pss_cons (ps_for (passes_of rfl) rfl (pi_list (C8.pe_c c_keyed hr (by decide) (by rfl) (pa_cons (pv 0) (pa_cons (pv 2) pa_nil)))) (pg_tup rfl (pgs_cons (pg_name (i := 5) sc_multiply.nd rfl (Or.inl rfl)) (pgs_cons (pg_name (i := 6) sc_multiply.nd rfl (Or.inl rfl)) pgs_nil))) (pss_one (ps_for (passes_of rfl) rfl (pi_list (pv 3)) (pg_tup rfl (pgs_cons (pg_name (i := 7) sc_multiply.nd rfl (Or.inl rfl)) (pgs_cons (pg_name (i := 8) sc_multiply.nd rfl (Or.inl rfl)) pgs_nil))) (pss_one (ps_dput (hu_of hr) (pv 4) (pe_op op_add (pv 5) (pv 7)) (pe_op op_add (pe_dget2 (hu_of hr) (pv 4) (pe_op op_add (pv 5) (pv 7)) pe_int ⟨rfl, rfl, rfl, rfl⟩) (pe_op op_mul (pv 6) (pv 8))) rfl)))))
  (pss_one (ps_ret (C8.pe_c c_unkeyed hr (by decide) (by rfl) (pa_cons (pv 4) (pa_cons (pv 2) (pa_cons (C8.pe_c c_places_length hr (by decide) (by rfl) (pa_cons (pv 0) pa_nil)) pa_nil))))))))))), ?_⟩
    refine ⟨_, rfl, _, rfl, (by show 2 ≤ sizeLine; decide), fun p1 np1 => ?_⟩
    have s1 : Same H (upd H p1 (.lst [.ref a, .ref b])) := same_upd np1
    refine ⟨p1, A0, [.ref a, .ref b], [es, fs], rfl, .inl (.inl upd_same), .cons (s1 _ _ R.ha) (R.e.mono s1) (.cons (s1 _ _ R.hb) (R.f.mono s1) .nil), hA0 _, (by show 2 ≤ 1000; decide), fun hm d H3 sm hd => qE hm d H3 (s1.trans sm) hd, fun hm H3 sm3 => ?_⟩
    have sA := s1.trans sm3
    obtain ⟨hnm, q⟩ := qN hm
    have R3 := R.mono sA
    clear hm qE qN
    refine ⟨_, rfl, _, rfl, a, b, xs, ys, es, fs, rfl, ⟨.inl (.inl R3.ha), R3.e, R3.ze, fun e he => by rw [R3.de e he]; exact R3.n3⟩, ⟨.inl (.inl R3.hb), R3.f, R3.zf, fun e he => by rw [R3.df e he]; exact R3.m3⟩, fun h g H4 hh hg s4 => ?_⟩
    have hN : h + g ≤ 2000000 := by
      have := reach_le hh R.ce
      have := reach_le hg R.cf
      have := R.c
      omega
    have hG : ∀ e ∈ es, ∀ z ∈ fs, Gd (h + g) (dimE es) (plusP e.1 z.1) ∧ e.1.length = z.1.length := fun e he z hz' => by
      have hne : es ≠ [] := fun y => by rw [y] at he; cases he
      have hnf : fs ≠ [] := fun y => by rw [y] at hz'; cases hz'
      have l1 := R.de e he
      have l2 := R.df z hz'
      have hl : e.1.length = z.1.length := l1.trans ((hnm hne hnf).trans l2.symm)
      refine ⟨⟨?_, fun x hx => ?_⟩, hl⟩
      · rw [plusP_len (Nat.le_of_eq hl), l1, dimE_eq R.de hne]
      · obtain ⟨u, hu, v, hv, rfl⟩ := plusP_mem hx
        have := hh.1 e he u hu
        have := hg.1 z hz' v hv
        omega
    have hd3 : dimE es ≤ 1000 := by
      by_cases hne : es = []
      · rw [hne]
        exact Nat.zero_le _
      · rw [dimE_eq R.de hne]
        have := R.n3
        omega
    have inj : ∀ k l, Gd (h + g) (dimE es) k → Gd (h + g) (dimE es) l → keyP (2 * ((h + g : Nat) : Int) + 1) k = keyP (2 * ((h + g : Nat) : Int) + 1) l → k = l := fun k l hk hl e => keyP_inj rfl (hk.1.trans hl.1.symm) hk.2 hl.2 e
    have hb64 : -(2 ^ 64) < 2 * ((h + g : Nat) : Int) + 1 ∧ 2 * ((h + g : Nat) : Int) + 1 < 2 ^ 64 := by
      have e1 : (2 : Int) ^ 64 = 18446744073709551616 := by decide
      omega
    clear hh hg
    have R4 := R3.mono s4
    have sB := sA.trans s4
    refine ⟨_, rfl, _, rfl, b, ys, fs, _, rfl, .inl (.inl R4.hb), R4.f, R4.zf, hb64, fun r ws2 H5 s5 nr hr5 hK2 => ?_⟩
    have R5 := R4.mono s5
    have sC := sB.trans s5
    refine fun d nd => ?_
    have s6 : Same H5 (upd H5 d (.dK [])) := same_upd nd
    have hd6 : (upd H5 d (.dK [])) d = some (.dK []) := upd_same
    generalize upd H5 d (.dK []) = H6 at s6 hd6 ⊢
    have R6 := R5.mono s6
    refine ⟨_, rfl, _, rfl, a, xs, es, _, rfl, .inl (.inl R6.ha), R6.e, R6.ze, hb64, fun p7 ws1 H7 s7 np7 hp7 hK1 => ?_⟩
    have s57 := s6.trans s7
    have hd7 := s7 _ _ hd6
    generalize hB : (2 * ((h + g : Nat) : Int) + 1) = B at inj hK1 hK2 hb64 ⊢
    have pne : p7 ≠ d := fun z => by
      rw [z, hd7] at hp7
      cases hp7
    refine ⟨p7, rfl, ⟨_, .inl (.inl hp7)⟩, ?_⟩
    refine for_list (K := K) (xs := ws1) (fun i σ H8 => ∃ (kvs : List (Key × V)) (ks : List Pl) (y5 y6 y7 y8 : Option V), σ = [some (.ref a), some (.ref b), some (.int B), some (.ref r), some (.ref d), y5, y6, y7, y8] ∧ Same H5 H8 ∧ H8 p7 = some (.lst ws1) ∧ Kps H8 ws1 (keyL B es) ∧ H8 d = some (.dK kvs) ∧ KSums B (Gd (h + g) (dimE es)) kvs ks (numAt (timesL (es.take i) fs)) ∧ ks.length ≤ i * fs.length) ?_ ?_ ?_ ?_
    · exact ⟨[], [], none, none, none, none, rfl, s57, hp7, hK1, hd7, KSums.nil, Nat.zero_le _⟩
    · rintro i σ H8 _ ⟨_, _, _, _, _, _, _, _, hp, _⟩
      exact .inl (.inl hp)
    · rintro i x σ H8 hx ⟨kvs, ks, y5, y6, y7, y8, rfl, sm, hp8, hK8, hd8, hs, hl⟩
      obtain ⟨ke, he', t, rfl, ht⟩ := hK8.get hx
      have hi : i < es.length := by
        have := (List.getElem?_eq_some_iff.mp he').1
        unfold keyL at this
        rwa [List.length_map] at this
      obtain ⟨e, hee⟩ : ∃ e, es[i]? = some e := ⟨_, List.getElem?_eq_getElem hi⟩
      have hem : e ∈ es := List.mem_of_getElem? hee
      have hke : ke = (keyP B e.1, e.2) := by
        unfold keyL at he'
        rw [List.getElem?_map, hee] at he'
        exact (Option.some.inj he').symm
      subst hke
      refine ⟨t, _, rfl, .inl (.inl ht), rfl, _, _, rfl, _, _, rfl, rfl, ?_⟩
      refine ⟨_, rfl, r, rfl, ⟨_, .inl (.inl (sm _ _ hr5))⟩, ?_⟩
      refine for_list (K := K) (xs := ws2) (fun j σ H9 => ∃ (kvs : List (Key × V)) (ks : List Pl) (y7 y8 : Option V), σ = [some (.ref a), some (.ref b), some (.int B), some (.ref r), some (.ref d), some (.int (keyP B e.1)), some (.int e.2), y7, y8] ∧ Same H5 H9 ∧ H9 p7 = some (.lst ws1) ∧ Kps H9 ws1 (keyL B es) ∧ H9 d = some (.dK kvs) ∧ KSums B (Gd (h + g) (dimE es)) kvs ks (numAt (timesL (es.take i) fs ++ rowT e (fs.take j))) ∧ ks.length ≤ i * fs.length + j) ?_ ?_ ?_ ?_
      · refine ⟨kvs, ks, y7, y8, rfl, sm, hp8, hK8, hd8, ?_, hl⟩
        rw [show rowT e (fs.take 0) = [] from rfl, List.append_nil]
        exact hs
      · rintro j σ H9 _ ⟨_, _, _, _, _, sm9, _⟩
        exact .inl (.inl (sm9 _ _ hr5))
      · rintro j x σ H9 hx ⟨kvs, ks, y7, y8, rfl, sm9, hp9, hK9, hd9, hs9, hl9⟩
        obtain ⟨kg, hg', t2, rfl, ht2⟩ := (hK2.mono sm9).get hx
        have hj : j < fs.length := by
          have := (List.getElem?_eq_some_iff.mp hg').1
          unfold keyL at this
          rwa [List.length_map] at this
        obtain ⟨z, hzz⟩ : ∃ z, fs[j]? = some z := ⟨_, List.getElem?_eq_getElem hj⟩
        have hzm : z ∈ fs := List.mem_of_getElem? hzz
        have hkg : kg = (keyP B z.1, z.2) := by
          unfold keyL at hg'
          rw [List.getElem?_map, hzz] at hg'
          exact (Option.some.inj hg').symm
        subst hkg
        obtain ⟨gd, gl⟩ := hG e hem z hzm
        have hk : keyP B (plusP e.1 z.1) = keyP B e.1 + keyP B z.1 := keyP_plus B gl
        have hget : DGet H9 d (.int (keyP B e.1 + keyP B z.1)) (valV kvs (Sum.inl (keyP B (plusP e.1 z.1)))) := by
          rw [← hk]
          exact DGet.k (k := Sum.inl (keyP B (plusP e.1 z.1))) hd9
        have hlt : kvs.length < sizeLine := by
          rw [hs9.len]
          have h1 : i * fs.length + fs.length ≤ es.length * fs.length := by
            rw [← Nat.succ_mul]
            exact Nat.mul_le_mul_right _ hi
          exact small100k (by omega)
        have hput : DPut H9 d (.int (keyP B e.1 + keyP B z.1)) (.int (numAt (timesL (es.take i) fs ++ rowT e (fs.take j)) (plusP e.1 z.1) + e.2 * z.2)) (upd H9 d (.dK (putK kvs (Sum.inl (keyP B (plusP e.1 z.1))) (.int (numAt (timesL (es.take i) fs ++ rowT e (fs.take j)) (plusP e.1 z.1) + e.2 * z.2))))) := by
          rw [← hk]
          exact DPut.k (k := Sum.inl (keyP B (plusP e.1 z.1))) hd9 hlt
        refine ⟨t2, _, rfl, .inl (.inl ht2), rfl, _, _, rfl, _, _, rfl, rfl, ?_⟩
        refine ⟨_, rfl, d, rfl, .inl ⟨kvs, .inl hd9⟩, _, rfl, _, rfl, _, _, rfl, rfl, _, hget, _, rfl, _, rfl, _, _, rfl, rfl, .inr (hnum z hzm), _, _, hs9.getD _ gd, rfl, _, rfl, _, rfl, _, rfl, _, _, rfl, rfl, d, _, rfl, hput, ?_⟩
        refine ⟨_, _, _, _, rfl, same_mut sm9 nd, ?_, hK9.updK hd9, upd_same, ?_, put_klen (e := plusP e.1 z.1) hl9⟩
        · rw [upd_ne pne]
          exact hp9
        · have hf : numAt (timesL (es.take i) fs ++ rowT e (fs.take (j + 1))) = fun q => numAt (timesL (es.take i) fs ++ rowT e (fs.take j)) q + if plusP e.1 z.1 = q then e.2 * z.2 else 0 := by
            funext q
            rw [take_snoc hzz]
            show numAt (timesL (es.take i) fs ++ List.map _ (fs.take j ++ [z])) q = _
            rw [List.map_append, ← List.append_assoc, numAt_app]
            show _ + ((if plusP e.1 z.1 = q then e.2 * z.2 else 0) + 0) = _
            rw [Int.add_zero]
            rfl
          rw [hf]
          exact hs9.put inj _ gd _
      · rintro σ H9 ⟨kvs, ks, y7, y8, rfl, sm9, hp9, hK9, hd9, hs9, hl9⟩
        have hw2 : ws2.length = fs.length := by
          have := hK2.len
          unfold keyL at this
          rwa [List.length_map] at this
        rw [hw2, List.take_length] at hs9
        refine ⟨kvs, ks, _, _, y7, y8, rfl, sm9, hp9, hK9, hd9, ?_, ?_⟩
        · rw [take_snoc hee, timesL_snoc]
          exact hs9
        · rw [hw2] at hl9
          rw [Nat.succ_mul]
          exact hl9
    · rintro σ H8 ⟨kvs, ks, y5, y6, y7, y8, rfl, sm, hp8, hK8, hd8, hs, hl⟩
      have hw1 : ws1.length = es.length := by
        have := hK1.len
        unfold keyL at this
        rwa [List.length_map] at this
      rw [hw1] at hs hl
      rw [List.take_length] at hs
      have R8 := R5.mono sm
      subst hB
      refine ⟨_, rfl, _, rfl, _, rfl, a, xs, es, rfl, .inl (.inl R8.ha), R8.e, d, h + g, dimE es, kvs, ks, timesL es fs, rfl, hd8, hs, by omega, hd3, by omega, ?_⟩
      exact wantRow.mono (sC.trans sm) q
end
end OT

set_option Elab.async false
set_option linter.all false
set_option maxRecDepth 100000
set_option maxHeartbeats 2000000
namespace OT
open PySem PySem.Spec PyProof.Rows L2
section
variable {P : Program} {w : World} {K : PySem.W.Frag} {mg : Str → Option Value} {base : Heap}
def spSum (K : PySem.W.Frag) (M : Addr) : Sp := fun vs H Q E => ∃ (a b : Addr) (xs ys : List V) (es fs : List Ent), vs = [.ref a, .ref b] ∧ H a = some (.lst xs) ∧ H b = some (.lst ys) ∧ Ents H xs es ∧ Ents H ys fs ∧ es.length ≤ 1000 ∧ fs.length ≤ 1000 ∧ (∀ e ∈ es ++ fs, e.1 ≠ []) ∧
  (mixL ((dims [es, fs]).filter nz) = true → ∀ d H', Same H H' → H' d = some (.xd errM) → E (.ref M) (some d) H') ∧
  (mixL ((dims [es, fs]).filter nz) = false → wantRow H (es ++ fs) Q)
theorem ok_add {f M fD A0 : Addr} {fd fdD : FuncData} {ds : List Value} (D : C8.Def K mg "add" s_add f fd) (T : Bi mg) (DD : C8.Def K mg "same_dimension" s_same_dimension fD fdD) (bD : Binds K fdD ["rows", "places"] ds) (hdv : Vals [V.ref A0] ds) (hA0 : ∀ H, SqT K H A0 [])
    (GD : FnOk P w K mg base (L2.CX P w) 4 fD fdD ["rows", "places"] (spSDT K M)) (c_gather : C8.Cal P w K mg base 2 "gather" (spGather K) []) : FnOk P w K mg base (L2.CX P w) 5 f fd ["first", "second"] (spSum K M) := by
  obtain ⟨oc, od, dV, kV, doc, pm, an, cdv, ct, osl, rfl, lk, hcd⟩ := D.fn.ex
  refine fn_of lk hcd sc_add (fun vs H Q E h => ?_) fun A outer s H vs Q E hr h => ?_
  · obtain ⟨a, b, xs, ys, es, fs, rfl, _⟩ := h
    rfl
  · obtain ⟨a, b, xs, ys, es, fs, rfl, ha, hb, hE, hF, ze, zf, hne, qE, qN⟩ := h
    refine ⟨_, (pss_cons (ps_expr (pe_callSD GD hr rfl DD.mgf DD.kp bD hdv (fun σ => passAt (takes_of rfl rfl rfl rfl) σ) (pa_cons (pe_lst (pa_cons (pv 0) (pa_cons (pv 1) pa_nil))) pa_nil)))
  (pss_one (ps_ret (C8.pe_c c_gather hr (by decide) (by rfl) (pa_cons (pe_lst (StX.pa_star (pv 0) (StX.pa_star (pv 1) pa_nil))) pa_nil))))), ?_⟩
    refine ⟨_, rfl, _, rfl, (by show 2 ≤ sizeLine; decide), fun p1 np1 => ?_⟩
    have s1 : Same H (upd H p1 (.lst [.ref a, .ref b])) := same_upd np1
    refine ⟨p1, A0, [.ref a, .ref b], [es, fs], rfl, .inl (.inl upd_same), .cons (s1 _ _ ha) (hE.mono s1) (.cons (s1 _ _ hb) (hF.mono s1) .nil), hA0 _, (by show 2 ≤ 1000; decide), fun hm d H3 sm hd => qE hm d H3 (s1.trans sm) hd, fun hm H3 sm3 => ?_⟩
    have sA := s1.trans sm3
    have q := qN hm
    have hE3 := hE.mono sA
    have hF3 := hF.mono sA
    have l1 := hE3.len
    have l2 := hF3.len
    refine ⟨_, rfl, a, xs, rfl, .inr (.inl (.inl (sA _ _ ha))), _, rfl, b, ys, rfl, .inr (.inl (.inl (sA _ _ hb))), ?_, fun p4 np4 => ?_⟩
    · rw [List.append_nil, List.length_append]
      exact Nat.le_of_lt (small100k (by omega))
    have s4 : Same H3 (upd H3 p4 (.lst (xs ++ (ys ++ [])))) := same_upd np4
    refine ⟨p4, xs ++ ys, es ++ fs, rfl, ⟨.inl (.inl (by rw [upd_same, List.append_nil])), (hE3.mono s4).app (hF3.mono s4), ?_⟩, hne, wantRow.mono (sA.trans s4) q⟩
    · rw [List.length_append]
      exact small100k (by omega)
end
end OT

set_option Elab.async false
set_option linter.all false
set_option maxRecDepth 100000
set_option maxHeartbeats 2000000
namespace OT
open PySem PySem.Spec PyProof.Rows L2
theorem eqv_cons (x y : PyData) (xs ys : List PyData) : PyData.eqvAll (x :: xs) (y :: ys) = (PyData.eqv x y && PyData.eqvAll xs ys) := by rw [PyData.eqvAll]
theorem eqv_ints : ∀ k l : Pl, PyData.eqvAll (k.map PyData.int) (l.map PyData.int) = decide (k = l)
  | [], [] => by simp [PyData.eqvAll]
  | [], y :: r => by simp [PyData.eqvAll]
  | x :: r, [] => by simp [PyData.eqvAll]
  | x :: r, y :: t => by
    rw [List.map_cons, List.map_cons, eqv_cons, eqv_ints r t, PyData.eqv]
    by_cases h : x = y
    · subst h
      simp
    · rw [show (x == y) = false from by simp [h], decide_eq_false (fun z => h (List.cons.inj z).1)]
      rfl
theorem eqv_ent (e f : Ent) : PyData.eqv (dEnt e) (dEnt f) = decide (e = f) := by
  unfold dEnt dPl
  obtain ⟨k, n⟩ := e
  obtain ⟨l, m⟩ := f
  show PyData.eqv (.tuple [.tuple (k.map .int), .int n]) (.tuple [.tuple (l.map .int), .int m]) = _
  have e1 : PyData.eqv (.tuple (k.map .int)) (.tuple (l.map .int)) = decide (k = l) := by rw [PyData.eqv, eqv_ints]
  have e2 : PyData.eqv (.int n) (.int m) = (n == m) := by rw [PyData.eqv]
  rw [PyData.eqv, eqv_cons, eqv_cons, e1, e2]
  by_cases h : k = l
  · subst h
    by_cases z : n = m
    · subst z
      simp [PyData.eqvAll]
    · rw [show (n == m) = false from by simp [z], decide_eq_false (fun q => z (Prod.mk.inj q).2)]
      simp
  · rw [decide_eq_false h, decide_eq_false (fun q => h (Prod.mk.inj q).1)]
    rfl
theorem eqv_row' : ∀ es fs : List Ent, PyData.eqvAll (es.map dEnt) (fs.map dEnt) = decide (es = fs)
  | [], [] => by simp [PyData.eqvAll]
  | [], y :: r => by simp [PyData.eqvAll]
  | x :: r, [] => by simp [PyData.eqvAll]
  | x :: r, y :: t => by
    rw [List.map_cons, List.map_cons, eqv_cons, eqv_row' r t, eqv_ent]
    by_cases h : x = y
    · subst h
      simp
    · rw [decide_eq_false h, decide_eq_false (fun z => h (List.cons.inj z).1)]
      rfl
theorem eqv_row (es fs : List Ent) : PyData.eqv (dRow es) (dRow fs) = decide (es = fs) := by
  unfold dRow
  rw [PyData.eqv, eqv_row']
theorem shaped_pl (k : Pl) : SeqAt.shaped (dPl k) = true := by
  unfold SeqAt.shaped
  have h1 : (dPl k).canLay0 = true := lay_ints k
  rw [h1, Bool.true_and]
  refine decide_eq_true ?_
  simp only [dPl, PyData.depth, depth_ints]
  decide
theorem eqv_pl (k : Pl) : PyData.eqv (dPl k) (dPl k) = true := SeqAt.eqv_refl _ (SeqAt.canLay_of_shaped (shaped_pl k))
theorem dp_pl {K : PySem.W.Frag} {H : Hp} {p : Addr} {k : Pl} (h : H p = some (.tup (k.map V.int))) : Dp K H (.ref p) (dPl k) := .tup (.inl (.inl h)) (dp_ints k)
theorem eqv_rows (es : List Ent) : PyData.eqv (dRow es) (dRow es) = true := SeqAt.eqv_refl _ (SeqAt.canLay_of_shaped (shaped_row es))
theorem eqv_pls (k l : Pl) : PyData.eqv (dPl k) (dPl l) = decide (k = l) := by
  unfold dPl
  rw [PyData.eqv, eqv_ints]
section
variable {P : Program} {w : World} {K : PySem.W.Frag} {mg : Str → Option Value} {base : Heap}
/-- the same, of the law -/
def spAt (K : PySem.W.Frag) : Sp := fun vs H Q _ => ∃ (a b : Addr) (xs : List V) (es : List Ent) (l : Pl), vs = [.ref a, .ref b] ∧ SqL K H a xs ∧ Ents H xs es ∧ Valid es ∧ H b = some (.tup (l.map V.int)) ∧ Q (.int (numAt es l)) H
theorem c__law_at {f : Addr} {fd : FuncData} (D : C8.Def K mg "_law_at" s__law_at f fd) (b : Binds K fd ["_law_row_here", "_law_place"] []) (T : Bi mg) : C8.Cal P w K mg base 1 "_law_at" (spAt K) [] := by
  refine C8.cal0 D b .nil sc__law_at (fun vs H Q E h => ?_) (fun cdv A outer s H vs Q E hr h => ?_)
  · obtain ⟨a, b, xs, es, l, rfl, _⟩ := h
    rfl
  · obtain ⟨a, b, xs, es, l, rfl, hS3, hE, hV, hb, q⟩ := h
    refine ⟨_, (pss_cons (ps_for PassesOwn.never rfl (pi_list (pv 0)) (pg_tup rfl (pgs_cons (pg_name (i := 2) sc__law_at.nd rfl (Or.inl rfl)) (pgs_cons (pg_name (i := 3) sc__law_at.nd rfl (Or.inl rfl)) pgs_nil))) (pss_one (ps_if (pt_cmpR (op_eqD hr.units) (pv 2) (pv 1) (nomark _)) (pss_one (ps_ret (pv 3))) pss_nil)))
  (pss_one (ps_ret pe_int))), ?_⟩
    refine ⟨_, rfl, a, rfl, ⟨_, hS3⟩, ?_⟩
    refine for_list (K := K) (xs := xs) (fun i σ H4 => ∃ y2 y3 : Option V, σ = [some (.ref a), some (.ref b), y2, y3] ∧ H4 = H ∧ ∀ e ∈ es.take i, e.1 ≠ l) ⟨none, none, rfl, rfl, fun e he => by cases he⟩ ?_ ?_ ?_
    · rintro i σ H4 _ ⟨_, _, _, rfl, _⟩
      exact hS3
    · rintro i x σ H4 hx ⟨y2, y3, rfl, rfl, hno⟩
      obtain ⟨e, he, t, p, rfl, ht, hp⟩ := hE.get hx
      have hem : e ∈ es := List.mem_of_getElem? he
      refine ⟨t, _, rfl, .inl (.inl ht), rfl, _, _, rfl, _, _, rfl, rfl, ?_⟩
      refine ⟨_, rfl, _, rfl, dPl e.1, dPl l, dp_pl hp, dp_pl hb, shaped_pl _, shaped_pl _, _, rfl, ?_⟩
      rw [eqv_pls]
      by_cases c : e.1 = l
      · rw [decide_eq_true c]
        refine iteT ?_
        refine ⟨_, rfl, ?_⟩
        have hv := hV.at e hem
        rw [c] at hv
        rw [← hv]
        exact q
      · rw [decide_eq_false c]
        refine iteF ?_
        refine ⟨_, _, rfl, rfl, fun e' he' => ?_⟩
        rw [take_snoc he] at he'
        rcases List.mem_append.mp he' with h | h
        · exact hno e' h
        · rw [List.mem_singleton.mp h]
          exact c
    · rintro σ H4 ⟨y2, y3, rfl, rfl, hno⟩
      rw [hE.len, List.take_length] at hno
      have : numAt es l = 0 := numAt_out hno
      rw [this] at q
      exact q
end
end OT

set_option Elab.async false
set_option linter.all false
set_option maxRecDepth 100000
set_option maxHeartbeats 2000000
namespace OT
open PySem PySem.Spec PyProof.Rows L2
/-- two rows of different dimensions other than 0 -/
def mixB (es fs : List Ent) : Bool := decide (dimE es ≠ 0 ∧ dimE fs ≠ 0 ∧ dimE es ≠ dimE fs)
theorem mixD (es fs : List Ent) : mixL ((dims [es, fs]).filter nz) = mixB es fs := by
  show mixL ([((dimE es : Nat) : Int), ((dimE fs : Nat) : Int)].filter nz) = mixB es fs
  unfold mixB
  generalize dimE es = x
  generalize dimE fs = y
  have nzT : ∀ {z : Nat}, z ≠ 0 → nz (z : Int) = true := fun h => decide_eq_true (by omega)
  have nzF : ∀ {z : Nat}, z = 0 → nz (z : Int) = false := fun h => decide_eq_false (by omega)
  by_cases hx : x = 0
  · rw [List.filter_cons, if_neg (by rw [nzF hx]; decide), decide_eq_false (fun h => h.1 hx)]
    by_cases hy : y = 0
    · rw [List.filter_cons, if_neg (by rw [nzF hy]; decide)]
      rfl
    · rw [List.filter_cons, if_pos (nzT hy)]
      simp [mixL]
  · rw [List.filter_cons, if_pos (nzT hx)]
    by_cases hy : y = 0
    · rw [List.filter_cons, if_neg (by rw [nzF hy]; decide), decide_eq_false (fun h => h.2.1 hy)]
      simp [mixL]
    · rw [List.filter_cons, if_pos (nzT hy)]
      by_cases h : x = y
      · subst h
        rw [decide_eq_false (fun h => h.2.2 rfl)]
        simp [mixL]
      · rw [decide_eq_true ⟨hx, hy, h⟩]
        have : ¬ ((y : Int) = (x : Int)) := fun z => h (by omega)
        simp [mixL, this]
theorem mixB_same {es fs : List Ent} {n m : Nat} (h : es ≠ [] → fs ≠ [] → n = m) (he : ∀ e ∈ es, e.1.length = n) (hf : ∀ e ∈ fs, e.1.length = m) : mixB es fs = false := by
  refine decide_eq_false fun z => ?_
  obtain ⟨z1, z2, z3⟩ := z
  have h1 : es ≠ [] := fun y => z1 (by rw [y]; rfl)
  have h2 : fs ≠ [] := fun y => z2 (by rw [y]; rfl)
  exact z3 (by rw [dimE_eq he h1, dimE_eq hf h2, h h1 h2])
theorem timesL_mem {es fs : List Ent} {x : Ent} (h : x ∈ timesL es fs) : ∃ e ∈ es, ∃ g ∈ fs, x = (plusP e.1 g.1, e.2 * g.2) := by
  unfold timesL rowT at h
  obtain ⟨e, he, h⟩ := List.mem_flatMap.mp h
  obtain ⟨g, hg, rfl⟩ := List.mem_map.mp h
  exact ⟨e, he, g, hg, rfl⟩
theorem timesL_len : ∀ (es fs : List Ent), (timesL es fs).length = es.length * fs.length
  | [], fs => by rw [List.length_nil, Nat.zero_mul]; rfl
  | e :: r, fs => by
    have ih := timesL_len r fs
    show (rowT e fs ++ timesL r fs).length = _
    rw [List.length_append, ih, show (rowT e fs).length = fs.length from List.length_map _, List.length_cons, Nat.succ_mul]
    omega
section
variable {P : Program} {w : World} {K : PySem.W.Frag} {mg : Str → Option Value} {base : Heap}
def spMulQ (K : PySem.W.Frag) : Sp := fun vs H Q E => ∃ (a b : Addr) (xs ys : List V) (es fs : List Ent) (n m C : Nat), vs = [.ref a, .ref b] ∧ TwoR K H a b xs ys es fs n m C ∧ es.length * fs.length < 2000 ∧ (∀ g ∈ fs, -(2 ^ 64) < g.2 ∧ g.2 < 2 ^ 64) ∧ (es ≠ [] → fs ≠ [] → n = m) ∧ wantRow H (timesL es fs) Q
theorem mulQ {M : Addr} : ∀ vs H Q E, spMulQ K vs H Q E → spMul K M vs H Q E0 := fun vs H Q E ⟨a, b, xs, ys, es, fs, n, m, C, e, R, hz, hn, hd, q⟩ => by
  refine ⟨a, b, xs, ys, es, fs, n, m, C, e, R, hz, hn, fun h => ?_, fun _ => ⟨hd, q⟩⟩
  rw [mixD, mixB_same hd R.de R.df] at h
  cases h
/-- the same, of the law -/
def spTimes (K : PySem.W.Frag) : Sp := fun vs H Q _ => ∃ (a b : Addr) (xs ys : List V) (es fs : List Ent), vs = [.ref a, .ref b] ∧ SqL K H a xs ∧ SqL K H b ys ∧ Ents H xs es ∧ Ents H ys fs ∧ es.length * fs.length ≤ 10000 ∧ (∀ e ∈ es, ∀ g ∈ fs, e.1.length = g.1.length) ∧ (∀ e ∈ es, e.1 ≠ [] ∧ e.1.length ≤ 1000) ∧ (∀ g ∈ fs, -(2 ^ 64) < g.2 ∧ g.2 < 2 ^ 64) ∧ wantRow H (timesL es fs) Q
theorem c__law_times {f : Addr} {fd : FuncData} (D : C8.Def K mg "_law_times" s__law_times f fd) (b : Binds K fd ["_law_first", "_law_second"] []) (T : Bi mg) (c__law_plus : C8.Cal P w K mg base 1 "_law_plus" (spPlus K) []) (c__law_row : C8.Cal P w K mg base 1 "_law_row" (spGather K) []) : C8.Cal P w K mg base 2 "_law_times" (spTimes K) [] := by
  refine C8.cal0 D b .nil sc__law_times (fun vs H Q E h => ?_) (fun cdv A outer s H vs Q E hr h => ?_)
  · obtain ⟨a, b, xs, ys, es, fs, rfl, _⟩ := h
    rfl
  · obtain ⟨a, b, xs, ys, es, fs, rfl, hS, hT, hE, hF, hz, hl, hne, hnum, q⟩ := h
    refine ⟨_, (pss_cons (ps_set (i := 2) sc__law_times.nd rfl (Or.inl rfl) (pe_lst pa_nil))
  (pss_cons (ps_for PassesOwn.never rfl (pi_list (pv 0)) (pg_tup rfl (pgs_cons (pg_name (i := 3) sc__law_times.nd rfl (Or.inl rfl)) (pgs_cons (pg_name (i := 4) sc__law_times.nd rfl (Or.inl rfl)) pgs_nil))) (pss_one (ps_for PassesOwn.never rfl (pi_list (pv 1)) (pg_tup rfl (pgs_cons (pg_name (i := 5) sc__law_times.nd rfl (Or.inl rfl)) (pgs_cons (pg_name (i := 6) sc__law_times.nd rfl (Or.inl rfl)) pgs_nil))) (pss_one (ps_expr (pe_bm PySem.F.plainAttrs_list PySem.F.slot_list_append PySem.F.type_list_append mt_append (pv 2) (pa_cons (pe_tup (pa_cons (C8.pe_c c__law_plus hr (by decide) (by rfl) (pa_cons (pv 3) (pa_cons (pv 5) pa_nil))) (pa_cons (pe_op op_mul (pv 4) (pv 6)) pa_nil))) pa_nil)))))))
  (pss_one (ps_ret (C8.pe_c c__law_row hr (by decide) (by rfl) (pa_cons (pv 2) pa_nil)))))), ?_⟩
    refine ⟨by decide, fun p np => ?_⟩
    have s1 : Same H (upd H p (.lst [])) := same_upd np
    refine ⟨_, rfl, a, rfl, ⟨_, s1.seq hS⟩, ?_⟩
    refine for_list (K := K) (xs := xs) (fun i σ H2 => ∃ (ws : List V) (y3 y4 y5 y6 : Option V), σ = [some (.ref a), some (.ref b), some (.ref p), y3, y4, y5, y6] ∧ Same H H2 ∧ H2 p = some (.lst ws) ∧ Ents H2 ws (timesL (es.take i) fs)) ⟨[], none, none, none, none, rfl, s1, upd_same, .nil⟩ ?_ ?_ ?_
    · rintro i σ H2 _ ⟨_, _, _, _, _, _, sm, _⟩
      exact sm.seq hS
    · rintro i x σ H2 hx ⟨ws, y3, y4, y5, y6, rfl, sm, hp, hW⟩
      obtain ⟨e, hee, t, pe, rfl, ht, hpe⟩ := hE.get hx
      have hi := (List.getElem?_eq_some_iff.mp hee).1
      have hem : e ∈ es := List.mem_of_getElem? hee
      refine ⟨t, _, rfl, .inl (.inl (sm _ _ ht)), rfl, _, _, rfl, _, _, rfl, rfl, ?_⟩
      refine ⟨_, rfl, b, rfl, ⟨_, sm.seq hT⟩, ?_⟩
      refine for_list (K := K) (xs := ys) (fun j σ H3 => ∃ (ws : List V) (y5 y6 : Option V), σ = [some (.ref a), some (.ref b), some (.ref p), some (.ref pe), some (.int e.2), y5, y6] ∧ Same H H3 ∧ H3 p = some (.lst ws) ∧ Ents H3 ws (timesL (es.take i) fs ++ rowT e (fs.take j))) ?_ ?_ ?_ ?_
      · refine ⟨ws, y5, y6, rfl, sm, hp, ?_⟩
        rw [show rowT e (fs.take 0) = [] from rfl, List.append_nil]
        exact hW
      · rintro j σ H3 _ ⟨_, _, _, _, sm, _⟩
        exact sm.seq hT
      · rintro j x σ H3 hx ⟨ws, y5, y6, rfl, sm, hp, hW⟩
        obtain ⟨z, hzz, t2, pz, rfl, ht2, hpz⟩ := hF.get hx
        have hj := (List.getElem?_eq_some_iff.mp hzz).1
        have hzm : z ∈ fs := List.mem_of_getElem? hzz
        refine ⟨t2, _, rfl, .inl (.inl (sm _ _ ht2)), rfl, _, _, rfl, _, _, rfl, rfl, ?_⟩
        have hle := hl e hem z hzm
        refine ⟨_, rfl, .inl ⟨rfl, _, .inl (.inl hp)⟩, _, rfl, _, rfl, pe, pz, e.1, z.1, rfl, .inl (.inl (sm _ _ hpe)), .inl (.inl (sm _ _ hpz)), Nat.le_of_eq hle, (hne e hem).2, fun p4 H4 s4 hp4 => ?_⟩
        refine ⟨_, rfl, _, rfl, _, _, rfl, rfl, .inr (hnum z hzm), (by show 2 ≤ sizeLine; decide), fun t5 nt5 => ?_⟩
        have s5 : Same H4 (upd H4 t5 (.tup [.ref p4, .int (e.2 * z.2)])) := same_upd nt5
        have s45 := s4.trans s5
        have hD := s45 _ _ hp
        have hwl := hW.len
        refine ⟨p, ws, _, rfl, rfl, hD, ?_, ?_⟩
        · rw [hwl, List.length_append, timesL_len, List.length_take, show (rowT e (fs.take j)).length = (fs.take j).length from List.length_map _, List.length_take, Nat.min_eq_left (Nat.le_of_lt hi), Nat.min_eq_left (Nat.le_of_lt hj)]
          have h1 : i * fs.length + fs.length ≤ es.length * fs.length := by
            rw [← Nat.succ_mul]
            exact Nat.mul_le_mul_right _ hi
          exact small100k (by omega)
        · refine ⟨ws ++ [.ref t5], _, _, rfl, same_mut (sm.trans s45) np, upd_same, ?_⟩
          have e1 : timesL (es.take i) fs ++ rowT e (fs.take (j + 1)) = (timesL (es.take i) fs ++ rowT e (fs.take j)) ++ [(plusP e.1 z.1, e.2 * z.2)] := by
            rw [take_snoc hzz]
            unfold rowT
            rw [List.map_append, List.append_assoc]
            rfl
          rw [e1]
          exact ((hW.mono s45).updL hD).app (.cons (EntAt.updL hD ⟨t5, p4, rfl, upd_same, s5 _ _ hp4⟩) .nil)
      · rintro σ H3 ⟨ws, y5, y6, rfl, sm, hp, hW⟩
        rw [hF.len, List.take_length] at hW
        refine ⟨ws, _, _, y5, y6, rfl, sm, hp, ?_⟩
        rw [take_snoc hee, timesL_snoc]
        exact hW
    · rintro σ H2 ⟨ws, y3, y4, y5, y6, rfl, sm, hp, hW⟩
      rw [hE.len, List.take_length] at hW
      refine ⟨_, rfl, p, ws, timesL es fs, rfl, ⟨.inl (.inl hp), hW, ?_⟩, fun x hx => ?_, wantRow.mono sm q⟩
      · rw [timesL_len]
        exact small100k (by omega)
      · obtain ⟨e, he, g, hg, rfl⟩ := timesL_mem hx
        intro h0
        have h1 := plusP_len (Nat.le_of_eq (hl e he g hg))
        have h2 : (plusP e.1 g.1).length = 0 := by
          show (plusP e.1 g.1).length = 0
          rw [show plusP e.1 g.1 = [] from h0]
          rfl
        exact (hne e he).1 (List.length_eq_zero_iff.mp (by omega))
end
end OT

set_option Elab.async false
set_option linter.all false
set_option maxRecDepth 100000
set_option maxHeartbeats 2000000
namespace OT
open PySem PySem.Spec PyProof.Rows L2
theorem cut_take {xs : List Int} {n : Nat} (h : n ≤ xs.length) : cutV (xs.map V.int) none (some (n : Int)) = (xs.take n).map V.int := by
  unfold cutV
  rw [HT.sIx_none, HT.sIx_nat, List.length_map, Nat.min_eq_left h, List.drop_zero, Nat.sub_zero, List.map_take]
def zsN : List Int := [8, 13, 13, 13, 1801, 1801, 1801]
section
variable {P : Program} {w : World} {K : PySem.W.Frag} {mg : Str → Option Value} {base : Heap}
def spNear (K : PySem.W.Frag) : Sp := fun vs H Q _ => ∃ (c : Int) (n : Nat), vs = [.int c, .int (n : Int)] ∧ 1 ≤ n ∧ n ≤ 3 ∧ ∀ (l : Pl) p H', l.length = n → (∀ x ∈ l, x.natAbs ≤ 900) → Same H H' → H' p = some (.tup (l.map V.int)) → Q (.ref p) H'
theorem c__law_by {f : Addr} {fd : FuncData} (D : C8.Def K mg "_law_by" s__law_by f fd) (b : Binds K fd ["_law_cell_here", "_law_size"] []) (T : Bi mg) (c__law_draws : C8.Cal P w K mg base 1 "_law_draws" (spDraws K) []) : C8.Cal P w K mg base 2 "_law_by" (spNear K) [] := by
  refine C8.cal0 D b .nil sc__law_by (fun vs H Q E h => ?_) (fun cdv A outer s H vs Q E hr h => ?_)
  · obtain ⟨c, n, rfl, _⟩ := h
    rfl
  · obtain ⟨c, n, rfl, hn1, hn3, q⟩ := h
    refine ⟨_, (pss_cons (ps_set (i := 2) sc__law_by.nd rfl (Or.inl rfl) (C8.pe_c c__law_draws hr (by decide) (by rfl) (pa_cons (pv 0) (pa_cons (pe_lst (pa_cons pe_int (pa_cons pe_int (pa_cons pe_int (pa_cons pe_int (pa_cons pe_int (pa_cons pe_int (pa_cons pe_int pa_nil)))))))) pa_nil))))
  (pss_cons (ps_if (pt_cmpR op_eq (pe_ix ix_list (pv 2) pe_int (fun _ _ => rfl)) pe_int (nomark _)) (pss_one (ps_ret (pe_slice sl_tupA (pe_tup (pa_cons (pe_op op_sub (pe_ix ix_list (pv 2) pe_int (fun _ _ => rfl)) pe_int) (pa_cons (pe_op op_sub (pe_ix ix_list (pv 2) pe_int (fun _ _ => rfl)) pe_int) (pa_cons (pe_op op_sub (pe_ix ix_list (pv 2) pe_int (fun _ _ => rfl)) pe_int) pa_nil)))) po_none (po_some (pv 1))))) pss_nil)
  (pss_one (ps_ret (pe_slice sl_tupA (pe_tup (pa_cons (pe_op op_sub (pe_ix ix_list (pv 2) pe_int (fun _ _ => rfl)) pe_int) (pa_cons (pe_op op_sub (pe_ix ix_list (pv 2) pe_int (fun _ _ => rfl)) pe_int) (pa_cons (pe_op op_sub (pe_ix ix_list (pv 2) pe_int (fun _ _ => rfl)) pe_int) pa_nil)))) po_none (po_some (pv 1))))))), ?_⟩
    refine ⟨_, rfl, by decide, fun p np => ?_⟩
    refine ⟨p, zsN, c, rfl, .inl (.inl upd_same), by decide, by decide, fun ds H1 p1 hin sm1 np1 hp1 => ?_⟩
    have sA : Same H H1 := (same_upd np).trans sm1
    have L1 : SqL K H1 p1 (ds.map V.int) := .inl (.inl hp1)
    obtain ⟨d0, g0, g0a, g0b⟩ := hin.get (i := 0) (z := 8) rfl
    obtain ⟨d1, g1, g1a, g1b⟩ := hin.get (i := 1) (z := 13) rfl
    obtain ⟨d2, g2, g2a, g2b⟩ := hin.get (i := 2) (z := 13) rfl
    obtain ⟨d3, g3, g3a, g3b⟩ := hin.get (i := 3) (z := 13) rfl
    obtain ⟨d4, g4, g4a, g4b⟩ := hin.get (i := 4) (z := 1801) rfl
    obtain ⟨d5, g5, g5a, g5b⟩ := hin.get (i := 5) (z := 1801) rfl
    obtain ⟨d6, g6, g6a, g6b⟩ := hin.get (i := 6) (z := 1801) rfl
    have fin : ∀ (x y z : Int) (t : Addr) (H2 : Hp), x.natAbs ≤ 900 → y.natAbs ≤ 900 → z.natAbs ≤ 900 → Same H1 H2 → H2 t = some (.tup [.int x, .int y, .int z]) → rSlA K (.ref t) none (some (n : Int)) H2 Q := fun x y z t H2 hx hy hz s2 ht => by
      have hT : SqT K H2 t [.int x, .int y, .int z] := .inl (.inl ht)
      have hcut : cutV [V.int x, V.int y, V.int z] none (some (n : Int)) = ([x, y, z].take n).map V.int := cut_take (xs := [x, y, z]) (by show n ≤ 3; exact hn3)
      have hlt : ([x, y, z].take n).length = n := by
        rw [List.length_take]
        show min n 3 = n
        omega
      have hall : ∀ u ∈ [x, y, z], u.natAbs ≤ 900 := fun u hu => by
        simp only [List.mem_cons, List.not_mem_nil, or_false] at hu
        rcases hu with rfl | rfl | rfl <;> assumption
      refine ⟨t, _, rfl, hT, fun hw => ?_, fun hw t3 nt3 => ?_⟩
      · have h3 : n = 3 := by
          have h2 := hw.2
          rw [HT.sIx_nat] at h2
          have h4 : min n 3 = 3 := h2
          omega
        exact q [x, y, z] t H2 h3.symm hall (sA.trans s2) ht
      · refine q ([x, y, z].take n) t3 _ hlt (fun u hu => hall u (List.mem_of_mem_take hu)) ((sA.trans s2).trans (same_upd nt3)) ?_
        rw [upd_same, hcut]
    refine ⟨_, rfl, p1, _, 0, _, rfl, rfl, L1, atI_nat (j := 0) g0, rfl, _, rfl, iteD (fun _ => ?_) (fun _ => ?_)⟩
    · refine ⟨_, rfl, p1, _, 4, _, rfl, rfl, L1, atI_nat (j := 4) g4, _, _, rfl, rfl, _, rfl, p1, _, 5, _, rfl, rfl, L1, atI_nat (j := 5) g5, _, _, rfl, rfl, _, rfl, p1, _, 6, _, rfl, rfl, L1, atI_nat (j := 6) g6, _, _, rfl, rfl, (by show 3 ≤ sizeLine; decide), fun t nt => ?_⟩
      refine ⟨_, rfl, _, rfl, ?_⟩
      exact fin _ _ _ t _ (by omega) (by omega) (by omega) (same_upd nt) upd_same
    · refine ⟨_, rfl, p1, _, 1, _, rfl, rfl, L1, atI_nat (j := 1) g1, _, _, rfl, rfl, _, rfl, p1, _, 2, _, rfl, rfl, L1, atI_nat (j := 2) g2, _, _, rfl, rfl, _, rfl, p1, _, 3, _, rfl, rfl, L1, atI_nat (j := 3) g3, _, _, rfl, rfl, (by show 3 ≤ sizeLine; decide), fun t nt => ?_⟩
      refine ⟨_, rfl, _, rfl, ?_⟩
      exact fin _ _ _ t _ (by omega) (by omega) (by omega) (same_upd nt) upd_same

theorem pr_le {W : Nat} : ∀ (bs : List Nat) (a : Nat), (∀ n ∈ bs, n ≤ W) → bs.foldl (· * ·) a ≤ a * W ^ bs.length
  | [], a, _ => by
    show a ≤ a * W ^ 0
    rw [Nat.pow_zero, Nat.mul_one]
    exact Nat.le_refl _
  | n :: r, a, h => by
    refine Nat.le_trans (pr_le r (a * n) fun y hy => h y (List.mem_cons_of_mem _ hy)) ?_
    rw [List.length_cons, Nat.pow_succ, Nat.mul_assoc, Nat.mul_comm (W ^ r.length) W, ← Nat.mul_assoc, ← Nat.mul_assoc]
    exact Nat.mul_le_mul_right _ (Nat.mul_le_mul_left _ (h n List.mem_cons_self))
theorem boxOk {W : Nat} {bs : List Nat} (h1 : 1 ≤ W) (h2 : W ≤ 40) (hn : bs.length ≤ 3) (hw : ∀ n ∈ bs, n ≤ W) : BoxOk W bs := by
  refine ⟨hn, hw, fun i => ?_⟩
  have h3 : pr (bs.take i) ≤ 1 * W ^ (bs.take i).length := pr_le _ _ fun n hm => hw n (List.mem_of_mem_take hm)
  have h4 : (bs.take i).length ≤ 3 := by
    rw [List.length_take]
    omega
  have h5 : W ^ (bs.take i).length ≤ W ^ 3 := Nat.pow_le_pow_right h1 h4
  have h6 : W ^ 3 ≤ 40 ^ 3 := Nat.pow_le_pow_left h2 3
  have h7 : 40 ^ 3 = 64000 := by decide
  omega
end
end OT

set_option Elab.async false
set_option linter.all false
set_option maxRecDepth 100000
set_option maxHeartbeats 4000000
namespace OT
open PySem PySem.Spec PyProof.Rows L2
/-- a list of rows as data -/
def dRows (ess : List (List Ent)) : PyData := .list (ess.map dRow)
theorem lay_rows : ∀ ess : List (List Ent), PyData.canLayAll0 (ess.map dRow) = true
  | [] => by simp only [List.map_nil, PyData.canLayAll0]
  | e :: r => by
    have ih := lay_rows r
    have h1 := SeqAt.canLay_of_shaped (shaped_row e)
    simp only [List.map_cons, PyData.canLayAll0, h1, ih, Bool.and_self]
theorem depth_rows : ∀ ess : List (List Ent), PyData.depthAll (ess.map dRow) ≤ 10
  | [] => by simp only [List.map_nil, PyData.depthAll]; decide
  | e :: r => by
    have ih := depth_rows r
    have h1 := depth_row e
    simp only [List.map_cons, PyData.depthAll, dRow, PyData.depth] at ih h1 ⊢
    omega
theorem shaped_rows (ess : List (List Ent)) : SeqAt.shaped (dRows ess) = true := by
  unfold SeqAt.shaped
  have h1 : (dRows ess).canLay0 = true := lay_rows ess
  rw [h1, Bool.true_and]
  refine decide_eq_true ?_
  have := depth_rows ess
  simp only [dRows, PyData.depth]
  omega
theorem eqv_rws (ess : List (List Ent)) : PyData.eqv (dRows ess) (dRows ess) = true := SeqAt.eqv_refl _ (SeqAt.canLay_of_shaped (shaped_rows ess))
theorem dp_rowsAt {K : PySem.W.Frag} {H : Hp} {vs : List V} {ess : List (List Ent)} (h : RowsAt H vs ess) : DpAll K H vs (ess.map dRow) := by
  induction h with
  | nil => exact .nil
  | cons h1 h2 _ ih => exact .cons (h2.dp (.inl (.inl h1))) ih
/-- a list of rows in the heap -/
structure RwsAt (H : Hp) (a : Addr) (ess : List (List Ent)) : Prop where
  ex : ∃ vs, H a = some (.lst vs) ∧ RowsAt H vs ess
theorem RwsAt.mono {H H' : Hp} {a : Addr} {ess : List (List Ent)} (s : Same H H') (h : RwsAt H a ess) : RwsAt H' a ess := by
  obtain ⟨vs, h1, h2⟩ := h.ex
  exact ⟨vs, s _ _ h1, h2.mono s⟩
theorem RwsAt.dp {K : PySem.W.Frag} {H : Hp} {a : Addr} {ess : List (List Ent)} (h : RwsAt H a ess) : Dp K H (.ref a) (dRows ess) := by
  obtain ⟨vs, h1, h2⟩ := h.ex
  exact .lst (.inl (.inl h1)) (dp_rowsAt h2)
/-- isinstance(e, T), e the held error at a -/
def rIsX (K : PySem.W.Frag) (a : Addr) (c : Value) (d : Option Addr) : List V → Hp → VK → Prop := fun xs H Q => ∃ (C dd : Addr) (fs : List (Str × V)) (y : V) (u : Value) (b : Bool),
    xs = [.ref a, y] ∧ c = .ref C ∧ d = some dd ∧ PySem.W.OtCls K C ∧ H dd = some (.xd fs) ∧ ClsV y u ∧ PySem.W.kitOne K (.ref C) u = some b ∧ Q (.bl b) H
theorem call_isA {X : Cx} {a : Addr} {oe : Obj} {c : Value} {d : Option Addr} (hp : (a, oe) ∈ X.pn) (zc : Zc c d oe) (fld : ∃ fs, oe.data = .fields fs) : CallR X (.builtin "isinstance") (rIsX X.K a c d) := call_isX (p := (a, oe)) hp zc fld
def tCallE (sp : SpE) (a : Addr) (c : Value) (d : Option Addr) (t : TA) : TE := fun σ H Q => t σ H fun vs H1 => sp a c d vs H1 Q E0
theorem pe_callA {X : Cx} {a : Addr} {oe : Obj} {c : Value} {d : Option Addr} {k : Nat} {f : Addr} {fd : FuncData} {ps : List Str} {sp : SpE} {x : Str} {q pos : Pos} {e : Expr} {es : List Expr} {t : TA} (F : FnE X.prog X.w X.K X.mg X.base k f fd ps sp) (hr : L2H.RoomH k X.A) (hp : (a, oe) ∈ X.pn) (zc : Zc c d oe) (fld : ∃ fs, oe.data = .fields fs) (hg : Gl X x) (hm : X.mg x = some (.ref f)) (hk : PySem.W.keepIn X.K (.ref f) = true) (hb : Binds X.K fd ps [])
    (ha : PA X (e :: es) t) (hdb : (x == ("__debug__" : Str)) = false := by decide) (he : starEach (e :: es) X.env = (false, eval e X.env) :: starEach es X.env := by rfl) (hpl : (backTo pos (starEach es X.env)).any (·.1) = false := by rfl) :
    PE X (.Call (.Name x q) (e :: es) [] pos) (tCallE sp a c d t) := pe_callE (p := (a, oe)) F hr hp zc fld hg hm hk hb ha hdb he hpl
section
variable {P : Program} {w : World} {K : PySem.W.Frag} {mg : Str → Option Value} {base : Heap}
/-- the held error bears these fields -/
structure HeldF (K : PySem.W.Frag) (H : Hp) (C dd : Addr) (c : Value) (d : Option Addr) (fs : List (Str × V)) : Prop where
  c : c = .ref C
  d : d = some dd
  t : PySem.W.OtCls K C
  h : H dd = some (.xd fs)
def spErrE (K : PySem.W.Frag) (B : Addr) : SpE := fun a c d vs H Q _ => ∃ (C dd : Addr) (fs : List (Str × V)) (nm : Str), vs = [.ref a, .str nm] ∧ HeldF K H C dd c d fs ∧ PySem.W.findIn K (.ref C) "word" = some none ∧ fs.lookup ("word" : Str) = some (V.str nm) ∧
  PySem.W.kitOne K (.ref C) (.ref B) = some true ∧ PySem.W.kitOne K (.ref C) (.type "ValueError") = some true ∧ Q (.bl true) H
theorem h__law_is_error {f B : Addr} {fd : FuncData} (D : C8.Def K mg "_law_is_error" s__law_is_error f fd) (T : Bi mg) (gB : mg "TableError" = some (.ref B)) (nV : mg "ValueError" = none) : FnE P w K mg base 1 f fd ["_law_e", "_law_word"] (spErrE K B) := by
  refine fnE_of D.fn sc__law_is_error (fun a c d vs H Q E h => ?_) (fun cdv A outer s H vs Q p c d zc fld hr h => ?_)
  · obtain ⟨C, dd, fs, nm, rfl, _⟩ := h
    rfl
  · obtain ⟨C, dd, fs, nm, rfl, hh, nw, lw, kB, kV, q⟩ := h
    have hp : p ∈ (L2H.cxH L2.CX0 P w K mg base ["_law_e", "_law_word"] "_law_is_error" (C8.fnScope s__law_is_error) f cdv A outer s H E0 p).pn := List.mem_cons_self
    refine ⟨_, pss_one (ps_ret (pe_and (pe_callB (call_isX hp zc fld) (by rfl) T.n_isinstance OT.b_isinstance (pa_cons (pv 0) (pa_cons (pe_glob (v := .ref B) (by rfl) gB rfl) pa_nil)))
      (pe_and (pe_callB (call_isX hp zc fld) (by rfl) T.n_isinstance OT.b_isinstance (pa_cons (pv 0) (pa_cons (pe_bltn (v := .ty "ValueError") (by rfl) nV OT.b_ValueError rfl) pa_nil)))
      (pe_and (pe_callB call_isi (by rfl) T.n_isinstance OT.b_isinstance (pa_cons (pe_fX hp zc fld (pv 0)) (pa_cons (pe_bltn (v := .ty "str") (by rfl) T.n_str OT.b_str rfl) pa_nil)))
      (pe_one (pe_cmpR op_eq (pe_fX hp zc fld (pv 0)) (pv 1) (nomark _))))))), ?_⟩
    refine ⟨_, rfl, C, dd, fs, _, _, _, rfl, hh.c, hh.d, hh.t, hh.h, .own B, kB, _, rfl, ?_⟩
    refine iteT ?_
    refine ⟨_, rfl, C, dd, fs, _, _, _, rfl, hh.c, hh.d, hh.t, hh.h, .ty _, kV, _, rfl, ?_⟩
    refine iteT ?_
    refine ⟨_, rfl, C, dd, fs, _, rfl, hh.c, hh.d, hh.t, nw, hh.h, lw, _, _, _, _, _, rfl, .ty _, .base (.str nm), kit_ty kb_ss, _, rfl, ?_⟩
    refine iteT ?_
    refine ⟨_, rfl, C, dd, fs, _, rfl, hh.c, hh.d, hh.t, nw, hh.h, lw, _, rfl, rfl, ?_⟩
    rw [decide_eq_true rfl]
    exact q
/-- what isinstance says of the class at C -/
structure KitE (K : PySem.W.Frag) (B C : Addr) : Prop where
  b : PySem.W.kitOne K (.ref C) (.ref B) = some true
  v : PySem.W.kitOne K (.ref C) (.type "ValueError") = some true
theorem roomH_m {k : Nat} {A : Around} {v : Option Value} (r : Room k A) : L2H.RoomH k (A.mark v) := ⟨r.dp, r.un⟩
/-- an error of mixed dimensions, held -/
structure MixF (K : PySem.W.Frag) (M Cp Z O : Addr) : Prop where
  c : PySem.W.kitOne K (.ref M) (.ref Cp) = some false
  o : PySem.W.kitOne K (.ref M) (.ref O) = some false
  z : PySem.W.kitOne K (.ref M) (.ref Z) = some false
  m : PySem.W.kitOne K (.ref M) (.ref M) = some true
def spMxE (K : PySem.W.Frag) (M : Addr) : SpE := fun a c d vs H Q _ => ∃ dd, vs = [.ref a] ∧ HeldF K H M dd c d errM ∧ Q (.bl true) H
theorem h__law_is_mixed {f B M Cp Z O f1 : Addr} {fd fd1 : FuncData} (D : C8.Def K mg "_law_is_mixed" s__law_is_mixed f fd) (T : Bi mg) (tM : OtErr K M "MixedDimensions") (kM : KitE K B M)
    (gC : mg "BadPlace" = some (.ref Cp)) (gM : mg "MixedDimensions" = some (.ref M)) (gO : mg "OneDirectionOnly" = some (.ref O)) (gZ : mg "ZeroRow" = some (.ref Z)) (k : MixF K M Cp Z O)
    (D1 : C8.Def K mg "_law_is_error" s__law_is_error f1 fd1) (b1 : Binds K fd1 ["_law_e", "_law_word"] []) (F1 : FnE P w K mg base 1 f1 fd1 ["_law_e", "_law_word"] (spErrE K B)) : FnE P w K mg base 2 f fd ["_law_e"] (spMxE K M) := by
  refine fnE_of D.fn sc__law_is_mixed (fun a c d vs H Q E h => ?_) (fun cdv A outer s H vs Q p c d zc fld hr h => ?_)
  · obtain ⟨dd, rfl, _⟩ := h
    rfl
  · obtain ⟨dd, rfl, hh, q⟩ := h
    have hp : p ∈ (L2H.cxH L2.CX0 P w K mg base ["_law_e"] "_law_is_mixed" (C8.fnScope s__law_is_mixed) f cdv A outer s H E0 p).pn := List.mem_cons_self
    refine ⟨_, pss_cons (ps_if (PW.pt (pw_or (pt_val (pe_callB (call_isX hp zc fld) (by rfl) T.n_isinstance OT.b_isinstance (pa_cons (pv 0) (pa_cons (pe_glob (v := .ref Cp) (by rfl) gC rfl) pa_nil))))
        (pw_or (pt_val (pe_callB (call_isX hp zc fld) (by rfl) T.n_isinstance OT.b_isinstance (pa_cons (pv 0) (pa_cons (pe_glob (v := .ref O) (by rfl) gO rfl) pa_nil))))
        (pw_or1 (pt_val (pe_callB (call_isX hp zc fld) (by rfl) T.n_isinstance OT.b_isinstance (pa_cons (pv 0) (pa_cons (pe_glob (v := .ref Z) (by rfl) gZ rfl) pa_nil)))))))) (pss_one (ps_ret pe_bl)) pss_nil)
      (pss_one (ps_ret (pe_and (pe_callB (call_isX hp zc fld) (by rfl) T.n_isinstance OT.b_isinstance (pa_cons (pv 0) (pa_cons (pe_glob (v := .ref M) (by rfl) gM rfl) pa_nil)))
        (pe_one (pe_callE F1 hr hp zc fld (by rfl) D1.mgf D1.kp b1 (pa_cons (pv 0) (pa_cons pe_str pa_nil))))))), ?_⟩
    refine ⟨_, rfl, M, dd, _, _, _, _, rfl, hh.c, hh.d, hh.t, hh.h, .own Cp, k.c, _, rfl, ?_⟩
    refine iteF ?_
    refine ⟨_, rfl, M, dd, _, _, _, _, rfl, hh.c, hh.d, hh.t, hh.h, .own O, k.o, _, rfl, ?_⟩
    refine iteF ?_
    refine ⟨_, rfl, M, dd, _, _, _, _, rfl, hh.c, hh.d, hh.t, hh.h, .own Z, k.z, _, rfl, ?_⟩
    refine iteF ?_
    refine ⟨_, rfl, M, dd, _, _, _, _, rfl, hh.c, hh.d, hh.t, hh.h, .own M, k.m, _, rfl, ?_⟩
    refine iteT ?_
    exact ⟨_, rfl, M, dd, _, "MixedDimensions", rfl, hh, tM.nw, rfl, kM.b, kM.v, q⟩
end
end OT

set_option Elab.async false
set_option linter.all false
set_option maxRecDepth 100000
set_option maxHeartbeats 4000000
namespace OT
open PySem PySem.Spec PyProof.Rows L2
/-! ### the algebra of products -/
theorem timesL_prod (es fs : List Ent) : timesL es fs = prodL plusP es fs := rfl
theorem mirL_map (es : List Ent) : mirL es = mapF negP es := rfl
theorem plusP_comm : ∀ k l : Pl, plusP k l = plusP l k
  | [], [] => rfl
  | [], _ :: _ => rfl
  | _ :: _, [] => rfl
  | x :: k, y :: l => by
    show (x + y) :: plusP k l = (y + x) :: plusP l k
    rw [plusP_comm k l, Int.add_comm]
theorem plusP_assoc : ∀ k l m : Pl, plusP (plusP k l) m = plusP k (plusP l m)
  | [], l, m => by cases l <;> cases m <;> rfl
  | _ :: _, [], m => by cases m <;> rfl
  | _ :: _, _ :: _, [] => rfl
  | x :: k, y :: l, z :: m => by
    show (x + y + z) :: plusP (plusP k l) m = (x + (y + z)) :: plusP k (plusP l m)
    rw [plusP_assoc k l m, Int.add_assoc]
theorem negP_plus : ∀ k l : Pl, negP (plusP k l) = plusP (negP k) (negP l)
  | [], l => by cases l <;> rfl
  | _ :: _, [] => rfl
  | x :: k, y :: l => by
    show (-(x + y)) :: negP (plusP k l) = (-x + -y) :: plusP (negP k) (negP l)
    rw [negP_plus k l, Int.neg_add]
theorem negP_neg : ∀ k : Pl, negP (negP k) = k
  | [] => rfl
  | x :: k => by
    show (- -x) :: negP (negP k) = x :: k
    rw [negP_neg k, Int.neg_neg]
theorem mirL_mir (es : List Ent) : mirL (mirL es) = es := by
  show (es.map _).map _ = es
  rw [List.map_map]
  have : es.map id = es := List.map_id es
  conv => rhs; rw [← this]
  refine List.map_congr_left fun e _ => ?_
  show (negP (negP e.1), e.2) = e
  rw [negP_neg]
theorem mirL_times (es fs : List Ent) : mirL (timesL es fs) = timesL (mirL es) (mirL fs) := prodL_map negP_plus fs es
theorem times_comm (es fs : List Ent) (q : Pl) : numAt (timesL es fs) q = numAt (timesL fs es) q := prodL_comm plusP_comm es fs q
theorem times_congr {a b c d : List Ent} (h : ∀ q, numAt a q = numAt b q) (k : ∀ q, numAt c q = numAt d q) (q : Pl) : numAt (timesL a c) q = numAt (timesL b d) q := numAt_prodL_eq plusP h k q
theorem mir_congr {a b : List Ent} (h : ∀ q, numAt a q = numAt b q) (q : Pl) : numAt (mirL a) q = numAt (mirL b) q := numAt_mapF_eq negP h q
/-- sums of products: the cross table -/
def crossL (es fs : List Ent) : List Ent := timesL es (mirL fs)
theorem cross_congr {a b c d : List Ent} (h : ∀ q, numAt a q = numAt b q) (k : ∀ q, numAt c q = numAt d q) (q : Pl) : numAt (crossL a c) q = numAt (crossL b d) q := times_congr h (mir_congr k) q
/-- the mirror of a cross table is the other one -/
theorem cross_mir (es fs : List Ent) (q : Pl) : numAt (mirL (crossL es fs)) q = numAt (crossL fs es) q := by
  unfold crossL
  rw [mirL_times, mirL_mir]
  exact times_comm _ _ q
theorem own_mir (es : List Ent) (q : Pl) : numAt (crossL (mirL es) (mirL es)) q = numAt (crossL es es) q := by
  unfold crossL
  rw [mirL_mir]
  exact times_comm _ _ q
theorem own_times (a b : List Ent) (q : Pl) : numAt (crossL (timesL a b) (timesL a b)) q = numAt (timesL (crossL a a) (crossL b b)) q := by
  unfold crossL
  rw [mirL_times]
  exact prodL_four plusP_comm plusP_assoc a b (mirL a) (mirL b) q
/-! ### bounds -/
def NB (U : Nat) (es : List Ent) : Prop := ∀ e ∈ es, e.2.natAbs ≤ U
theorem NB.num {U : Nat} {es : List Ent} (h : NB U es) (k : U ≤ 1000000000000000) : ∀ e ∈ es, -(2 ^ 64) < e.2 ∧ e.2 < 2 ^ 64 := fun e he => by
  have := h e he
  have h0 : (2 : Int) ^ 64 = 18446744073709551616 := by decide
  omega
theorem NB.le {U W : Nat} {es : List Ent} (h : NB U es) (k : U ≤ W) : NB W es := fun e he => Nat.le_trans (h e he) k
theorem numAt_le {U : Nat} : ∀ {es : List Ent}, NB U es → ∀ q, (numAt es q).natAbs ≤ es.length * U
  | [], _, _ => Nat.zero_le _
  | e :: r, h, q => by
    have ih := numAt_le (fun x hx => h x (List.mem_cons_of_mem _ hx)) q
    have he := h e List.mem_cons_self
    show ((if e.1 = q then e.2 else 0) + numAt r q).natAbs ≤ (r.length + 1) * U
    rw [Nat.succ_mul]
    by_cases c : e.1 = q
    · rw [if_pos c]
      omega
    · rw [if_neg c]
      omega
theorem RowIs.nb {r es : List Ent} {U : Nat} (h : RowIs r es) (hb : NB U es) : NB (es.length * U) r := fun e he => by
  have h1 := h.v.at e he
  rw [← h1, h.s]
  exact numAt_le hb _
theorem mirP_d {es : List Ent} {n : Nat} (h : ∀ e ∈ es, e.1.length = n) : ∀ e ∈ mirP es, e.1.length = n := fun e he => by
  obtain ⟨y, hy, rfl⟩ := List.mem_map.mp he
  show (negP y.1).length = n
  rw [negP_len, h y (List.mem_reverse.mp hy)]
theorem mirP_len (es : List Ent) : (mirP es).length = es.length := by
  unfold mirP
  rw [List.length_map, List.length_reverse]
theorem mirP_c {es : List Ent} {C : Nat} (h : ∀ e ∈ es, ∀ x ∈ e.1, x.natAbs ≤ C) : ∀ e ∈ mirP es, ∀ x ∈ e.1, x.natAbs ≤ C := fun e he x hx => by
  obtain ⟨y, hy, rfl⟩ := List.mem_map.mp he
  obtain ⟨z, hz, rfl⟩ := List.mem_map.mp hx
  have := h y (List.mem_reverse.mp hy) z hz
  omega
theorem mirP_nb {es : List Ent} {U : Nat} (h : NB U es) : NB U (mirP es) := fun e he => by
  obtain ⟨y, hy, rfl⟩ := List.mem_map.mp he
  exact h y (List.mem_reverse.mp hy)
theorem dimE_mir {es : List Ent} {n : Nat} (h : ∀ e ∈ es, e.1.length = n) : dimE (mirP es) = dimE es := by
  by_cases z : es = []
  · rw [z]
    rfl
  · have z2 : mirP es ≠ [] := fun y => z (List.length_eq_zero_iff.mp (by rw [← mirP_len, y]; rfl))
    rw [dimE_eq h z, dimE_eq (mirP_d h) z2]
/-- a row in the heap: places of n coordinates, to C, numbers to U -/
structure RB (H : Hp) (p : Addr) (xs : List V) (es : List Ent) (n C U : Nat) : Prop where
  l : H p = some (.lst xs)
  e : Ents H xs es
  v : Valid es
  d : ∀ e ∈ es, e.1.length = n
  n1 : 1 ≤ n
  n3 : n ≤ 3
  z : es.length ≤ 44
  c : ∀ e ∈ es, ∀ x ∈ e.1, x.natAbs ≤ C
  cC : C ≤ 100000
  u : NB U es
  uU : U ≤ 1000000000000000
theorem RB.mono {H H' : Hp} {p : Addr} {xs : List V} {es : List Ent} {n C U : Nat} (s : Same H H') (h : RB H p xs es n C U) : RB H' p xs es n C U := ⟨s _ _ h.l, h.e.mono s, h.v, h.d, h.n1, h.n3, h.z, h.c, h.cC, h.u, h.uU⟩
theorem RB.copy {H : Hp} {p q : Addr} {xs : List V} {es : List Ent} {n C U : Nat} (h : RB H p xs es n C U) (hq : H q = some (.lst xs)) : RB H q xs es n C U := ⟨hq, h.e, h.v, h.d, h.n1, h.n3, h.z, h.c, h.cC, h.u, h.uU⟩
theorem RB.two {K : PySem.W.Frag} {H : Hp} {p q : Addr} {xs ys : List V} {es fs : List Ent} {n m C D U W : Nat} (h : RB H p xs es n C U) (k : RB H q ys fs m D W) : TwoR K H p q xs ys es fs n m (C + D) := by
  have h1 := h.z
  have h2 := k.z
  have h3 := h.cC
  have h4 := k.cC
  exact ⟨h.l, k.l, h.e, k.e, by omega, by omega, h.d, k.d, h.n3, k.n3, fun e he x hx => Nat.le_trans (h.c e he x hx) (Nat.le_add_right _ _), fun e he x hx => Nat.le_trans (k.c e he x hx) (Nat.le_add_left _ _), by omega⟩
section
variable {P : Program} {w : World} {K : PySem.W.Frag} {mg : Str → Option Value} {base : Heap}
def spCr (K : PySem.W.Frag) (M : Addr) : Sp := fun vs H Q E => ∃ (a b : Addr) (xs ys : List V) (es fs : List Ent) (n m C : Nat), vs = [.ref a, .ref b] ∧ TwoR K H a b xs ys es fs n m C ∧ es.length * fs.length < 2000 ∧ NB 1000000000000000 fs ∧
  (mixB es fs = true → ∀ d H', Same H H' → H' d = some (.xd errM) → E (.ref M) (some d) H') ∧
  (mixB es fs = false → (es ≠ [] → fs ≠ [] → n = m) ∧ wantRow H (timesL es (mirP fs)) Q)
theorem ok_cross_table {f M fM : Addr} {fd fdM : FuncData} (D : C8.Def K mg "cross_table" s_cross_table f fd) (T : Bi mg) (DM : C8.Def K mg "multiply" s_multiply fM fdM) (bM : Binds K fdM ["first", "second"] []) (GM : FnOk P w K mg base (L2.CX P w) 5 fM fdM ["first", "second"] (spMul K M))
    (c_mirror : C8.Cal P w K mg base 1 "mirror" spMirror []) : FnOk P w K mg base (L2.CX P w) 6 f fd ["first", "second"] (spCr K M) := by
  obtain ⟨oc, od, dV, kV, doc, pm, an, cdv, ct, osl, rfl, lk, hcd⟩ := D.fn.ex
  refine fn_of lk hcd sc_cross_table (fun vs H Q E h => ?_) fun A outer s H vs Q E hr h => ?_
  · obtain ⟨a, b, xs, ys, es, fs, n, m, C, rfl, _⟩ := h
    rfl
  · obtain ⟨a, b, xs, ys, es, fs, n, m, C, rfl, R, hz, hnb, qE, qN⟩ := h
    refine ⟨_, (pss_one (ps_ret (pe_callS GM hr rfl DM.mgf DM.kp bM (fun σ => passAt (takes_of rfl rfl rfl rfl) σ) (pa_cons (pv 0) (pa_cons (C8.pe_c c_mirror hr (by decide) (by rfl) (pa_cons (pv 1) pa_nil)) pa_nil))))), ?_⟩
    have m3 := R.m3
    refine ⟨_, rfl, _, rfl, b, ys, fs, rfl, R.hb, R.f, R.zf, fun e he => by rw [R.df e he]; omega, fun p ws H2 s2 np hp hW => ?_⟩
    have R2 := R.mono s2
    have T2 : TwoR K H2 a p xs ws es (mirP fs) n m C := ⟨R2.ha, hp, R2.e, hW, R2.ze, by rw [mirP_len]; exact R2.zf, R2.de, mirP_d R2.df, R2.n3, R2.m3, R2.ce, mirP_c R2.cf, R2.c⟩
    have hdm : mixL ((dims [es, mirP fs]).filter nz) = mixB es fs := by
      rw [mixD]
      unfold mixB
      rw [dimE_mir R.df]
    refine ⟨a, p, xs, ws, es, mirP fs, n, m, C, rfl, T2, by rw [mirP_len]; exact hz, (mirP_nb hnb).num (by decide), fun hm d H3 s3 hd => ?_, fun hm => ?_⟩
    · rw [hdm] at hm
      exact qE hm d H3 (s2.trans s3) hd
    · rw [hdm] at hm
      obtain ⟨h1, h2⟩ := qN hm
      refine ⟨fun z1 z2 => h1 z1 fun z => z2 (by rw [z]; rfl), wantRow.mono s2 h2⟩
def spOw (K : PySem.W.Frag) : Sp := fun vs H Q _ => ∃ (a : Addr) (xs : List V) (es : List Ent) (n C U : Nat), vs = [.ref a] ∧ RB H a xs es n C U ∧ wantRow H (crossL es es) Q
theorem ok_own_table {f M fM : Addr} {fd fdM : FuncData} (D : C8.Def K mg "own_table" s_own_table f fd) (T : Bi mg) (DM : C8.Def K mg "cross_table" s_cross_table fM fdM) (bM : Binds K fdM ["first", "second"] []) (GM : FnOk P w K mg base (L2.CX P w) 6 fM fdM ["first", "second"] (spCr K M)) : FnOk P w K mg base (L2.CX P w) 7 f fd ["row"] (spOw K) := by
  obtain ⟨oc, od, dV, kV, doc, pm, an, cdv, ct, osl, rfl, lk, hcd⟩ := D.fn.ex
  refine fn_of lk hcd sc_own_table (fun vs H Q E h => ?_) fun A outer s H vs Q E hr h => ?_
  · obtain ⟨a, xs, es, n, C, U, rfl, _⟩ := h
    rfl
  · obtain ⟨a, xs, es, n, C, U, rfl, R, q⟩ := h
    refine ⟨_, (pss_one (ps_ret (pe_callS GM hr rfl DM.mgf DM.kp bM (fun σ => passAt (takes_of rfl rfl rfl rfl) σ) (pa_cons (pv 0) (pa_cons (pv 0) pa_nil))))), ?_⟩
    have hz := R.z
    have hzz : es.length * es.length < 2000 := Nat.lt_of_le_of_lt (Nat.mul_le_mul hz hz) (by decide)
    refine ⟨_, rfl, _, rfl, a, a, xs, xs, es, es, n, n, _, rfl, R.two R, hzz, R.u.le R.uU, fun hm => ?_, fun _ => ⟨fun _ _ => rfl, ?_⟩⟩
    · exact absurd rfl (of_decide_eq_true hm).2.2
    · intro r p ws H2 hr s2 np hp hE
      exact q r p ws H2 (hr.congr (times_congr (fun _ => rfl) (mirP_is R.v R.d).s)) s2 np hp hE
end
end OT

set_option Elab.async false
set_option linter.all false
set_option maxRecDepth 100000
set_option maxHeartbeats 4000000
namespace OT
open PySem PySem.Spec PyProof.Rows L2
def totE (es : List Ent) : Int := (es.map (·.2)).sum
theorem totE_sumW : ∀ es : List Ent, totE es = sumW (fun _ => 1) es
  | [] => rfl
  | e :: r => by
    have ih := totE_sumW r
    show e.2 + totE r = e.2 * 1 + sumW _ r
    rw [ih, Int.mul_one]
theorem totE_is {r es : List Ent} (h : RowIs r es) : totE r = totE es := by rw [totE_sumW, totE_sumW, h.sum]
theorem any_zero {n : Nat} {k : Pl} (h : k.length = n) : (k.any fun x => decide (x ≠ 0)) = !decide (k = zeros n) := by
  by_cases z : k = zeros n
  · rw [decide_eq_true z]
    refine List.any_eq_false.mpr fun x hx => ?_
    rw [z] at hx
    rw [(List.mem_replicate.mp hx).2]
    decide
  · rw [decide_eq_false z]
    refine List.any_eq_true.mpr ?_
    refine Decidable.byContradiction fun y => z ?_
    refine List.eq_replicate_iff.mpr ⟨h, fun x hx => ?_⟩
    exact Decidable.byContradiction fun nx => y ⟨x, hx, decide_eq_true nx⟩
section
variable {P : Program} {w : World} {K : PySem.W.Frag} {mg : Str → Option Value} {base : Heap}
def spLookP (K : PySem.W.Frag) (M : Addr) : Sp := fun vs H Q E => ∃ (a b : Addr) (xs ys : List V) (es fs : List Ent) (n m C U : Nat), vs = [.ref a, .ref b] ∧ RB H a xs es n C U ∧ RB H b ys fs m C U ∧ es.length + fs.length ≤ 44 ∧ 44 * U ≤ 1000000000000000 ∧
  (mixB es fs = true → ∀ d H', Same H H' → H' d = some (.xd errM) → E (.ref M) (some d) H') ∧
  (mixB es fs = false → ∀ g, RowIs g (es ++ fs) → wantRow H (crossL g g) Q)
theorem ok_look {f M fA fO : Addr} {fd fdA fdO : FuncData} (D : C8.Def K mg "look" s_look f fd) (T : Bi mg) (DO : C8.Def K mg "own_table" s_own_table fO fdO) (bO : Binds K fdO ["row"] []) (GO : FnOk P w K mg base (L2.CX P w) 7 fO fdO ["row"] (spOw K))
    (DA : C8.Def K mg "add" s_add fA fdA) (bA : Binds K fdA ["first", "second"] []) (GA : FnOk P w K mg base (L2.CX P w) 5 fA fdA ["first", "second"] (spSum K M)) : FnOk P w K mg base (L2.CX P w) 8 f fd ["row", "reference"] (spLookP K M) := by
  obtain ⟨oc, od, dV, kV, doc, pm, an, cdv, ct, osl, rfl, lk, hcd⟩ := D.fn.ex
  refine fn_of lk hcd sc_look (fun vs H Q E h => ?_) fun A outer s H vs Q E hr h => ?_
  · obtain ⟨a, b, xs, ys, es, fs, n, m, C, U, rfl, _⟩ := h
    rfl
  · obtain ⟨a, b, xs, ys, es, fs, n, m, C, U, rfl, R, S, hz, hU, qE, qN⟩ := h
    refine ⟨_, (pss_one (ps_ret (pe_callS GO hr rfl DO.mgf DO.kp bO (fun σ => passAt (takes_of rfl rfl rfl rfl) σ) (pa_cons (pe_callS (GA.mono (by decide : 5 ≤ 7)) hr rfl DA.mgf DA.kp bA (fun σ => passAt (takes_of rfl rfl rfl rfl) σ) (pa_cons (pv 0) (pa_cons (pv 1) pa_nil))) pa_nil)))), ?_⟩
    have ne_of : ∀ {l : List Ent} {k : Nat}, (∀ e ∈ l, e.1.length = k) → 1 ≤ k → ∀ e ∈ l, e.1 ≠ [] := fun h h1 e he z => by
      have := h e he
      rw [z] at this
      have h0 : (0 : Nat) = _ := this
      omega
    refine ⟨_, rfl, _, rfl, a, b, xs, ys, es, fs, rfl, R.l, S.l, R.e, S.e, by omega, by omega, fun e he => ?_, fun hm d H3 s3 hd => ?_, fun hm => ?_⟩
    · rcases List.mem_append.mp he with he | he
      · exact ne_of R.d R.n1 e he
      · exact ne_of S.d S.n1 e he
    · rw [mixD] at hm
      exact qE hm d H3 s3 hd
    · rw [mixD] at hm
      intro g p ws H3 hg s3 np hp hW
      obtain ⟨k, k1, k3, hk⟩ : ∃ k, 1 ≤ k ∧ k ≤ 3 ∧ ∀ e ∈ es ++ fs, e.1.length = k := by
        by_cases z : es = []
        · refine ⟨m, S.n1, S.n3, fun e he => ?_⟩
          rw [z] at he
          exact S.d e he
        · by_cases y : fs = []
          · refine ⟨n, R.n1, R.n3, fun e he => ?_⟩
            rw [y, List.append_nil] at he
            exact R.d e he
          · have h1 := of_decide_eq_false hm
            rw [dimE_eq R.d z, dimE_eq S.d y] at h1
            have hn1 := R.n1
            have hm1 := S.n1
            have hnm : n = m := Decidable.byContradiction fun x => h1 ⟨by omega, by omega, x⟩
            refine ⟨n, R.n1, R.n3, fun e he => ?_⟩
            rcases List.mem_append.mp he with he | he
            · exact R.d e he
            · rw [hnm]
              exact S.d e he
      have hl : (es ++ fs).length ≤ 44 := by rw [List.length_append]; exact hz
      have nb : NB U (es ++ fs) := fun e he => by
        rcases List.mem_append.mp he with he | he
        · exact R.u e he
        · exact S.u e he
      have G : RB H3 p ws g k C (44 * U) := ⟨hp, hW, hg.v, fun e he => by
        obtain ⟨x, hx, ex⟩ := hg.mem he
        rw [← ex]
        exact hk x hx, k1, k3, Nat.le_trans hg.len hl, fun e he => by
        obtain ⟨x, hx, ex⟩ := hg.mem he
        rw [← ex]
        rcases List.mem_append.mp hx with hx | hx
        · exact R.c x hx
        · exact S.c x hx, R.cC, (hg.nb nb).le (Nat.mul_le_mul_right _ hl), hU⟩
      exact ⟨p, ws, g, k, C, _, rfl, G, wantRow.mono s3 (qN hm g hg)⟩
def spMid (K : PySem.W.Frag) : Sp := fun vs H Q _ => ∃ (a : Addr) (xs : List V) (es : List Ent) (n : Nat), vs = [.ref a] ∧ H a = some (.lst xs) ∧ Ents H xs es ∧ Valid es ∧ (∀ e ∈ es, e.1.length = n) ∧ Q (.int (numAt es (zeros n))) H
theorem c_middle {f : Addr} {fd : FuncData} (D : C8.Def K mg "middle" s_middle f fd) (b : Binds K fd ["row"] []) (T : Bi mg) : C8.Cal P w K mg base 1 "middle" (spMid K) [] := by
  refine C8.cal0 D b .nil sc_middle (fun vs H Q E h => ?_) (fun cdv A outer s H vs Q E hr h => ?_)
  · obtain ⟨a, xs, es, n, rfl, _⟩ := h
    rfl
  · obtain ⟨a, xs, es, n, rfl, ha, hE, hv, hd, q⟩ := h
    refine ⟨_, (pss_cons (ps_for PassesOwn.never rfl (pi_list (pv 0)) (pg_tup rfl (pgs_cons (pg_name (i := 1) sc_middle.nd rfl (Or.inl rfl)) (pgs_cons (pg_name (i := 2) sc_middle.nd rfl (Or.inl rfl)) pgs_nil))) (pss_one (ps_if (pt_not (pt_val (pe_callB (OZ.cr_anyT rfl) (by rfl) T.n_any OT.b_any (pa_cons (pv 1) pa_nil)))) (pss_one (ps_ret (pv 2))) pss_nil)))
  (pss_one (ps_ret pe_int))), ?_⟩
    have hx := hE.len
    have hS : SqL K H a xs := .inl (.inl ha)
    refine ⟨_, rfl, a, rfl, ⟨_, hS⟩, ?_⟩
    refine for_list (K := K) (xs := xs) (fun i σ H2 => ∃ y1 y2 : Option V, σ = [some (.ref a), y1, y2] ∧ H2 = H ∧ ∀ e ∈ es.take i, e.1 ≠ zeros n) ⟨none, none, rfl, rfl, fun e he => (by cases he)⟩ ?_ ?_ ?_
    · rintro i σ H2 _ ⟨_, _, _, rfl, _⟩
      exact hS
    · rintro i x σ H2 hx2 ⟨y1, y2, rfl, rfl, hall⟩
      obtain ⟨e, hee, t, pe, rfl, ht, hpe⟩ := hE.get hx2
      have hem : e ∈ es := List.mem_of_getElem? hee
      refine ⟨t, _, rfl, .inl (.inl ht), rfl, _, _, rfl, _, _, rfl, rfl, ?_⟩
      refine ⟨_, rfl, pe, _, rfl, .inl (.inl hpe), _, rfl, ?_⟩
      rw [any_zero (hd e hem)]
      by_cases h : e.1 = zeros n
      · rw [decide_eq_true h]
        refine iteT ?_
        rw [← h, hv.at e hem] at q
        exact ⟨_, rfl, q⟩
      · rw [decide_eq_false h]
        refine iteF ?_
        refine ⟨_, _, rfl, rfl, fun g hg => ?_⟩
        rw [take_snoc hee] at hg
        rcases List.mem_append.mp hg with hg | hg
        · exact hall g hg
        · rw [List.mem_singleton.mp hg]
          exact h
    · rintro σ H2 ⟨y1, y2, rfl, rfl, hall⟩
      rw [hx, List.take_length] at hall
      rw [numAt_out hall] at q
      exact q
def spTot (K : PySem.W.Frag) : Sp := fun vs H Q _ => ∃ (a : Addr) (xs : List V) (es : List Ent), vs = [.ref a] ∧ H a = some (.lst xs) ∧ Ents H xs es ∧ es.length ≤ 1000 ∧ ∀ H', Same H H' → Q (.int (totE es)) H'
theorem c_total {f : Addr} {fd : FuncData} (D : C8.Def K mg "total" s_total f fd) (b : Binds K fd ["row"] []) (T : Bi mg) : C8.Cal P w K mg base 1 "total" (spTot K) [] := by
  refine C8.cal0 D b .nil sc_total (fun vs H Q E h => ?_) (fun cdv A outer s H vs Q E hr h => ?_)
  · obtain ⟨a, xs, es, rfl, _⟩ := h
    rfl
  · obtain ⟨a, xs, es, rfl, ha, hE, hz, q⟩ := h
    refine ⟨_, (pss_one (ps_ret (pe_callB (cr_sum rfl) (by rfl) T.n_sum OT.b_sum (pa_cons (pe_lc (own := [("place", 1), ("number", 2)]) (g := (gTup K 2 (gCons (gName 1) (gCons (gName 2) gNil)))) (tt := tYes) rfl sc_total.nd (pi_list (pv 0)) (blkOk_by (N := ["row", "place", "number"]) (sc := C8.fnScope s_total) (by decide +kernel)) (fun _ _ _ _ _ => (pg_tup rfl (pgs_cons (pg_name (i := 1) sc_total.nd rfl (Or.inl rfl)) (pgs_cons (pg_name (i := 2) sc_total.nd rfl (Or.inl rfl)) pgs_nil)))) (fun _ _ _ _ _ => pts_nil) (fun _ _ _ _ _ => (pv 2))) pa_nil)))), ?_⟩
    have hx := hE.len
    have hS : SqL K H a xs := .inl (.inl ha)
    refine ⟨_, rfl, a, rfl, ⟨_, hS⟩, fun p np => ?_⟩
    refine lc_list (K := K) (xs := xs) (fun i H2 => Same H H2 ∧ H2 p = some (.lst ((((es.take i).map (·.2))).map V.int))) ?_ ?_ ?_ ?_
    · exact ⟨same_upd np, upd_same⟩
    · rintro i H2 _ ⟨sm, _⟩
      exact sm.seq hS
    · rintro i x H2 hxi ⟨sm, hp⟩
      obtain ⟨e, he, t, pe, rfl, ht, hpe⟩ := (hE.mono sm).get hxi
      refine ⟨t, _, rfl, .inl (.inl ht), rfl, _, _, rfl, _, _, rfl, rfl, rfl, tYes_of ?_⟩
      refine ⟨_, rfl, _, hp, ?_, same_mut sm np, ?_⟩
      · rw [List.length_map, List.length_map, List.length_take]
        exact small1000 (by omega)
      · rw [upd_same, take_snoc he, List.map_append, List.map_append]
        rfl
    · rintro H2 ⟨sm, hp⟩
      rw [hx, List.take_length] at hp
      exact ⟨p, _, rfl, .inl (.inl hp), q _ sm⟩
end
end OT

set_option Elab.async false
set_option linter.all false
set_option maxRecDepth 100000
set_option maxHeartbeats 4000000
namespace OT
open PySem PySem.Spec PyProof.Rows L2
theorem none_back {H H2 : Hp} {p : Addr} (s : Same H H2) (h : H2 p = none) : H p = none := by
  cases z : H p with
  | none => rfl
  | some o =>
    rw [s _ _ z] at h
    cases h
theorem crossL_len (es fs : List Ent) : (crossL es fs).length = es.length * fs.length := by
  unfold crossL
  rw [timesL_len, show (mirL fs).length = fs.length from List.length_map _]
section
variable {P : Program} {w : World} {K : PySem.W.Frag} {mg : Str → Option Value} {base : Heap}
def spZero : Sp := fun vs H Q _ => ∃ n : Nat, vs = [.int (n : Int)] ∧ n ≤ 3 ∧ ∀ p H', Same H H' → H' p = some (.tup ((zeros n).map V.int)) → Q (.ref p) H'
theorem c__law_zero {f : Addr} {fd : FuncData} (D : C8.Def K mg "_law_zero" s__law_zero f fd) (b : Binds K fd ["_law_count"] []) (T : Bi mg) : C8.Cal P w K mg base 1 "_law_zero" spZero [] := by
  refine C8.cal0 D b .nil sc__law_zero (fun vs H Q E h => ?_) (fun cdv A outer s H vs Q E hr h => ?_)
  · obtain ⟨n, rfl, _⟩ := h
    rfl
  · obtain ⟨n, rfl, h3, q⟩ := h
    refine ⟨_, (pss_one (ps_ret (pe_callTy call_tuple_of (by rfl) T.n_tuple OT.b_tuple (pa_cons (pe_lc (own := [("_law_k", 1)]) (g := (gName 1)) (tt := tYes) rfl sc__law_zero.nd (pi_range1 rfl T.n_range (pa_cons (pv 0) pa_nil)) (blkOk_by (N := ["_law_count", "_law_k"]) (sc := C8.fnScope s__law_zero) (by decide +kernel)) (fun _ _ _ _ _ => (pg_name (i := 1) sc__law_zero.nd rfl (Or.inl rfl))) (fun _ _ _ _ _ => pts_nil) (fun _ _ _ _ _ => pe_int)) pa_nil)))), ?_⟩
    refine ⟨_, rfl, _, rfl, by omega, by omega, fun p np => ?_⟩
    rw [Int.toNat_natCast]
    refine lc_range (lo := 0) (n := n) (fun i H3 => Same H H3 ∧ H3 p = some (.lst (List.replicate i (V.int 0)))) ⟨same_upd np, upd_same⟩ ?_ ?_
    · rintro i H3 hi ⟨sm, hD⟩
      refine ⟨rfl, tYes_of ?_⟩
      refine ⟨_, hD, ?_, same_mut sm np, ?_⟩
      · rw [List.length_replicate]
        exact small1000 (by omega)
      · rw [upd_same, List.replicate_succ']
    · rintro H3 ⟨sm, hD⟩
      refine ⟨p, _, rfl, .inl ⟨.inl (.inl hD), fun l nl => ?_⟩⟩
      refine q l _ (sm.trans (same_upd nl)) ?_
      rw [upd_same]
      unfold zeros
      rw [List.map_replicate]
def spNumb : Sp := fun vs H Q _ => ∃ i : Int, vs = [.int i, .int i] ∧ Q (.bl true) H
theorem c__law_number {f : Addr} {fd : FuncData} (D : C8.Def K mg "_law_number" s__law_number f fd) (b : Binds K fd ["_law_actual", "_law_expected"] []) (T : Bi mg) (c__law_is_integer : C8.Cal P w K mg base 1 "_law_is_integer" spIsInt []) : C8.Cal P w K mg base 2 "_law_number" spNumb [] := by
  refine C8.cal0 D b .nil sc__law_number (fun vs H Q E h => ?_) (fun cdv A outer s H vs Q E hr h => ?_)
  · obtain ⟨i, rfl, _⟩ := h
    rfl
  · obtain ⟨i, rfl, q⟩ := h
    refine ⟨_, (pss_one (ps_ret (pe_and (C8.pe_c c__law_is_integer hr (by decide) (by rfl) (pa_cons (pv 0) pa_nil)) (pe_one (pe_cmpR op_eq (pv 0) (pv 1) (nomark _)))))), ?_⟩
    refine ⟨_, rfl, _, rfl, _, rfl, ?_⟩
    refine iteT ?_
    refine ⟨_, rfl, _, rfl, rfl, ?_⟩
    rw [decide_eq_true rfl]
    exact q
def spBU (K : PySem.W.Frag) : Sp := fun vs H Q _ => ∃ (a b : Addr) (xs : List V) (es : List Ent) (s : Int) (l : Pl), vs = [.ref a, .int s, .ref b] ∧ Lst H a xs es ∧ (s = 1 ∨ s = -1) ∧ H b = some (.tup (l.map V.int)) ∧ (∀ e ∈ es, e.1.length = l.length) ∧ l.length ≤ 1000 ∧ wantRow H (scaleL (movL es l) s) Q
theorem c__law_by_unit {f : Addr} {fd : FuncData} (D : C8.Def K mg "_law_by_unit" s__law_by_unit f fd) (b : Binds K fd ["_law_row_here", "_law_sign", "_law_place"] []) (T : Bi mg) (c__law_scaled : C8.Cal P w K mg base 2 "_law_scaled" spScaled []) (c__law_moved : C8.Cal P w K mg base 2 "_law_moved" (spMoved K) []) : C8.Cal P w K mg base 3 "_law_by_unit" (spBU K) [] := by
  refine C8.cal0 D b .nil sc__law_by_unit (fun vs H Q E h => ?_) (fun cdv A outer s H vs Q E hr h => ?_)
  · obtain ⟨a, b, xs, es, s, l, rfl, _⟩ := h
    rfl
  · obtain ⟨a, b, xs, es, s, l, rfl, L, hs, hb, hl, hz, q⟩ := h
    refine ⟨_, (pss_one (ps_ret (C8.pe_c c__law_scaled hr (by decide) (by rfl) (pa_cons (C8.pe_c c__law_moved hr (by decide) (by rfl) (pa_cons (pv 0) (pa_cons (pv 2) pa_nil))) (pa_cons (pv 1) pa_nil))))), ?_⟩
    have hLz := L.z
    refine ⟨_, rfl, _, rfl, a, b, xs, es, l, rfl, ⟨.inl (.inl L.l), L.e, small1000 (by omega)⟩, .inl (.inl hb), fun e he => Nat.le_of_eq (hl e he), hz, fun p ws H2 s2 np hp hE => ?_⟩
    have hml : (movL es l).length = es.length := List.length_map _
    refine ⟨_, rfl, p, ws, movL es l, s, rfl, ⟨hp, hE, by omega, fun e he z => ?_⟩, ?_, wantRow.mono s2 q⟩
    · obtain ⟨y, hy, rfl⟩ := List.mem_map.mp he
      have h1 : (plusP y.1 l).length = 0 := by
        have z2 : plusP y.1 l = [] := z
        rw [z2]
        rfl
      rw [plusP_len (Nat.le_of_eq (hl y hy))] at h1
      exact L.p y hy (List.length_eq_zero_iff.mp h1)
    · rcases hs with rfl | rfl <;> exact ⟨by decide, by decide⟩
def spSumsL (K : PySem.W.Frag) : Sp := fun vs H Q _ => ∃ (a b : Addr) (xs ys : List V) (es fs : List Ent), vs = [.ref a, .ref b] ∧ SqL K H a xs ∧ SqL K H b ys ∧ Ents H xs es ∧ Ents H ys fs ∧ es.length * fs.length ≤ 10000 ∧ (∀ e ∈ es, ∀ g ∈ fs, e.1.length = g.1.length) ∧ (∀ e ∈ es, e.1 ≠ [] ∧ e.1.length ≤ 1000) ∧ (∀ g ∈ fs, -(2 ^ 64) < g.2 ∧ g.2 < 2 ^ 64) ∧ wantRow H (crossL es fs) Q
theorem c__law_sums {f : Addr} {fd : FuncData} (D : C8.Def K mg "_law_sums" s__law_sums f fd) (b : Binds K fd ["_law_first", "_law_second"] []) (T : Bi mg) (c__law_plus : C8.Cal P w K mg base 1 "_law_plus" (spPlus K) []) (c__law_back : C8.Cal P w K mg base 1 "_law_back" (spBack K) []) (c__law_row : C8.Cal P w K mg base 1 "_law_row" (spGather K) []) : C8.Cal P w K mg base 2 "_law_sums" (spSumsL K) [] := by
  refine C8.cal0 D b .nil sc__law_sums (fun vs H Q E h => ?_) (fun cdv A outer s H vs Q E hr h => ?_)
  · obtain ⟨a, b, xs, ys, es, fs, rfl, _⟩ := h
    rfl
  · obtain ⟨a, b, xs, ys, es, fs, rfl, hS, hT, hE, hF, hz, hl, hne, hnum, q⟩ := h
    refine ⟨_, (pss_cons (ps_set (i := 2) sc__law_sums.nd rfl (Or.inl rfl) (pe_lst pa_nil))
  (pss_cons (ps_for PassesOwn.never rfl (pi_list (pv 0)) (pg_tup rfl (pgs_cons (pg_name (i := 3) sc__law_sums.nd rfl (Or.inl rfl)) (pgs_cons (pg_name (i := 4) sc__law_sums.nd rfl (Or.inl rfl)) pgs_nil))) (pss_one (ps_for PassesOwn.never rfl (pi_list (pv 1)) (pg_tup rfl (pgs_cons (pg_name (i := 5) sc__law_sums.nd rfl (Or.inl rfl)) (pgs_cons (pg_name (i := 6) sc__law_sums.nd rfl (Or.inl rfl)) pgs_nil))) (pss_one (ps_expr (pe_bm PySem.F.plainAttrs_list PySem.F.slot_list_append PySem.F.type_list_append mt_append (pv 2) (pa_cons (pe_tup (pa_cons (C8.pe_c c__law_plus hr (by decide) (by rfl) (pa_cons (pv 3) (pa_cons (C8.pe_c c__law_back hr (by decide) (by rfl) (pa_cons (pv 5) pa_nil)) pa_nil))) (pa_cons (pe_op op_mul (pv 4) (pv 6)) pa_nil))) pa_nil)))))))
  (pss_one (ps_ret (C8.pe_c c__law_row hr (by decide) (by rfl) (pa_cons (pv 2) pa_nil)))))), ?_⟩
    refine ⟨by decide, fun p np => ?_⟩
    have s1 : Same H (upd H p (.lst [])) := same_upd np
    refine ⟨_, rfl, a, rfl, ⟨_, s1.seq hS⟩, ?_⟩
    refine for_list (K := K) (xs := xs) (fun i σ H2 => ∃ (ws : List V) (y3 y4 y5 y6 : Option V), σ = [some (.ref a), some (.ref b), some (.ref p), y3, y4, y5, y6] ∧ Same H H2 ∧ H2 p = some (.lst ws) ∧ Ents H2 ws (timesL (es.take i) (mirL fs))) ⟨[], none, none, none, none, rfl, s1, upd_same, .nil⟩ ?_ ?_ ?_
    · rintro i σ H2 _ ⟨_, _, _, _, _, _, sm, _⟩
      exact sm.seq hS
    · rintro i x σ H2 hx ⟨ws, y3, y4, y5, y6, rfl, sm, hp, hW⟩
      obtain ⟨e, hee, t, pe, rfl, ht, hpe⟩ := hE.get hx
      have hi := (List.getElem?_eq_some_iff.mp hee).1
      have hem : e ∈ es := List.mem_of_getElem? hee
      refine ⟨t, _, rfl, .inl (.inl (sm _ _ ht)), rfl, _, _, rfl, _, _, rfl, rfl, ?_⟩
      refine ⟨_, rfl, b, rfl, ⟨_, sm.seq hT⟩, ?_⟩
      refine for_list (K := K) (xs := ys) (fun j σ H3 => ∃ (ws : List V) (y5 y6 : Option V), σ = [some (.ref a), some (.ref b), some (.ref p), some (.ref pe), some (.int e.2), y5, y6] ∧ Same H H3 ∧ H3 p = some (.lst ws) ∧ Ents H3 ws (timesL (es.take i) (mirL fs) ++ rowT e (mirL (fs.take j)))) ?_ ?_ ?_ ?_
      · refine ⟨ws, y5, y6, rfl, sm, hp, ?_⟩
        rw [show rowT e (mirL (fs.take 0)) = [] from rfl, List.append_nil]
        exact hW
      · rintro j σ H3 _ ⟨_, _, _, _, sm, _⟩
        exact sm.seq hT
      · rintro j x σ H3 hx ⟨ws, y5, y6, rfl, sm, hp, hW⟩
        obtain ⟨z, hzz, t2, pz, rfl, ht2, hpz⟩ := hF.get hx
        have hj := (List.getElem?_eq_some_iff.mp hzz).1
        have hzm : z ∈ fs := List.mem_of_getElem? hzz
        refine ⟨t2, _, rfl, .inl (.inl (sm _ _ ht2)), rfl, _, _, rfl, _, _, rfl, rfl, ?_⟩
        have hle := hl e hem z hzm
        have hz1 : z.1.length ≤ 1000 := by rw [← hle]; exact (hne e hem).2
        refine ⟨_, rfl, .inl ⟨rfl, _, .inl (.inl hp)⟩, _, rfl, _, rfl, pz, z.1, rfl, .inl (.inl (sm _ _ hpz)), hz1, fun pb Hb sb hpb => ?_⟩
        refine ⟨pe, pb, e.1, negP z.1, rfl, .inl (.inl (sb _ _ (sm _ _ hpe))), .inl (.inl hpb), by rw [negP_len]; exact Nat.le_of_eq hle, (hne e hem).2, fun p4 H4 s4 hp4 => ?_⟩
        have sb4 := sb.trans s4
        refine ⟨_, rfl, _, rfl, _, _, rfl, rfl, .inr (hnum z hzm), (by show 2 ≤ sizeLine; decide), fun t5 nt5 => ?_⟩
        have s5 : Same H4 (upd H4 t5 (.tup [.ref p4, .int (e.2 * z.2)])) := same_upd nt5
        have s45 := sb4.trans s5
        have hD := s45 _ _ hp
        have hwl := hW.len
        have hmt : mirL (fs.take (j + 1)) = mirL (fs.take j) ++ [(negP z.1, z.2)] := by
          unfold mirL
          rw [take_snoc hzz, List.map_append]
          rfl
        have hml : (mirL (fs.take j)).length = (fs.take j).length := List.length_map _
        have hml2 : (mirL fs).length = fs.length := List.length_map _
        refine ⟨p, ws, _, rfl, rfl, hD, ?_, ?_⟩
        · rw [hwl, List.length_append, timesL_len, List.length_take, show (rowT e (mirL (fs.take j))).length = (mirL (fs.take j)).length from List.length_map _, hml, hml2, List.length_take, Nat.min_eq_left (Nat.le_of_lt hi), Nat.min_eq_left (Nat.le_of_lt hj)]
          have h1 : i * fs.length + fs.length ≤ es.length * fs.length := by
            rw [← Nat.succ_mul]
            exact Nat.mul_le_mul_right _ hi
          exact small100k (by omega)
        · refine ⟨_, _, _, rfl, same_mut (sm.trans s45) np, upd_same, ?_⟩
          rw [hmt]
          have hrw : rowT e (mirL (fs.take j) ++ [(negP z.1, z.2)]) = rowT e (mirL (fs.take j)) ++ [(plusP e.1 (negP z.1), e.2 * z.2)] := by
            unfold rowT
            rw [List.map_append]
            rfl
          rw [hrw, ← List.append_assoc]
          exact ((hW.mono s45).app (.cons ⟨t5, p4, rfl, upd_same, s5 _ _ hp4⟩ .nil)).updL hD
      · rintro σ H3 ⟨ws, y5, y6, rfl, sm, hp, hW⟩
        rw [hF.len, List.take_length] at hW
        refine ⟨_, _, _, _, _, rfl, sm, hp, ?_⟩
        rw [take_snoc hee, timesL_snoc]
        exact hW
    · rintro σ H2 ⟨ws, y3, y4, y5, y6, rfl, sm, hp, hW⟩
      rw [hE.len, List.take_length] at hW
      refine ⟨_, rfl, p, ws, crossL es fs, rfl, ⟨.inl (.inl hp), hW, by rw [crossL_len]; exact small100k (by omega)⟩, fun x hx z => ?_, wantRow.mono sm q⟩
      obtain ⟨e, he, g, hg, rfl⟩ := timesL_mem hx
      obtain ⟨y, hy, rfl⟩ := List.mem_map.mp hg
      have h1 : (plusP e.1 (negP y.1)).length = 0 := by
        have z2 : plusP e.1 (negP y.1) = [] := z
        rw [z2]
        rfl
      rw [plusP_len (by rw [negP_len]; exact Nat.le_of_eq (hl e he y hy))] at h1
      exact (hne e he).1 (List.length_eq_zero_iff.mp h1)
/-- kept: a told row, what is due, and what was handed in, as data -/
def spKeptE (K : PySem.W.Frag) : Sp := fun vs H Q _ => ∃ (H0 : Hp) (p q0 hd rw0 : Addr) (ws ws2 : List V) (g : List Ent) (n : Nat) (D : PyData), vs = [.ref p, .ref q0, .ref hd, .ref rw0] ∧ Same H0 H ∧ H0 p = none ∧ H p = some (.lst ws) ∧ Ents H ws g ∧ H q0 = some (.lst ws2) ∧ Ents H ws2 g ∧
  RowN n g ∧ g.length ≤ 10000 ∧ Dp K H0 (.ref hd) D ∧ Dp K H0 (.ref rw0) D ∧ SeqAt.shaped D = true ∧ ∀ H', Same H0 H' → Q (.bl true) H'
theorem c__law_kept {f : Addr} {fd : FuncData} (D : C8.Def K mg "_law_kept" s__law_kept f fd) (b : Binds K fd ["_law_actual", "_law_expected", "_law_handed", "_law_rows"] []) (T : Bi mg) (c__law_same : C8.Cal P w K mg base 4 "_law_same" (spSame K) []) : C8.Cal P w K mg base 5 "_law_kept" (spKeptE K) [] := by
  refine C8.cal0 D b .nil sc__law_kept (fun vs H Q E h => ?_) (fun cdv A outer s H vs Q E hr h => ?_)
  · obtain ⟨H0, p, q0, hd, rw0, ws, ws2, g, n, ds, rfl, _⟩ := h
    rfl
  · obtain ⟨H0, p, q0, hd, rw0, ws, ws2, g, n, ds, rfl, s0, np, hp, hE, hq, hF, hN, hz, hH, hR, hsh, q⟩ := h
    refine ⟨_, (pss_cons (ps_if (PW.pt (pw_or (pt_not (pt_val (C8.pe_c c__law_same hr (by decide) (by rfl) (pa_cons (pv 0) (pa_cons (pv 1) pa_nil))))) (pw_or1 (pt_cmpR (op_neD hr.units) (pv 2) (pv 3) (nomark _))))) (pss_one (ps_ret pe_bl)) pss_nil)
  (pss_cons (ps_expr (pe_bm PySem.F.plainAttrs_list PySem.F.slot_list_append PySem.F.type_list_append mt_append (pv 0) (pa_cons (pe_tup (pa_cons (pe_tup (pa_cons pe_int pa_nil)) (pa_cons pe_int pa_nil))) pa_nil)))
  (pss_one (ps_ret (pe_cmpR (op_eqD hr.units) (pv 2) (pv 3) (nomark _)))))), ?_⟩
    refine ⟨_, rfl, _, rfl, p, q0, ws, ws2, g, n, rfl, hp, hE, hq, hF, hN, by omega, _, rfl, ?_⟩
    refine iteF ?_
    refine ⟨_, rfl, _, rfl, _, _, Dp.mono s0 hH, Dp.mono s0 hR, hsh, hsh, _, rfl, ?_⟩
    rw [eqvD hsh]
    refine iteF ?_
    refine ⟨_, rfl, .inl ⟨rfl, _, .inl (.inl hp)⟩, (by show 1 ≤ sizeLine; decide), fun t1 nt1 => ⟨(by show 2 ≤ sizeLine; decide), fun t2 nt2 => ?_⟩⟩
    have sm1 : Same H (upd H t1 (.tup [.int 0])) := same_upd nt1
    have sm2 : Same (upd H t1 (.tup [.int 0])) (upd (upd H t1 (.tup [.int 0])) t2 (.tup [.ref t1, .int 1])) := same_upd nt2
    have hwl := hE.len
    refine ⟨p, ws, _, rfl, rfl, (sm1.trans sm2) _ _ hp, small100k (by omega), ?_⟩
    have sM : Same H0 (upd (upd (upd H t1 (.tup [.int 0])) t2 (.tup [.ref t1, .int 1])) p (.lst (ws ++ [.ref t2]))) := same_mut ((s0.trans sm1).trans sm2) np
    generalize upd (upd (upd H t1 (.tup [.int 0])) t2 (.tup [.ref t1, .int 1])) p (.lst (ws ++ [.ref t2])) = H6 at sM ⊢
    refine ⟨_, rfl, _, rfl, _, _, Dp.mono sM hH, Dp.mono sM hR, hsh, hsh, ?_⟩
    rw [eqvD hsh]
    exact q _ sM
end
end OT

set_option Elab.async false
set_option linter.all false
set_option maxRecDepth 100000
set_option maxHeartbeats 4000000
namespace OT
open PySem PySem.Spec PyProof.Rows L2
theorem eqT {i : Nat} {σ : L2.St} {H : Hp} {Q : Bool → Hp → Prop} {m x : Int} (hs : σ[i]? = some (some (.int m))) (h : m = x → Q true H) (h' : m ≠ x → Q false H) : tTest (tOp rEq (tVar i) (tC (.int x))) σ H Q := by
  refine ⟨_, hs, rfl, _, rfl, ?_⟩
  by_cases c : m = x
  · rw [decide_eq_true (by rw [c])]
    exact h c
  · rw [decide_eq_false (fun z => c (V.int.inj z))]
    exact h' c
theorem Boxed.sub {bs : List Nat} {es r : List Ent} (h : Boxed bs es) (k : ∀ e ∈ r, ∃ x ∈ es, x.1 = e.1) : Boxed bs r := by
  obtain ⟨o, ho, hb⟩ := h
  refine ⟨o, ho, fun e he => ?_⟩
  obtain ⟨x, hx, ex⟩ := k e he
  rw [← ex]
  exact hb x hx
theorem Boxed.nil (bs : List Nat) : Boxed bs [] := ⟨List.replicate bs.length 0, List.length_replicate, fun e he => (by cases he)⟩
theorem Boxed.is {bs : List Nat} {es r : List Ent} (h : Boxed bs es) (k : RowIs r es) : Boxed bs r := h.sub fun e he => k.mem he
theorem Boxed.scale {bs : List Nat} {es : List Ent} {f : Int} (h : Boxed bs es) : Boxed bs (scaleL es f) := h.sub fun e he => by
  obtain ⟨y, hy, rfl⟩ := List.mem_map.mp he
  exact ⟨y, hy, rfl⟩
theorem Boxed.mov {bs : List Nat} {es : List Ent} {l : Pl} (h : Boxed bs es) (hl : l.length = bs.length) (hd : ∀ e ∈ es, e.1.length = bs.length) : Boxed bs (movL es l) := by
  obtain ⟨o, ho, hb⟩ := h
  refine ⟨plusP o l, by rw [plusP_len (by omega), ho], fun e he => ?_⟩
  obtain ⟨y, hy, rfl⟩ := List.mem_map.mp he
  intro i x z b hx hz hbi
  have hye := hd y hy
  have hi := (List.getElem?_eq_some_iff.mp hbi).1
  have h1 : i < (plusP y.1 l).length := (List.getElem?_eq_some_iff.mp hx).1
  have h2 : i < (plusP o l).length := (List.getElem?_eq_some_iff.mp hz).1
  rw [List.getElem?_eq_getElem h1, plusP_get h1 (by omega) (by omega)] at hx
  rw [List.getElem?_eq_getElem h2, plusP_get h2 (by omega) (by omega)] at hz
  have h3 := hb y hy i y.1[i] o[i] b (List.getElem?_eq_getElem _) (List.getElem?_eq_getElem _) hbi
  have h4 := Option.some.inj hx
  have h5 := Option.some.inj hz
  omega
theorem Boxed.mir {bs : List Nat} {es : List Ent} (h : Boxed bs es) (hd : ∀ e ∈ es, e.1.length = bs.length) : Boxed bs (mirL es) := by
  obtain ⟨o, ho, hb⟩ := h
  refine ⟨List.zipWith (fun (y : Int) (b : Nat) => -(y + (b : Int) - 1)) o bs, by rw [List.length_zipWith, ho, Nat.min_self], fun e he => ?_⟩
  obtain ⟨y, hy, rfl⟩ := List.mem_map.mp he
  intro i x z b hx hz hbi
  have hye := hd y hy
  have hi := (List.getElem?_eq_some_iff.mp hbi).1
  have hbe : bs[i] = b := (List.getElem?_eq_some_iff.mp hbi).2
  have h2 := (List.getElem?_eq_some_iff.mp hz).1
  rw [List.getElem?_eq_getElem h2, List.getElem_zipWith, hbe] at hz
  have h1 : i < y.1.length := by omega
  have hx2 : (y.1.map fun x => -x)[i]? = some x := hx
  rw [List.getElem?_map, List.getElem?_eq_getElem h1] at hx2
  have h3 := hb y hy i y.1[i] o[i] b (List.getElem?_eq_getElem _) (List.getElem?_eq_getElem _) hbi
  have h4 : -y.1[i] = x := Option.some.inj hx2
  have h5 := Option.some.inj hz
  omega
theorem RB.nil {H : Hp} {p : Addr} {n C U : Nat} (h : H p = some (.lst [])) (n1 : 1 ≤ n) (n3 : n ≤ 3) (hC : C ≤ 100000) (hU : U ≤ 1000000000000000) : RB H p [] [] n C U := ⟨h, .nil, ⟨.nil, fun e h => (by cases h)⟩, fun e h => (by cases h), n1, n3, Nat.zero_le _, fun e h => (by cases h), hC, fun e h => (by cases h), hU⟩
theorem RB.le {H : Hp} {p : Addr} {xs : List V} {es : List Ent} {n C U D W : Nat} (h : RB H p xs es n C U) (h1 : C ≤ D) (h2 : D ≤ 100000) (h3 : U ≤ W) (h4 : W ≤ 1000000000000000) : RB H p xs es n D W := ⟨h.l, h.e, h.v, h.d, h.n1, h.n3, h.z, fun e he x hx => Nat.le_trans (h.c e he x hx) h1, h2, h.u.le h3, h4⟩
/-- the places stay, the numbers go by a factor each -/
theorem RB.scale {H H' : Hp} {p q : Addr} {xs ws : List V} {es r : List Ent} {n C U F : Nat} {f : Int} (h : RB H p xs es n C U) (hr : RowIs r (scaleL es f)) (hl : H' q = some (.lst ws)) (he : Ents H' ws r) (hF : f.natAbs ≤ F) (hU : F * U ≤ 1000000000000000) : RB H' q ws r n C (F * U) ∧ r.length ≤ es.length ∧ ∀ bs, Boxed bs es → Boxed bs r := by
  have e := hr.one (scaleP_is h.v)
  have hm : ∀ g ∈ r, ∃ x ∈ es, x.1 = g.1 := fun g hg => by
    obtain ⟨y, hy, ey⟩ := hr.mem hg
    obtain ⟨x, hx, rfl⟩ := List.mem_map.mp hy
    exact ⟨x, hx, ey⟩
  have hlen : r.length ≤ es.length := by
    have := hr.len
    rwa [show (scaleL es f).length = es.length from List.length_map _] at this
  refine ⟨⟨hl, he, hr.v, fun g hg => ?_, h.n1, h.n3, Nat.le_trans hlen h.z, fun g hg => ?_, h.cC, fun g hg => ?_, hU⟩, hlen, fun bs hb => hb.sub hm⟩
  · obtain ⟨x, hx, ex⟩ := hm g hg
    rw [← ex]
    exact h.d x hx
  · obtain ⟨x, hx, ex⟩ := hm g hg
    rw [← ex]
    exact h.c x hx
  · rw [e] at hg
    unfold scaleP at hg
    by_cases z : f = 0
    · rw [if_pos z] at hg
      cases hg
    · rw [if_neg z] at hg
      obtain ⟨y, hy, rfl⟩ := List.mem_map.mp hg
      show (y.2 * f).natAbs ≤ _
      rw [Int.natAbs_mul, Nat.mul_comm]
      exact Nat.mul_le_mul hF (h.u y hy)
theorem RB.mir {H H' : Hp} {p q : Addr} {xs ws : List V} {es r : List Ent} {n C U : Nat} (h : RB H p xs es n C U) (hr : RowIs r (mirL es)) (hl : H' q = some (.lst ws)) (he : Ents H' ws r) : RB H' q ws r n C U ∧ r.length ≤ es.length ∧ ∀ bs, bs.length = n → Boxed bs es → Boxed bs r := by
  have e := hr.one (mirP_is h.v h.d)
  subst e
  refine ⟨⟨hl, he, hr.v, mirP_d h.d, h.n1, h.n3, by rw [mirP_len]; exact h.z, mirP_c h.c, h.cC, mirP_nb h.u, h.uU⟩, Nat.le_of_eq (mirP_len _), fun bs hbn hb => (hb.mir fun x hx => by rw [h.d x hx, hbn]).is hr⟩
/-- a row times a unit -/
theorem RB.unit {H H' : Hp} {p q : Addr} {xs ws : List V} {es r : List Ent} {n C U : Nat} {s : Int} {l : Pl} (h : RB H p xs es n C U) (hs : s = 1 ∨ s = -1) (hn : l.length = n) (hlc : ∀ x ∈ l, x.natAbs ≤ 900) (hC : C + 900 ≤ 100000) (hr : RowIs r (scaleL (movL es l) s)) (hl : H' q = some (.lst ws)) (he : Ents H' ws r) : RB H' q ws r n (C + 900) U ∧ r.length ≤ es.length ∧ ∀ bs, bs.length = n → Boxed bs es → Boxed bs r := by
  have hle : ∀ e ∈ es, e.1.length ≤ l.length := fun e he => by rw [h.d e he, hn]; exact Nat.le_refl _
  have hmv := movL_valid h.v hle
  have hs0 : s ≠ 0 := by rcases hs with rfl | rfl <;> decide
  have e := hr.one (scaleP_is hmv)
  unfold scaleP at e
  rw [if_neg hs0] at e
  have hlen : r.length = es.length := by
    rw [e]
    unfold scaleL movL
    rw [List.length_map, List.length_map]
  have hm : ∀ g ∈ r, ∃ x ∈ es, g.1 = plusP x.1 l ∧ g.2 = x.2 * s := fun g hg => by
    rw [e] at hg
    obtain ⟨y, hy, rfl⟩ := List.mem_map.mp hg
    obtain ⟨x, hx, rfl⟩ := List.mem_map.mp hy
    exact ⟨x, hx, rfl, rfl⟩
  refine ⟨⟨hl, he, hr.v, fun g hg => ?_, h.n1, h.n3, by rw [hlen]; exact h.z, fun g hg x hx => ?_, hC, fun g hg => ?_, h.uU⟩, Nat.le_of_eq hlen, fun bs hbn hb => ((hb.mov (by rw [hn, hbn]) fun x hx => by rw [h.d x hx, hbn]).scale (f := s)).is hr⟩
  · obtain ⟨x, hx, e1, _⟩ := hm g hg
    rw [e1, plusP_len (hle x hx), h.d x hx]
  · obtain ⟨y, hy, e1, _⟩ := hm g hg
    rw [e1] at hx
    obtain ⟨a, ha, b, hb, rfl⟩ := plusP_mem hx
    have := h.c y hy a ha
    have := hlc b hb
    omega
  · obtain ⟨y, hy, _, e2⟩ := hm g hg
    have := h.u y hy
    rw [e2]
    rcases hs with rfl | rfl <;> omega
theorem RB.lst {H : Hp} {p : Addr} {xs : List V} {es : List Ent} {n C U : Nat} (h : RB H p xs es n C U) : Lst H p xs es := ⟨h.l, h.e, by have := h.z; omega, fun e he z => by
  have := h.d e he
  rw [z] at this
  have h0 : (0 : Nat) = n := this
  have := h.n1
  omega⟩
theorem RB.drawn {H : Hp} {p : Addr} {xs : List V} {es : List Ent} {n m c u : Nat} (hd : DrawnR n m c u es) (hl : H p = some (.lst xs)) (he : Ents H xs es) (n1 : 1 ≤ n) (n3 : n ≤ 3) (hm : m ≤ 8) (hc : c ≤ 8) (hu : u ≤ 24) : RB H p xs es n 8 24 := ⟨hl, he, hd.v, hd.n, n1, n3, by have := hd.m; omega, fun e he x hx => Nat.le_trans (hd.c e he x hx) hc, by decide, fun e he => Nat.le_trans (hd.u e he) hu, by decide⟩
/-- the boxes of the law -/
def BxU (u : Nat) (bs : List Nat) : Prop := bs = [u] ∨ bs = [u, 2] ∨ bs = [2, 2, 2]
theorem box_of {u : Nat} {bs : List Nat} (hu : u = 3 ∨ u = 4) (h : BxU u bs) : BoxOk 4 bs ∧ pr bs ≤ 8 := by
  have key : ∀ n ∈ bs, n ≤ 4 := by
    rcases h with rfl | rfl | rfl
    · intro n hn; rw [List.mem_singleton.mp hn]; omega
    · intro n hn
      simp only [List.mem_cons, List.not_mem_nil, or_false] at hn
      omega
    · decide
  have hl : bs.length ≤ 3 := by rcases h with rfl | rfl | rfl <;> simp
  refine ⟨boxOk (by decide) (by decide) hl key, ?_⟩
  rcases hu with rfl | rfl <;> rcases h with rfl | rfl | rfl <;> decide
theorem bx_one {u : Nat} {bs cs : List Nat} (h : BxU u bs) (k : BxU u cs) (e : bs.length = cs.length) : bs = cs := by
  rcases h with rfl | rfl | rfl <;> rcases k with rfl | rfl | rfl <;> first | rfl | (simp at e)
end OT

set_option Elab.async false
set_option linter.all false
set_option maxRecDepth 100000
set_option maxHeartbeats 4000000
namespace OT
open PySem PySem.Spec PyProof.Rows L2
def zs15 : List Int := [3, 9, 2, 8, 10, 2, 2]
/-- two rows of the law -/
structure Two15 (H : Hp) (q1 q2 : Addr) (xs ys : List V) (es fs : List Ent) (n m u U : Nat) (bs : List Nat) : Prop where
  r : RB H q1 xs es n 908 U
  s : RB H q2 ys fs m 908 U
  ze : es.length ≤ 8
  zf : fs.length ≤ 8
  uu : u = 3 ∨ u = 4
  bx : BxU u bs
  bn : bs.length = n
  be : Boxed bs es
  bf : m = n → Boxed bs fs
theorem Two15.mono {H H' : Hp} {q1 q2 : Addr} {xs ys : List V} {es fs : List Ent} {n m u U : Nat} {bs : List Nat} (s : Same H H') (h : Two15 H q1 q2 xs ys es fs n m u U bs) : Two15 H' q1 q2 xs ys es fs n m u U bs := ⟨h.r.mono s, h.s.mono s, h.ze, h.zf, h.uu, h.bx, h.bn, h.be, h.bf⟩
section
variable {P : Program} {w : World} {K : PySem.W.Frag} {mg : Str → Option Value} {base : Heap}
def spTwo (K : PySem.W.Frag) : Sp := fun vs H Q _ => ∃ (a d b : Addr) (ns ds : List Int) (l : Pl) (k : Nat) (d3 : Int), vs = [.ref a, .ref d, .ref b] ∧ SqL K H a (ns.map V.int) ∧ SqL K H d (ds.map V.int) ∧ InR ds zs15 ∧ (ds.map V.int)[0]? = some (.int (k : Int)) ∧ (ds.map V.int)[3]? = some (.int d3) ∧ k < 3 ∧ H b = some (.tup (l.map V.int)) ∧ l.length = k + 1 ∧ (∀ x ∈ l, x.natAbs ≤ 900) ∧
  ∀ p4 q1 q2 xs ys es fs m u U bs H', (d3 ≠ 7 → U = 24) → Two15 H' q1 q2 xs ys es fs (k + 1) m u U bs → 44 * U ≤ 1000000000000000 → H' p4 = some (.lst [.ref q1, .ref q2]) → Same H H' → Q (.ref p4) H'
theorem c__law_two_rows {f : Addr} {fd : FuncData} (D : C8.Def K mg "_law_two_rows" s__law_two_rows f fd) (b : Binds K fd ["_law_script", "_law_draws_here", "_law_by_here"] []) (T : Bi mg) (c__law_cell : C8.Cal P w K mg base 1 "_law_cell" (spCell K) []) (c__law_box : C8.Cal P w K mg base 1 "_law_box" (spBox K) []) (c__law_drawn : C8.Cal P w K mg base 3 "_law_drawn" (spDrawn K) [])
    (c__law_scaled : C8.Cal P w K mg base 2 "_law_scaled" spScaled []) (c__law_by_unit : C8.Cal P w K mg base 3 "_law_by_unit" (spBU K) []) (c__law_mirror : C8.Cal P w K mg base 2 "_law_mirror" spMir []) : C8.Cal P w K mg base 4 "_law_two_rows" (spTwo K) [] := by
  refine C8.cal0 D b .nil sc__law_two_rows (fun vs H Q E h => ?_) (fun cdv A outer s H vs Q E hr h => ?_)
  · obtain ⟨a, d, b, ns, ds, l, k, d3, rfl, _⟩ := h
    rfl
  · obtain ⟨a, d, b, ns, ds, l, k, d3, rfl, hA, hD, hin, g0, g3, hk3, hb, hl, hlc, q⟩ := h
    refine ⟨_, (pss_cons (ps_set (i := 3) sc__law_two_rows.nd rfl (Or.inl rfl) (pe_ix ix_list (pv 1) pe_int (fun _ _ => rfl)))
  (pss_cons (ps_set (i := 4) sc__law_two_rows.nd rfl (Or.inl rfl) (pe_ix ix_list (pv 1) pe_int (fun _ _ => rfl)))
  (pss_cons (ps_set (i := 5) sc__law_two_rows.nd rfl (Or.inl rfl) (C8.pe_c c__law_drawn hr (by decide) (by rfl) (pa_cons (C8.pe_c c__law_cell hr (by decide) (by rfl) (pa_cons (pv 0) (pa_cons pe_int pa_nil))) (pa_cons (C8.pe_c c__law_box hr (by decide) (by rfl) (pa_cons (pv 3) (pa_cons (pe_op op_add pe_int (pe_ix ix_list (pv 1) pe_int (fun _ _ => rfl))) pa_nil))) (pa_cons pe_int (pa_cons pe_int pa_nil))))))
  (C8.pss_cut (ps_if (pt_cmpR op_eq (pe_ix ix_list (pv 1) pe_int (fun _ _ => rfl)) pe_int (nomark _)) (pss_one (ps_set (i := 5) sc__law_two_rows.nd rfl (Or.inl rfl) (C8.pe_c c__law_scaled hr (by decide) (by rfl) (pa_cons (pv 5) (pa_cons (pe_op op_sub (pe_op op_mul pe_int (pe_op op_pow pe_int pe_int)) (pe_ix ix_list (pv 1) pe_int (fun _ _ => rfl))) pa_nil))))) pss_nil)
  (C8.pss_cut (ps_if (pt_cmpR op_eq (pv 4) pe_int (nomark _)) (pss_one (ps_set (i := 3) sc__law_two_rows.nd rfl (Or.inl rfl) (pe_op op_mod (pe_callTy call_int1 (by rfl) T.n_int OT.b_int (pa_cons (pe_op op_add (pe_op op_add (pv 3) pe_int) (pe_ix ix_list (pv 1) pe_int (fun _ _ => rfl))) pa_nil)) pe_int))) pss_nil)
  (pss_cons (ps_set (i := 6) sc__law_two_rows.nd rfl (Or.inl rfl) (C8.pe_c c__law_drawn hr (by decide) (by rfl) (pa_cons (C8.pe_c c__law_cell hr (by decide) (by rfl) (pa_cons (pv 0) (pa_cons pe_int pa_nil))) (pa_cons (C8.pe_c c__law_box hr (by decide) (by rfl) (pa_cons (pv 3) (pa_cons (pe_op op_add pe_int (pe_ix ix_list (pv 1) pe_int (fun _ _ => rfl))) pa_nil))) (pa_cons pe_int (pa_cons pe_int pa_nil))))))
  (C8.pss_cut (ps_if (pt_cmpR op_eq (pv 4) pe_int (nomark _)) (pss_one (ps_set (i := 6) sc__law_two_rows.nd rfl (Or.inl rfl) (pe_callTy call_list_of (by rfl) T.n_list OT.b_list (pa_cons (pv 5) pa_nil)))) pss_nil)
  (C8.pss_cut (ps_if (pt_cmpR op_eq (pv 4) pe_int (nomark _)) (pss_one (ps_set (i := 6) sc__law_two_rows.nd rfl (Or.inl rfl) (C8.pe_c c__law_by_unit hr (by decide) (by rfl) (pa_cons (pv 5) (pa_cons (pe_op op_sub pe_int (pe_op op_mul pe_int (pe_ix ix_list (pv 1) pe_int (fun _ _ => rfl)))) (pa_cons (pv 2) pa_nil)))))) pss_nil)
  (C8.pss_cut (ps_if (pt_cmpR op_eq (pv 4) pe_int (nomark _)) (pss_one (ps_set (i := 6) sc__law_two_rows.nd rfl (Or.inl rfl) (C8.pe_c c__law_mirror hr (by decide) (by rfl) (pa_cons (pv 5) pa_nil)))) pss_nil)
  (C8.pss_cut (ps_if (pt_cmpR op_eq (pv 4) pe_int (nomark _)) (pss_one (ps_set (i := 6) sc__law_two_rows.nd rfl (Or.inl rfl) (C8.pe_c c__law_scaled hr (by decide) (by rfl) (pa_cons (pv 5) (pa_cons (pe_un un_neg pe_int) pa_nil))))) pss_nil)
  (C8.pss_cut (ps_if (pt_cmpR op_eq (pv 4) pe_int (nomark _)) (pss_one (ps_set (i := 6) sc__law_two_rows.nd rfl (Or.inl rfl) (pe_lst pa_nil))) pss_nil)
  (C8.pss_cut (ps_if (pt_cmpR op_eq (pv 4) pe_int (nomark _)) (pss_one (ps_set (i := 5) sc__law_two_rows.nd rfl (Or.inl rfl) (pe_lst pa_nil))) pss_nil)
  (pss_one (ps_ret (pe_lst (pa_cons (pv 5) (pa_cons (pv 6) pa_nil))))))))))))))))), ?_⟩
    obtain ⟨m, g1, g1a, g1b⟩ := hin.get (i := 1) (z := 9) rfl
    obtain ⟨d2, g2, g2a, g2b⟩ := hin.get (i := 2) (z := 2) rfl
    obtain ⟨d4, g4, g4a, g4b⟩ := hin.get (i := 4) (z := 10) rfl
    obtain ⟨d5, g5, g5a, g5b⟩ := hin.get (i := 5) (z := 2) rfl
    obtain ⟨d6, g6, g6a, g6b⟩ := hin.get (i := 6) (z := 2) rfl
    obtain ⟨m6, rfl⟩ := Int.eq_ofNat_of_zero_le g6a
    obtain ⟨u, hu⟩ : ∃ u : Nat, u = 3 + m6 := ⟨_, rfl⟩
    have hu34 : u = 3 ∨ u = 4 := by omega
    have e6 : (3 : Int) + (m6 : Int) = (u : Int) := by omega
    have p11 : (3 : Int) * (10 : Int) ^ (11 : Int).toNat = 300000000000 := by decide
    have hf64 : -(2 ^ 64) < (300000000000 : Int) - d4 ∧ (300000000000 : Int) - d4 < 2 ^ 64 := by
      have e1 : (2 : Int) ^ 64 = 18446744073709551616 := by decide
      omega
    refine ⟨_, rfl, d, _, 0, _, rfl, rfl, hD, atI_nat (j := 0) g0, ?_⟩
    refine ⟨_, rfl, d, _, 1, _, rfl, rfl, hD, atI_nat (j := 1) g1, ?_⟩
    refine ⟨_, rfl, a, ns, 1, rfl, hA, by decide, fun cc => ?_⟩
    refine ⟨_, rfl, _, rfl, d, _, 6, _, rfl, rfl, hD, atI_nat (j := 6) g6, _, _, rfl, rfl, k, u, congrArg (fun z => [V.int (k : Int), V.int z]) e6, hk3, fun p1 bs H1 hbs hbl sm1 hp1 => ?_⟩
    obtain ⟨hbx, hbp⟩ := box_of hu34 hbs
    refine ⟨cc, p1, bs, 3, 4, 4, rfl, .inl (.inl hp1), hbx, by decide, by omega, by omega, by decide, by decide, fun p2 xs es H2 sm2 np2 hp2 hE2 hd2 hbox => ?_⟩
    have G2 : RB H2 p2 xs es (k + 1) 8 24 := by
      rw [← hbl]
      exact RB.drawn hd2 hp2 hE2 (by omega) (by omega) hbp (by decide) (by omega)
    have z2 : es.length ≤ 8 := Nat.le_trans hd2.m hbp
    have sA := sm1.trans sm2
    clear hd2 hp2 hE2 np2 hp1 sm1 sm2
    -- the first row, perhaps with great numbers
    refine ⟨fun σ H3 => ∃ (p : Addr) (xs : List V) (es : List Ent) (U : Nat), σ = [some (.ref a), some (.ref d), some (.ref b), some (.int (k : Int)), some (.int m), some (.ref p), none] ∧ Same H H3 ∧ RB H3 p xs es (k + 1) 8 U ∧ (d3 ≠ 7 → U = 24) ∧ U ≤ 7200000000000 ∧ 24 ≤ U ∧ es.length ≤ 8 ∧ Boxed bs es, ?_, ?_⟩
    · refine ⟨_, rfl, d, _, 3, _, rfl, rfl, sA.seq hD, atI_nat (j := 3) g3, rfl, _, rfl, iteD (fun c7 => ?_) (fun _ => ?_)⟩
      · refine ⟨_, rfl, 10, 11, rfl, rfl, ⟨by decide, by decide⟩, 3, _, rfl, rfl, .inl ⟨by decide, by decide⟩, _, rfl, d, _, 4, _, rfl, rfl, sA.seq hD, atI_nat (j := 4) g4, _, _, rfl, rfl, ?_⟩
        refine ⟨p2, xs, es, (300000000000 : Int) - d4, (by show [V.ref p2, V.int ((3 : Int) * (10 : Int) ^ (11 : Int).toNat - d4)] = _; rw [p11]), G2.lst, hf64, fun r p5 ws H5 hr5 sm5 np5 hp5 hE5 => ?_⟩
        obtain ⟨G5, l5, b5⟩ := G2.scale (F := 300000000000) hr5 hp5 hE5 (by omega) (by decide)
        exact ⟨p5, ws, r, _, rfl, sA.trans sm5, G5, fun h => absurd (V.int.inj c7) h, by decide, by decide, by omega, b5 bs hbox⟩
      · exact ⟨p2, xs, es, 24, rfl, sA, G2, fun _ => rfl, by decide, by decide, z2, hbox⟩
    clear G2 z2 sA hbox xs es p2
    rintro σ H3 ⟨p2, xs, es, U, rfl, sA, G2, hU, hUb, hU24, z2, hbox⟩
    -- the second row's kind
    refine ⟨fun σ H4 => ∃ k2 : Nat, σ = [some (.ref a), some (.ref d), some (.ref b), some (.int (k2 : Int)), some (.int m), some (.ref p2), none] ∧ k2 < 3 ∧ H4 = H3, ?_, ?_⟩
    · refine eqT rfl (fun c => iteT ?_) (fun _ => iteF ?_)
      · refine ⟨_, rfl, _, _, rfl, rfl, _, rfl, d, _, 5, _, rfl, rfl, sA.seq hD, atI_nat (j := 5) g5, _, _, rfl, rfl, .inl ⟨_, rfl, _, _, rfl, rfl, (by show (0 : Int) < 3; decide), ?_⟩⟩
        obtain ⟨j, hj, hjl⟩ := mod_nat (n := 3) (by decide) ((k : Int) + 1 + d5)
        refine ⟨j, ?_, hjl, rfl⟩
        show [_, _, _, some (V.int (((k : Int) + 1 + d5) % ((3 : Nat) : Int))), _, _, _] = _
        rw [hj]
      · exact ⟨k, rfl, hk3, rfl⟩
    rintro σ H4 ⟨k2, rfl, hk2, rfl⟩
    refine ⟨_, rfl, a, ns, 2, rfl, sA.seq hA, by decide, fun cc2 => ?_⟩
    refine ⟨_, rfl, _, rfl, d, _, 6, _, rfl, rfl, sA.seq hD, atI_nat (j := 6) g6, _, _, rfl, rfl, k2, u, congrArg (fun z => [V.int (k2 : Int), V.int z]) e6, hk2, fun p5 cs H5 hcs hcl sm5 hp5 => ?_⟩
    obtain ⟨hcx, hcp⟩ := box_of hu34 hcs
    refine ⟨cc2, p5, cs, 3, 4, 4, rfl, .inl (.inl hp5), hcx, by decide, by omega, by omega, by decide, by decide, fun p3 ys fs H6 sm6 np3 hp3 hE3 hd3 hbox2 => ?_⟩
    have F6 : RB H6 p3 ys fs (k2 + 1) 8 24 := by
      rw [← hcl]
      exact RB.drawn hd3 hp3 hE3 (by omega) (by omega) hcp (by decide) (by omega)
    have zf : fs.length ≤ 8 := Nat.le_trans hd3.m hcp
    have G6 := G2.mono (sm5.trans sm6)
    have sB := (sA.trans sm5).trans sm6
    have hbf : k2 + 1 = k + 1 → Boxed bs fs := fun h => by
      have : bs = cs := bx_one hbs hcs (by omega)
      rw [this]
      exact hbox2
    clear hd3 hp3 hE3 np3 hp5 sm5 sm6 G2 sA hbox2
    let St : L2.St → Hp → Prop := fun σ H5 => ∃ (p q : Addr) (xs ys : List V) (es fs : List Ent) (n : Nat), σ = [some (.ref a), some (.ref d), some (.ref b), some (.int (k2 : Int)), some (.int m), some (.ref p), some (.ref q)] ∧ Same H H5 ∧ RB H5 p xs es (k + 1) 8 U ∧ RB H5 q ys fs n 908 U ∧ es.length ≤ 8 ∧ fs.length ≤ 8 ∧ Boxed bs es ∧ (n = k + 1 → Boxed bs fs)
    have h0 : St [some (.ref a), some (.ref d), some (.ref b), some (.int (k2 : Int)), some (.int m), some (.ref p2), some (.ref p3)] H6 := ⟨p2, p3, xs, ys, es, fs, k2 + 1, rfl, sB, G6, F6.le (by decide) (by decide) hU24 (by omega), z2, zf, hbox, hbf⟩
    clear G6 F6 z2 zf hbox hbf sB
    have U15 : U ≤ 1000000000000000 := by omega
    show C8.tCut _ _ _ _ _
    refine ⟨St, ?_, ?_⟩
    · obtain ⟨p, q0, xs, ys, es, fs, n, e, sB, G, F, z1, z2, b1, b2⟩ := h0
      have e5 : p2 = p := V.ref.inj (Option.some.inj (Option.some.inj (congrArg (fun l => l[5]?) e)))
      have e6 : p3 = q0 := V.ref.inj (Option.some.inj (Option.some.inj (congrArg (fun l => l[6]?) e)))
      subst e5 e6
      refine eqT rfl (fun c => iteT ?_) (fun _ => iteF ?_)
      · refine ⟨_, rfl, p2, _, rfl, .inl (.inl (.inl G.l)), fun p6 np6 => ?_⟩
        have s6 : Same H6 (upd H6 p6 (.lst xs)) := same_upd np6
        have G6 := G.mono s6
        exact ⟨p2, p6, xs, xs, es, es, k + 1, rfl, sB.trans s6, G6, (G6.copy upd_same).le (by decide) (by decide) (Nat.le_refl _) U15, z1, z1, b1, fun _ => b1⟩
      · exact ⟨p2, p3, xs, ys, es, fs, n, rfl, sB, G, F, z1, z2, b1, b2⟩
    clear h0
    rintro σ H7 ⟨p, q0, xs, ys, es, fs, n, rfl, sB, G, F, z1, z2, b1, b2⟩
    have hsg : (1 : Int) - 2 * d2 = 1 ∨ (1 : Int) - 2 * d2 = -1 := by omega
    refine ⟨St, ?_, ?_⟩
    · refine eqT rfl (fun c => iteT ?_) (fun _ => iteF ?_)
      · refine ⟨_, rfl, _, rfl, d, _, 2, _, rfl, rfl, sB.seq hD, atI_nat (j := 2) g2, 2, _, rfl, rfl, .inl ⟨by decide, by decide⟩, 1, _, rfl, rfl, _, rfl, p, b, xs, es, 1 - 2 * d2, l, rfl, G.lst, hsg, sB _ _ hb, fun e he => by rw [G.d e he, hl], by omega, fun r6 p6 ws6 H8 hr6 sm6 np6 hp6 hE6 => ?_⟩
        obtain ⟨F6, l6, b6⟩ := G.unit hsg hl hlc (by decide) hr6 hp6 hE6
        exact ⟨p, p6, xs, ws6, es, r6, k + 1, rfl, sB.trans sm6, G.mono sm6, F6, z1, by omega, b1, fun _ => b6 bs hbl b1⟩
      · exact ⟨p, q0, xs, ys, es, fs, n, rfl, sB, G, F, z1, z2, b1, b2⟩
    clear G F sB z1 z2 b1 b2
    rintro σ H7 ⟨p, q0, xs, ys, es, fs, n, rfl, sB, G, F, z1, z2, b1, b2⟩
    refine ⟨St, ?_, ?_⟩
    · refine eqT rfl (fun c => iteT ?_) (fun _ => iteF ?_)
      · refine ⟨_, rfl, p, xs, es, rfl, G.lst, fun e he => by rw [G.d e he]; omega, fun r6 p6 ws6 H8 hr6 sm6 np6 hp6 hE6 => ?_⟩
        obtain ⟨F6, l6, b6⟩ := G.mir hr6 hp6 hE6
        exact ⟨p, p6, xs, ws6, es, r6, k + 1, rfl, sB.trans sm6, G.mono sm6, F6.le (by decide) (by decide) (Nat.le_refl _) U15, z1, by omega, b1, fun _ => b6 bs hbl b1⟩
      · exact ⟨p, q0, xs, ys, es, fs, n, rfl, sB, G, F, z1, z2, b1, b2⟩
    clear G F sB z1 z2 b1 b2
    rintro σ H7 ⟨p, q0, xs, ys, es, fs, n, rfl, sB, G, F, z1, z2, b1, b2⟩
    refine ⟨St, ?_, ?_⟩
    · refine eqT rfl (fun c => iteT ?_) (fun _ => iteF ?_)
      · refine ⟨_, rfl, 1, rfl, p, xs, es, -1, rfl, G.lst, by decide, fun r6 p6 ws6 H8 hr6 sm6 np6 hp6 hE6 => ?_⟩
        obtain ⟨F6, l6, b6⟩ := G.scale (F := 1) hr6 hp6 hE6 (by decide) (by omega)
        exact ⟨p, p6, xs, ws6, es, r6, k + 1, rfl, sB.trans sm6, G.mono sm6, F6.le (by decide) (by decide) (by omega) U15, z1, by omega, b1, fun _ => b6 bs b1⟩
      · exact ⟨p, q0, xs, ys, es, fs, n, rfl, sB, G, F, z1, z2, b1, b2⟩
    clear G F sB z1 z2 b1 b2
    rintro σ H7 ⟨p, q0, xs, ys, es, fs, n, rfl, sB, G, F, z1, z2, b1, b2⟩
    refine ⟨St, ?_, ?_⟩
    · refine eqT rfl (fun c => iteT ?_) (fun _ => iteF ?_)
      · refine ⟨by decide, fun p6 np6 => ?_⟩
        have s6 : Same H7 (upd H7 p6 (.lst [])) := same_upd np6
        exact ⟨p, p6, xs, [], es, [], n, rfl, sB.trans s6, G.mono s6, RB.nil upd_same F.n1 F.n3 (by decide) U15, z1, by decide, b1, fun _ => Boxed.nil bs⟩
      · exact ⟨p, q0, xs, ys, es, fs, n, rfl, sB, G, F, z1, z2, b1, b2⟩
    clear G F sB z1 z2 b1 b2
    rintro σ H7 ⟨p, q0, xs, ys, es, fs, n, rfl, sB, G, F, z1, z2, b1, b2⟩
    refine ⟨St, ?_, ?_⟩
    · refine eqT rfl (fun c => iteT ?_) (fun _ => iteF ?_)
      · refine ⟨by decide, fun p6 np6 => ?_⟩
        have s6 : Same H7 (upd H7 p6 (.lst [])) := same_upd np6
        exact ⟨p6, q0, [], ys, [], fs, n, rfl, sB.trans s6, RB.nil upd_same G.n1 G.n3 (by decide) U15, F.mono s6, by decide, z2, Boxed.nil bs, b2⟩
      · exact ⟨p, q0, xs, ys, es, fs, n, rfl, sB, G, F, z1, z2, b1, b2⟩
    clear G F sB z1 z2 b1 b2
    rintro σ H7 ⟨p, q0, xs, ys, es, fs, n, rfl, sB, G, F, z1, z2, b1, b2⟩
    refine ⟨_, rfl, _, rfl, (by show 2 ≤ sizeLine; decide), fun p4 np4 => ?_⟩
    have s8 : Same H7 (upd H7 p4 (.lst [.ref p, .ref q0])) := same_upd np4
    exact q p4 p q0 xs ys es fs n u U bs _ hU ⟨(G.mono s8).le (by decide) (by decide) (Nat.le_refl _) U15, F.mono s8, z1, z2, hu34, hbs, hbl, b1, b2⟩ (by omega) upd_same (sB.trans s8)
end
end OT

set_option Elab.async false
set_option linter.all false
set_option maxRecDepth 100000
set_option maxHeartbeats 4000000
namespace OT
open PySem PySem.Spec PyProof.Rows L2
def sqE (es : List Ent) : Int := (es.map fun e => e.2 * e.2).sum
theorem zip_zero : ∀ {k l : Pl} {n : Nat}, k.length = n → l.length = n → (plusP k (negP l) = zeros n ↔ l = k)
  | [], [], 0, _, _ => ⟨fun _ => rfl, fun _ => rfl⟩
  | x :: k, y :: l, n + 1, h1, h2 => by
    have ih := zip_zero (Nat.succ.inj h1) (Nat.succ.inj h2)
    show (x + -y) :: plusP k (negP l) = 0 :: zeros n ↔ y :: l = x :: k
    rw [List.cons.injEq, List.cons.injEq, ih]
    constructor
    · rintro ⟨a, b⟩
      exact ⟨by omega, b⟩
    · rintro ⟨a, b⟩
      exact ⟨by omega, b⟩
theorem cross_mid {es fs : List Ent} {n : Nat} (he : ∀ e ∈ es, e.1.length = n) (hf : ∀ e ∈ fs, e.1.length = n) : numAt (crossL es fs) (zeros n) = sumW (fun k => numAt fs k) es := by
  unfold crossL
  rw [numAt_sumW, timesL_prod, sumW_prodL]
  refine sumW_congr fun e hm => ?_
  rw [mirL_map, sumW_mapF, numAt_sumW]
  refine sumW_congr fun g hg => ?_
  unfold at1
  have h := zip_zero (he e hm) (hf g hg)
  by_cases c : g.1 = e.1
  · rw [if_pos (h.mpr c), if_pos c]
  · rw [if_neg fun z => c (h.mp z), if_neg c]
theorem sumW_at {es : List Ent} (hv : Valid es) : ∀ {l : List Ent}, (∀ e ∈ l, e ∈ es) → sumW (fun k => numAt es k) l = sqE l
  | [], _ => rfl
  | e :: r, h => by
    have ih := sumW_at hv (l := r) fun x hx => h x (List.mem_cons_of_mem _ hx)
    show e.2 * numAt es e.1 + sumW _ r = e.2 * e.2 + sqE r
    rw [ih, hv.at e (h e List.mem_cons_self)]
theorem own_mid {es t : List Ent} {n : Nat} (hv : Valid es) (he : ∀ e ∈ es, e.1.length = n) (ht : RowIs t (crossL es es)) : numAt t (zeros n) = sqE es := by
  rw [ht.s, cross_mid he he]
  exact sumW_at hv fun _ h => h
theorem sumW_const (c : Int) : ∀ es : List Ent, sumW (fun _ => c) es = totE es * c
  | [] => by show (0 : Int) = 0 * c; rw [Int.zero_mul]
  | e :: r => by
    have ih := sumW_const c r
    show e.2 * c + sumW _ r = (e.2 + totE r) * c
    rw [ih, Int.add_mul]
theorem totE_le {U : Nat} : ∀ {es : List Ent}, NB U es → (totE es).natAbs ≤ es.length * U
  | [], _ => Nat.zero_le _
  | e :: r, h => by
    have ih := totE_le (es := r) fun x hx => h x (List.mem_cons_of_mem _ hx)
    have he := h e List.mem_cons_self
    show (e.2 + totE r).natAbs ≤ (r.length + 1) * U
    rw [Nat.succ_mul]
    omega
theorem totE_mir (es : List Ent) : totE (mirL es) = totE es := by
  rw [totE_sumW, totE_sumW, mirL_map, sumW_mapF]
theorem own_tot {es t : List Ent} (ht : RowIs t (crossL es es)) : totE t = totE es * totE es := by
  rw [totE_is ht]
  unfold crossL
  rw [totE_sumW, timesL_prod, sumW_prodL]
  rw [show (fun k : Pl => sumW (fun l : Pl => (1 : Int)) (mirL es)) = fun _ => totE es from by
    funext k
    rw [← totE_sumW, totE_mir]]
  exact sumW_const _ _
/-- a row times a unit has the same table -/
theorem unit_pl : ∀ {k l b : Pl}, k.length = b.length → l.length = b.length → plusP (plusP k b) (negP (plusP l b)) = plusP k (negP l)
  | [], [], [], _, _ => rfl
  | [], _ :: _, b, h1, h2 => by
    rw [← h1] at h2
    cases h2
  | _ :: _, [], b, h1, h2 => by
    rw [← h2] at h1
    cases h1
  | x :: k, y :: l, z :: b, h1, h2 => by
    show (x + z + -(y + z)) :: plusP (plusP k b) (negP (plusP l b)) = (x + -y) :: plusP k (negP l)
    rw [unit_pl (Nat.succ.inj h1) (Nat.succ.inj h2)]
    congr 1
    omega
theorem unit_row {b : Pl} {s : Int} (hs : s * s = 1) (e : Ent) (he : e.1.length = b.length) : ∀ {fs : List Ent}, (∀ g ∈ fs, g.1.length = b.length) → rowT (plusP e.1 b, e.2 * s) (mirL (scaleL (movL fs b) s)) = rowT e (mirL fs)
  | [], _ => rfl
  | g :: r, h => by
    have ih := unit_row hs e he (fs := r) fun x hx => h x (List.mem_cons_of_mem _ hx)
    show (plusP (plusP e.1 b) (negP (plusP g.1 b)), e.2 * s * (g.2 * s)) :: rowT _ (mirL (scaleL (movL r b) s)) = (plusP e.1 (negP g.1), e.2 * g.2) :: rowT e (mirL r)
    rw [ih, unit_pl he (h g List.mem_cons_self)]
    congr 2
    rw [Int.mul_assoc, Int.mul_left_comm s g.2 s, hs, Int.mul_one]
theorem unit_cross {b : Pl} {s : Int} (hs : s * s = 1) (fs : List Ent) (hf : ∀ g ∈ fs, g.1.length = b.length) : ∀ {es : List Ent}, (∀ e ∈ es, e.1.length = b.length) → crossL (scaleL (movL es b) s) (scaleL (movL fs b) s) = crossL es fs
  | [], _ => rfl
  | e :: r, h => by
    have ih := unit_cross hs fs hf (es := r) fun x hx => h x (List.mem_cons_of_mem _ hx)
    show rowT (plusP e.1 b, e.2 * s) (mirL (scaleL (movL fs b) s)) ++ crossL (scaleL (movL r b) s) (scaleL (movL fs b) s) = rowT e (mirL fs) ++ crossL r fs
    rw [ih, unit_row hs e (h e List.mem_cons_self) hf]
theorem sign_row {s : Int} (hs : s * s = 1) (e : Ent) : ∀ fs : List Ent, rowT (e.1, e.2 * s) (mirL (scaleL fs s)) = rowT e (mirL fs)
  | [] => rfl
  | g :: r => by
    have ih := sign_row hs e r
    show (plusP e.1 (negP g.1), e.2 * s * (g.2 * s)) :: rowT _ (mirL (scaleL r s)) = (plusP e.1 (negP g.1), e.2 * g.2) :: rowT e (mirL r)
    rw [ih]
    congr 2
    rw [Int.mul_assoc, Int.mul_left_comm s g.2 s, hs, Int.mul_one]
theorem sign_cross {s : Int} (hs : s * s = 1) (fs : List Ent) : ∀ es : List Ent, crossL (scaleL es s) (scaleL fs s) = crossL es fs
  | [] => rfl
  | e :: r => by
    have ih := sign_cross hs fs r
    show rowT (e.1, e.2 * s) (mirL (scaleL fs s)) ++ crossL (scaleL r s) (scaleL fs s) = rowT e (mirL fs) ++ crossL r fs
    rw [ih, sign_row hs e fs]
theorem crossL_d {es fs : List Ent} {n : Nat} (h : ∀ e ∈ es, e.1.length = n) (k : ∀ e ∈ fs, e.1.length = n) : ∀ e ∈ crossL es fs, e.1.length = n := fun e he => by
  obtain ⟨x, hx, y, hy, rfl⟩ := timesL_mem he
  obtain ⟨z, hz, rfl⟩ := List.mem_map.mp hy
  show (plusP x.1 (negP z.1)).length = n
  rw [plusP_len (by rw [negP_len, h x hx, k z hz]; exact Nat.le_refl _), h x hx]
theorem row_rn {g es : List Ent} {n : Nat} (hg : RowIs g es) (hd : ∀ e ∈ es, e.1.length = n) (n1 : 1 ≤ n) (n3 : n ≤ 3) : RowN n g := ⟨hg.v, n1, n3, fun e he => by
  obtain ⟨x, hx, ex⟩ := hg.mem he
  rw [← ex]
  exact hd x hx⟩
section
variable {P : Program} {w : World} {K : PySem.W.Frag} {mg : Str → Option Value} {base : Heap}
def spLookQ (K : PySem.W.Frag) : Sp := fun vs H Q E => ∃ (a b : Addr) (xs ys : List V) (es fs : List Ent) (n m C U : Nat), vs = [.ref a, .ref b] ∧ RB H a xs es n C U ∧ RB H b ys fs m C U ∧ es.length + fs.length ≤ 44 ∧ 44 * U ≤ 1000000000000000 ∧ mixB es fs = false ∧ ∀ g, RowIs g (es ++ fs) → wantRow H (crossL g g) Q
theorem lookQ {M : Addr} : ∀ vs H Q E, spLookQ K vs H Q E → spLookP K M vs H Q E0 := fun vs H Q E ⟨a, b, xs, ys, es, fs, n, m, C, U, e, R, S, z, hU, hm, q⟩ => by
  refine ⟨a, b, xs, ys, es, fs, n, m, C, U, e, R, S, z, hU, fun h => ?_, fun _ => q⟩
  rw [hm] at h
  cases h
def spSingle : Sp := fun vs H Q _ => ∃ (a b : Addr) (s : Int) (xs : List V) (es : List Ent) (n U : Nat) (l : Pl), vs = [.ref a, .int s, .ref b] ∧ RB H a xs es n 908 U ∧ es.length ≤ 8 ∧ 44 * U ≤ 1000000000000000 ∧ (s = 1 ∨ s = -1) ∧ H b = some (.tup (l.map V.int)) ∧ 1 ≤ l.length ∧ l.length ≤ 3 ∧ (∀ x ∈ l, x.natAbs ≤ 900) ∧ ∀ H', Same H H' → Q (.bl true) H'
theorem c__law_single_asked {f : Addr} {fd : FuncData} (D : C8.Def K mg "_law_single_asked" s__law_single_asked f fd) (b : Binds K fd ["_law_row_here", "_law_sign", "_law_by_here"] []) (T : Bi mg)
    (c__law_sums : C8.Cal P w K mg base 2 "_law_sums" (spSumsL K) []) (c__law_at : C8.Cal P w K mg base 1 "_law_at" (spAt K) []) (c__law_zero : C8.Cal P w K mg base 1 "_law_zero" spZero []) (c__law_kept : C8.Cal P w K mg base 5 "_law_kept" (spKeptE K) []) (c_own_table : C8.Cal P w K mg base 7 "own_table" (spOw K) [])
    (c__law_mirror : C8.Cal P w K mg base 2 "_law_mirror" spMir []) (c__law_number : C8.Cal P w K mg base 2 "_law_number" spNumb []) (c_middle : C8.Cal P w K mg base 1 "middle" (spMid K) []) (c_total : C8.Cal P w K mg base 1 "total" (spTot K) []) (c__law_scaled : C8.Cal P w K mg base 2 "_law_scaled" spScaled [])
    (c__law_by_unit : C8.Cal P w K mg base 3 "_law_by_unit" (spBU K) []) (c__law_back : C8.Cal P w K mg base 1 "_law_back" (spBack K) []) (c__law_same : C8.Cal P w K mg base 4 "_law_same" (spSame K) []) (c_look : C8.Cal P w K mg base 8 "look" (spLookQ K) []) : C8.Cal P w K mg base 9 "_law_single_asked" spSingle [] := by
  refine C8.cal0 D b .nil sc__law_single_asked (fun vs H Q E h => ?_) (fun cdv A outer s H vs Q E hr h => ?_)
  · obtain ⟨a, b, s, xs, es, n, U, l, rfl, _⟩ := h
    rfl
  · obtain ⟨a, b, sg, xs, es, n, U, l, rfl, R, z8, hU, hsg, hb, l1, l3, hlc, q⟩ := h
    refine ⟨_, (pss_cons (ps_set (i := 3) sc__law_single_asked.nd rfl (Or.inl rfl) (pe_lst (pa_cons (pv 0) pa_nil)))
  (pss_cons (ps_set (i := 4) sc__law_single_asked.nd rfl (Or.inl rfl) (pe_lst (pa_cons (pe_callTy call_list_of (by rfl) T.n_list OT.b_list (pa_cons (pv 0) pa_nil)) pa_nil)))
  (pss_cons (ps_set (i := 5) sc__law_single_asked.nd rfl (Or.inl rfl) (C8.pe_c c__law_sums hr (by decide) (by rfl) (pa_cons (pv 0) (pa_cons (pv 0) pa_nil))))
  (pss_cons (ps_set (i := 6) sc__law_single_asked.nd rfl (Or.inl rfl) (pe_callB (cr_sum rfl) (by rfl) T.n_sum OT.b_sum (pa_cons (pe_lc (own := [("_law_entry", 10)]) (g := (gName 10)) (tt := tYes) rfl sc__law_single_asked.nd (pi_list (pv 0)) (blkOk_by (N := ["_law_row_here", "_law_sign", "_law_by_here", "_law_rows", "_law_handed", "_law_table", "_law_squares", "_law_numbers", "_law_centre", "_law_other", "_law_entry"]) (sc := C8.fnScope s__law_single_asked) (by decide +kernel)) (fun _ _ _ _ _ => (pg_name (i := 10) sc__law_single_asked.nd rfl (Or.inl rfl))) (fun _ _ _ _ _ => pts_nil) (fun _ _ _ _ _ => (pe_op op_mul (pe_ix (show IxR _ (rIxT K) from ix_tup) (pv 10) pe_int (fun _ _ => rfl)) (pe_ix (show IxR _ (rIxT K) from ix_tup) (pv 10) pe_int (fun _ _ => rfl))))) pa_nil)))
  (pss_cons (ps_set (i := 7) sc__law_single_asked.nd rfl (Or.inl rfl) (pe_callB (cr_sum rfl) (by rfl) T.n_sum OT.b_sum (pa_cons (pe_lc (own := [("_law_entry", 10)]) (g := (gName 10)) (tt := tYes) rfl sc__law_single_asked.nd (pi_list (pv 0)) (blkOk_by (N := ["_law_row_here", "_law_sign", "_law_by_here", "_law_rows", "_law_handed", "_law_table", "_law_squares", "_law_numbers", "_law_centre", "_law_other", "_law_entry"]) (sc := C8.fnScope s__law_single_asked) (by decide +kernel)) (fun _ _ _ _ _ => (pg_name (i := 10) sc__law_single_asked.nd rfl (Or.inl rfl))) (fun _ _ _ _ _ => pts_nil) (fun _ _ _ _ _ => (pe_ix (show IxR _ (rIxT K) from ix_tup) (pv 10) pe_int (fun _ _ => rfl)))) pa_nil)))
  (pss_cons (ps_set (i := 8) sc__law_single_asked.nd rfl (Or.inl rfl) pe_int)
  (C8.pss_cut (ps_if (pt_cmpR op_gt (pe_callB call_len_seq (by rfl) T.n_len OT.b_len (pa_cons (pv 0) pa_nil)) pe_int (nomark _)) (pss_one (ps_set (i := 8) sc__law_single_asked.nd rfl (Or.inl rfl) (C8.pe_c c__law_at hr (by decide) (by rfl) (pa_cons (pv 0) (pa_cons (C8.pe_c c__law_zero hr (by decide) (by rfl) (pa_cons (pe_callB call_len_seq (by rfl) T.n_len OT.b_len (pa_cons (pe_ix ix_tup (pe_ix ix_list (pv 0) pe_int (fun _ _ => rfl)) pe_int (fun _ _ => rfl)) pa_nil)) pa_nil)) pa_nil))))) pss_nil)
  (pss_cons (ps_if (PW.pt (pw_or (pt_not (pt_val (C8.pe_c c__law_kept hr (by decide) (by rfl) (pa_cons (C8.pe_c c_own_table hr (by decide) (by rfl) (pa_cons (pe_ix ix_list (pv 4) pe_int (fun _ _ => rfl)) pa_nil)) (pa_cons (pv 5) (pa_cons (pv 4) (pa_cons (pv 3) pa_nil))))))) (pw_or1 (pt_cmpR (op_neD hr.units) (C8.pe_c c__law_mirror hr (by decide) (by rfl) (pa_cons (pv 5) pa_nil)) (pv 5) (nomark _))))) (pss_one (ps_ret pe_bl)) pss_nil)
  (pss_cons (ps_if (PW.pt (pw_or (pt_not (pt_val (C8.pe_c c__law_number hr (by decide) (by rfl) (pa_cons (C8.pe_c c_middle hr (by decide) (by rfl) (pa_cons (pe_ix ix_list (pv 4) pe_int (fun _ _ => rfl)) pa_nil)) (pa_cons (pv 8) pa_nil))))) (pw_or1 (pt_not (pt_val (C8.pe_c c__law_number hr (by decide) (by rfl) (pa_cons (C8.pe_c c_total hr (by decide) (by rfl) (pa_cons (pe_ix ix_list (pv 4) pe_int (fun _ _ => rfl)) pa_nil)) (pa_cons (pv 7) pa_nil)))))))) (pss_one (ps_ret pe_bl)) pss_nil)
  (pss_cons (ps_if (PW.pt (pw_or (pt_not (pt_val (C8.pe_c c__law_number hr (by decide) (by rfl) (pa_cons (C8.pe_c c_middle hr (by decide) (by rfl) (pa_cons (pe_callTy call_list_of (by rfl) T.n_list OT.b_list (pa_cons (pv 5) pa_nil)) pa_nil)) (pa_cons (pv 6) pa_nil))))) (pw_or1 (pt_not (pt_val (C8.pe_c c__law_number hr (by decide) (by rfl) (pa_cons (C8.pe_c c_total hr (by decide) (by rfl) (pa_cons (pe_callTy call_list_of (by rfl) T.n_list OT.b_list (pa_cons (pv 5) pa_nil)) pa_nil)) (pa_cons (pe_op op_mul (pv 7) (pv 7)) pa_nil)))))))) (pss_one (ps_ret pe_bl)) pss_nil)
  (pss_cons (ps_set (i := 9) sc__law_single_asked.nd rfl (Or.inl rfl) (C8.pe_c c__law_scaled hr (by decide) (by rfl) (pa_cons (pv 0) (pa_cons (pv 1) pa_nil))))
  (C8.pss_cut (ps_if (PW.pt (pw_and (pt_cmpR op_gt (pe_callB call_len_seq (by rfl) T.n_len OT.b_len (pa_cons (pv 0) pa_nil)) pe_int (nomark _)) (pw_and1 (pt_cmpR op_eq (pe_callB call_len_seq (by rfl) T.n_len OT.b_len (pa_cons (pe_ix ix_tup (pe_ix ix_list (pv 0) pe_int (fun _ _ => rfl)) pe_int (fun _ _ => rfl)) pa_nil)) (pe_callB call_len_seq (by rfl) T.n_len OT.b_len (pa_cons (pv 2) pa_nil)) (nomark _))))) (pss_one (ps_set (i := 9) sc__law_single_asked.nd rfl (Or.inl rfl) (C8.pe_c c__law_by_unit hr (by decide) (by rfl) (pa_cons (pv 0) (pa_cons (pv 1) (pa_cons (C8.pe_c c__law_back hr (by decide) (by rfl) (pa_cons (pv 2) pa_nil)) pa_nil)))))) pss_nil)
  (pss_cons (ps_if (PW.pt (pw_or (pt_not (pt_val (C8.pe_c c__law_same hr (by decide) (by rfl) (pa_cons (C8.pe_c c_own_table hr (by decide) (by rfl) (pa_cons (pe_callTy call_list_of (by rfl) T.n_list OT.b_list (pa_cons (pv 9) pa_nil)) pa_nil)) (pa_cons (pv 5) pa_nil))))) (pw_or1 (pt_not (pt_val (C8.pe_c c__law_same hr (by decide) (by rfl) (pa_cons (C8.pe_c c_own_table hr (by decide) (by rfl) (pa_cons (C8.pe_c c__law_mirror hr (by decide) (by rfl) (pa_cons (pv 0) pa_nil)) pa_nil)) (pa_cons (pv 5) pa_nil)))))))) (pss_one (ps_ret pe_bl)) pss_nil)
  (pss_cons (ps_if (pt_not (pt_val (C8.pe_c c__law_kept hr (by decide) (by rfl) (pa_cons (C8.pe_c c_look hr (by decide) (by rfl) (pa_cons (pe_ix ix_list (pv 4) pe_int (fun _ _ => rfl)) (pa_cons (pe_lst pa_nil) pa_nil))) (pa_cons (pv 5) (pa_cons (pv 4) (pa_cons (pv 3) pa_nil))))))) (pss_one (ps_ret pe_bl)) pss_nil)
  (pss_one (ps_ret (C8.pe_c c__law_kept hr (by decide) (by rfl) (pa_cons (C8.pe_c c_look hr (by decide) (by rfl) (pa_cons (pe_lst pa_nil) (pa_cons (pe_ix ix_list (pv 4) pe_int (fun _ _ => rfl)) pa_nil))) (pa_cons (pv 5) (pa_cons (pv 4) (pa_cons (pv 3) pa_nil))))))))))))))))))))), ?_⟩
    have hxl := R.e.len
    have n1 := R.n1
    have n3 := R.n3
    refine ⟨_, rfl, (by show 1 ≤ sizeLine; decide), fun rw0 nrw => ?_⟩
    have s1 : Same H (upd H rw0 (.lst [.ref a])) := same_upd nrw
    have hrw : (upd H rw0 (.lst [.ref a])) rw0 = some (.lst [.ref a]) := upd_same
    generalize upd H rw0 (.lst [.ref a]) = H1 at s1 hrw ⊢
    refine ⟨_, rfl, a, _, rfl, .inl (.inl (.inl (s1 _ _ R.l))), fun la nla => ?_⟩
    have s2 : Same H1 (upd H1 la (.lst xs)) := same_upd nla
    have hla : (upd H1 la (.lst xs)) la = some (.lst xs) := upd_same
    generalize upd H1 la (.lst xs) = H2 at s2 hla ⊢
    refine ⟨(by show 1 ≤ sizeLine; decide), fun hd nhd => ?_⟩
    have s3 : Same H2 (upd H2 hd (.lst [.ref la])) := same_upd nhd
    have hhd : (upd H2 hd (.lst [.ref la])) hd = some (.lst [.ref la]) := upd_same
    generalize upd H2 hd (.lst [.ref la]) = H3 at s3 hhd ⊢
    have s03 := (s1.trans s2).trans s3
    have R3 := R.mono s03
    have LA : RB H3 la xs es n 908 U := R3.copy (s3 _ _ hla)
    have hrw3 := (s2.trans s3) _ _ hrw
    have hDs : DpAll K H3 [.ref la] [dRow es] := .cons (LA.e.dp (.inl (.inl LA.l))) .nil
    have hDr : DpAll K H3 [.ref a] [dRow es] := .cons (R3.e.dp (.inl (.inl R3.l))) .nil
    have hsh : SeqAt.shaped (.list [dRow es]) = true := (DOk.list (n := 4) fun d hd => by
      rw [List.mem_singleton.mp hd]
      exact DOk.row es).shaped (by decide)
    have hHd : Dp K H3 (.ref hd) (.list [dRow es]) := .lst (.inl (.inl hhd)) hDs
    have hRw : Dp K H3 (.ref rw0) (.list [dRow es]) := .lst (.inl (.inl hrw3)) hDr
    have hS : SqL K H3 hd [.ref la] := .inl (.inl hhd)
    have hb3 := s03 _ _ hb
    have num := R.u.num R.uU
    clear s1 s2 s3 hla hhd hrw hrw3 nrw nla nhd hDs hDr
    have zz : es.length * es.length ≤ 64 := Nat.mul_le_mul z8 z8
    have ncl : ∀ e ∈ es, e.1 ≠ [] ∧ e.1.length ≤ 1000 := fun e he => ⟨R.lst.p e he, by rw [R.d e he]; omega⟩
    refine ⟨_, rfl, _, rfl, a, a, xs, xs, es, es, rfl, .inl (.inl R3.l), .inl (.inl R3.l), R3.e, R3.e, by omega, fun e he g hg => by rw [R.d e he, R.d g hg], ncl, num, fun t pt wt H4 ht s4 nt hpt hWt => ?_⟩
    have R4 := R3.mono s4
    have tn := row_rn ht (crossL_d R.d R.d) n1 n3
    have tz : t.length ≤ 64 := by
      have := ht.len
      rw [crossL_len] at this
      omega
    have hS4 : SqL K H4 a xs := .inl (.inl R4.l)
    -- the sum of squares, the sum
    have tk : ∀ (f : Ent → Int) (i : Nat) (e : Ent), es[i]? = some e → (es.take (i + 1)).map f = (es.take i).map f ++ [f e] := fun f i e h => by
      rw [take_snoc h, List.map_append]
      rfl
    refine ⟨_, rfl, a, rfl, ⟨_, hS4⟩, fun p5 np5 => ?_⟩
    refine lc_list (K := K) (xs := xs) (fun i H5 => Same H4 H5 ∧ H5 p5 = some (.lst (((es.take i).map fun e => e.2 * e.2).map V.int))) ?_ ?_ ?_ ?_
    · exact ⟨same_upd np5, upd_same⟩
    · rintro i H5 _ ⟨sm, _⟩
      exact sm.seq hS4
    · rintro i x H5 hxi ⟨sm, hp⟩
      obtain ⟨e, he, t1, pe, rfl, ht1, hpe⟩ := (R4.e.mono sm).get hxi
      have hT : SqT K H5 t1 [.ref pe, .int e.2] := .inl (.inl ht1)
      refine ⟨rfl, tYes_of ?_⟩
      refine ⟨_, rfl, t1, _, 1, _, rfl, rfl, hT, atI_nat (j := 1) rfl, _, rfl, t1, _, 1, _, rfl, rfl, hT, atI_nat (j := 1) rfl, _, _, rfl, rfl, .inl (num e (List.mem_of_getElem? he)), _, hp, ?_, same_mut sm np5, ?_⟩
      · rw [List.length_map, List.length_map, List.length_take]
        exact small1000 (by omega)
      · rw [upd_same, tk _ _ _ he, List.map_append]
        rfl
    rintro H5 ⟨s5, hp5⟩
    rw [hxl, List.take_length] at hp5
    refine ⟨p5, _, rfl, .inl (.inl hp5), ?_⟩
    rw [show ((es.map fun e => e.2 * e.2).sum) = sqE es from rfl]
    have hS5 := s5.seq hS4
    refine ⟨_, rfl, a, rfl, ⟨_, hS5⟩, fun p6 np6 => ?_⟩
    refine lc_list (K := K) (xs := xs) (fun i H6 => Same H5 H6 ∧ H6 p6 = some (.lst (((es.take i).map fun e => e.2).map V.int))) ?_ ?_ ?_ ?_
    · exact ⟨same_upd np6, upd_same⟩
    · rintro i H6 _ ⟨sm, _⟩
      exact sm.seq hS5
    · rintro i x H6 hxi ⟨sm, hp⟩
      obtain ⟨e, he, t1, pe, rfl, ht1, hpe⟩ := (R4.e.mono (s5.trans sm)).get hxi
      have hT : SqT K H6 t1 [.ref pe, .int e.2] := .inl (.inl ht1)
      refine ⟨rfl, tYes_of ?_⟩
      refine ⟨_, rfl, t1, _, 1, _, rfl, rfl, hT, atI_nat (j := 1) rfl, _, hp, ?_, same_mut sm np6, ?_⟩
      · rw [List.length_map, List.length_map, List.length_take]
        exact small1000 (by omega)
      · rw [upd_same, tk _ _ _ he, List.map_append]
        rfl
    rintro H6 ⟨s6, hp6⟩
    rw [hxl, List.take_length] at hp6
    refine ⟨p6, _, rfl, .inl (.inl hp6), ?_⟩
    rw [show ((es.map fun e => e.2).sum) = totE es from rfl]
    have s46 := s5.trans s6
    have s36 := s4.trans s46
    have R6 := R3.mono s36
    have hpt6 := s46 _ _ hpt
    have hWt6 := hWt.mono s46
    clear hS4 hS5 hp5 hp6 np5 np6 s5 s6 s46 R4 hpt hWt
    -- the centre
    refine ⟨fun σ H7 => ∃ y10 : Option V, σ = [some (.ref a), some (.int sg), some (.ref b), some (.ref rw0), some (.ref hd), some (.ref pt), some (.int (sqE es)), some (.int (totE es)), some (.int (numAt es (zeros n))), none, y10] ∧ Same H6 H7, ?_, ?_⟩
    · refine ⟨_, rfl, a, _, rfl, .inl (.inl (.inl R6.l)), _, _, rfl, rfl, _, rfl, iteD (fun c => ?_) (fun c => ?_)⟩
      · have p1 : 0 < es.length := by omega
        obtain ⟨v1, hv1, t1, q1, rfl, ht1, hq1⟩ := R6.e.at (i := 0) p1
        refine ⟨_, rfl, _, rfl, a, _, 0, _, rfl, rfl, .inl (.inl R6.l), atI_nat (j := 0) hv1, t1, _, 0, _, rfl, rfl, .inl (.inl ht1), atI_nat (j := 0) rfl, q1, _, rfl, .inr (.inl (.inl hq1)), ?_⟩
        have hlen : ((es[0]'p1).1.map V.int).length = n := by rw [List.length_map, R.d _ (List.getElem_mem p1)]
        rw [hlen]
        refine ⟨n, rfl, n3, fun pz Hz sz hpz => ?_⟩
        have Rz := R6.mono sz
        exact ⟨a, pz, xs, es, zeros n, rfl, .inl (.inl Rz.l), Rz.e, R.v, hpz, _, rfl, sz⟩
      · have hf : es = [] := List.length_eq_zero_iff.mp (by omega)
        refine ⟨none, ?_, Same.refl _⟩
        rw [hf]
        rfl
    rintro σ H7 ⟨y10, rfl, s7⟩
    have s37 := s36.trans s7
    have R7 := R3.mono s37
    have LA7 := LA.mono s37
    have hpt7 := s7 _ _ hpt6
    have hWt7 := hWt6.mono s7
    have hS7 := s37.seq hS
    refine ⟨_, rfl, hd, _, 0, _, rfl, rfl, hS7, atI_nat (j := 0) rfl, la, xs, es, n, 908, U, rfl, LA7, fun g8 p8 w8 H8 hg8 s8 np8 hp8 hW8 => ?_⟩
    have e8 := hg8.one ht
    subst e8
    refine ⟨_, rfl, _, rfl, _, rfl, H7, p8, pt, hd, rw0, w8, wt, g8, n, _, rfl, s8, np8, hp8, hW8, s8 _ _ hpt7, hWt7.mono s8, tn, by omega, Dp.mono s37 hHd, Dp.mono s37 hRw, hsh, fun H9 s9 => ⟨_, rfl, ?_⟩⟩
    refine iteF ?_
    have s39 := s37.trans s9
    have hS9 := s9.seq hS7
    have LA9 := LA7.mono s9
    have R9 := R7.mono s9
    have hpt9 := s9 _ _ hpt7
    have hWt9 := hWt7.mono s9
    have td := tn.at_
    have tne : ∀ e ∈ g8, e.1 ≠ [] := fun e he z => by
      have := td e he
      rw [z] at this
      have h0 : (0 : Nat) = n := this
      omega
    clear hg8 s8 np8 hp8 hW8 hWt6 s7 s36 R6 hpt6 R7 LA7 hpt7 hWt7 hS7 s9
    refine ⟨_, rfl, pt, wt, g8, rfl, ⟨hpt9, hWt9, by omega, tne⟩, fun e he => by rw [td e he]; omega, fun m p10 w10 H10 hm s10 np10 hp10 hW10 => ?_⟩
    have em : m = g8 := by
      have h1 : RowIs m (mirL (crossL es es)) := RowIs.mapped ht hm
      exact (h1.congr (cross_mir es es)).one ht
    subst em
    refine ⟨_, rfl, dRow m, dRow m, hW10.dp (.inl (.inl hp10)), (hWt9.mono s10).dp (.inl (.inl (s10 _ _ hpt9))), shaped_row _, shaped_row _, _, rfl, ?_⟩
    rw [eqv_rows]
    refine iteF ?_
    -- middle and total of the row
    have LA10 := LA9.mono s10
    have hS10 := s10.seq hS9
    refine ⟨_, rfl, hd, _, 0, _, rfl, rfl, hS10, atI_nat (j := 0) rfl, la, xs, es, n, rfl, LA10.l, LA10.e, R.v, R.d, _, rfl, _, rfl, _, rfl, ?_⟩
    refine iteF ?_
    refine ⟨_, rfl, hd, _, 0, _, rfl, rfl, hS10, atI_nat (j := 0) rfl, la, xs, es, rfl, LA10.l, LA10.e, by omega, fun H11 s11 => ⟨_, rfl, _, rfl, _, rfl, ?_⟩⟩
    refine iteF ?_
    have s911 := s10.trans s11
    have hpt11 := s911 _ _ hpt9
    have hWt11 := hWt9.mono s911
    refine ⟨_, rfl, pt, _, rfl, .inl (.inl (.inl hpt11)), fun p12 np12 => ?_⟩
    have s12 : Same H11 (upd H11 p12 (.lst wt)) := same_upd np12
    have hp12 : (upd H11 p12 (.lst wt)) p12 = some (.lst wt) := upd_same
    generalize upd H11 p12 (.lst wt) = H12 at s12 hp12 ⊢
    have hmid : numAt m (zeros n) = sqE es := own_mid R.v R.d ht
    have htot : totE m = totE es * totE es := own_tot ht
    refine ⟨p12, wt, m, n, rfl, hp12, hWt11.mono s12, ht.v, td, _, rfl, sqE es, ?_, _, rfl, ?_⟩
    · rw [hmid]
      rfl
    refine iteF ?_
    refine ⟨_, rfl, pt, _, rfl, .inl (.inl (.inl (s12 _ _ hpt11))), fun p13 np13 => ?_⟩
    have s13 : Same H12 (upd H12 p13 (.lst wt)) := same_upd np13
    have hp13 : (upd H12 p13 (.lst wt)) p13 = some (.lst wt) := upd_same
    generalize upd H12 p13 (.lst wt) = H13 at s13 hp13 ⊢
    have s1113 := s12.trans s13
    have hU1 : U ≤ 1000000000000000 := by omega
    have tb : -(2 ^ 64) < totE es ∧ totE es < 2 ^ 64 := by
      have h1 := totE_le R.u
      have h2 : es.length * U ≤ 8 * U := Nat.mul_le_mul_right _ z8
      have h0 : (2 : Int) ^ 64 = 18446744073709551616 := by decide
      omega
    refine ⟨p13, wt, m, rfl, hp13, hWt11.mono s1113, by omega, fun H14 s14 => ⟨_, rfl, _, rfl, _, _, rfl, rfl, .inl tb, totE es * totE es, ?_, _, rfl, ?_⟩⟩
    · rw [htot]
      rfl
    refine iteF ?_
    have s1114 := s1113.trans s14
    have s914 := s911.trans s1114
    have R14 := R9.mono s914
    have hpt14 := s914 _ _ hpt9
    have hWt14 := hWt9.mono s914
    have hS14 := s914.seq hS9
    have LA14 := LA9.mono s914
    have s314 := s39.trans s914
    clear hp12 np12 s12 hp13 np13 s13 s1113 s14 s1114 s911 hpt11 hWt11 s11 hS10 LA10 hp10 hW10 np10 s10 hm LA9 R9 hpt9 hWt9 hS9
    -- the other row
    have hss : sg * sg = 1 := by rcases hsg with rfl | rfl <;> decide
    have sg64 : -(2 ^ 64) < sg ∧ sg < 2 ^ 64 := by rcases hsg with rfl | rfl <;> decide
    have sgA : sg.natAbs ≤ 1 := by rcases hsg with rfl | rfl <;> decide
    refine ⟨_, rfl, _, rfl, a, xs, es, sg, rfl, R14.lst, sg64, fun o p15 w15 H15 ho s15 np15 hp15 hW15 => ?_⟩
    obtain ⟨O15, oz, oBx⟩ := R14.scale (F := 1) ho hp15 hW15 sgA (by omega)
    have hoc : ∀ q, numAt (crossL o o) q = numAt (crossL es es) q := fun q => by
      rw [cross_congr ho.s ho.s, sign_cross hss]
    have s1415 := s15
    refine ⟨fun σ H16 => ∃ (p16 : Addr) (w16 : List V) (o : List Ent), σ = [some (.ref a), some (.int sg), some (.ref b), some (.ref rw0), some (.ref hd), some (.ref pt), some (.int (sqE es)), some (.int (totE es)), some (.int (numAt es (zeros n))), some (.ref p16), y10] ∧ Same H14 H16 ∧ RB H16 p16 w16 o n 1808 U ∧ (∀ q, numAt (crossL o o) q = numAt (crossL es es) q), ?_, ?_⟩
    · have R15 := R14.mono s15
      have hb15 := (s314.trans s15) _ _ hb3
      have keep : ∃ (p16 : Addr) (w16 : List V) (o' : List Ent), [some (V.ref a), some (V.int sg), some (V.ref b), some (V.ref rw0), some (V.ref hd), some (V.ref pt), some (V.int (sqE es)), some (V.int (totE es)), some (V.int (numAt es (zeros n))), some (V.ref p15), y10] = [some (.ref a), some (.int sg), some (.ref b), some (.ref rw0), some (.ref hd), some (.ref pt), some (.int (sqE es)), some (.int (totE es)), some (.int (numAt es (zeros n))), some (.ref p16), y10] ∧ Same H14 H15 ∧ RB H15 p16 w16 o' n 1808 U ∧ (∀ q, numAt (crossL o' o') q = numAt (crossL es es) q) := ⟨p15, w15, o, rfl, s15, O15.le (by decide) (by decide) (by omega) (by omega), hoc⟩
      refine ⟨_, rfl, a, _, rfl, .inl (.inl (.inl R15.l)), _, _, rfl, rfl, _, rfl, iteD (fun c => ?_) (fun c => keep)⟩
      have p1 : 0 < es.length := by omega
      obtain ⟨v1, hv1, t1, q1, rfl, ht1, hq1⟩ := R15.e.at (i := 0) p1
      refine ⟨_, rfl, a, _, 0, _, rfl, rfl, .inl (.inl R15.l), atI_nat (j := 0) hv1, t1, _, 0, _, rfl, rfl, .inl (.inl ht1), atI_nat (j := 0) rfl, q1, _, rfl, .inr (.inl (.inl hq1)), _, rfl, b, _, rfl, .inr (.inl (.inl hb15)), rfl, _, rfl, iteD (fun c2 => ?_) (fun _ => keep)⟩
      have hln : l.length = n := by
        have h1 := V.int.inj c2
        rw [List.length_map, List.length_map, R.d _ (List.getElem_mem p1)] at h1
        omega
      refine ⟨_, rfl, _, rfl, _, rfl, b, l, rfl, .inl (.inl hb15), by omega, fun pb Hb sb hpb => ?_⟩
      have Rb := R15.mono sb
      have hnl : (negP l).length = n := by rw [negP_len, hln]
      refine ⟨a, pb, xs, es, sg, negP l, rfl, Rb.lst, hsg, hpb, fun e he => by rw [R.d e he, hnl], by omega, fun o2 p16 w16 H16 ho2 s16 np16 hp16 hW16 => ?_⟩
      obtain ⟨O16, oz2, _⟩ := Rb.unit hsg hnl (fun x hx => by
        obtain ⟨y, hy, rfl⟩ := List.mem_map.mp hx
        have := hlc y hy
        omega) (by decide) ho2 hp16 hW16
      refine ⟨p16, w16, o2, rfl, (s15.trans sb).trans s16, O16, fun q => ?_⟩
      rw [cross_congr ho2.s ho2.s, unit_cross hss es (fun e he => by rw [R.d e he, hnl]) (fun e he => by rw [R.d e he, hnl])]
    clear s15 np15 hp15 hW15 O15 oz oBx hoc ho s1415 o w15 p15 H15
    rintro σ H16 ⟨p16, w16, o, rfl, s16, O16, hoc⟩
    have hpt16 := s16 _ _ hpt14
    have hWt16 := hWt14.mono s16
    refine ⟨_, rfl, p16, _, rfl, .inl (.inl (.inl O16.l)), fun l17 nl17 => ?_⟩
    have s17 : Same H16 (upd H16 l17 (.lst w16)) := same_upd nl17
    have hl17 : (upd H16 l17 (.lst w16)) l17 = some (.lst w16) := upd_same
    generalize upd H16 l17 (.lst w16) = H17 at s17 hl17 ⊢
    refine ⟨l17, w16, o, n, 1808, U, rfl, (O16.mono s17).copy hl17, fun g18 p18 w18 H18 hg18 s18 np18 hp18 hW18 => ?_⟩
    have e18 := (hg18.congr hoc).one ht
    subst e18
    have s1618 := s17.trans s18
    refine ⟨_, rfl, p18, pt, w18, wt, g18, n, rfl, hp18, hW18, s1618 _ _ hpt16, hWt16.mono s1618, tn, by omega, _, rfl, ?_⟩
    refine iteF ?_
    have s1418 := s16.trans s1618
    have R18 := R14.mono s1418
    refine ⟨_, rfl, a, xs, es, rfl, R18.lst, fun e he => by rw [R.d e he]; omega, fun mm p19 w19 H19 hmm s19 np19 hp19 hW19 => ?_⟩
    obtain ⟨M19, _, _⟩ := R18.mir hmm hp19 hW19
    refine ⟨p19, w19, mm, n, 908, U, rfl, M19, fun g20 p20 w20 H20 hg20 s20 np20 hp20 hW20 => ?_⟩
    have e20 : g20 = g18 := (hg20.congr fun q => by rw [cross_congr hmm.s hmm.s, own_mir]).one ht
    subst e20
    have s1820 := s19.trans s20
    have hpt18 := s1618 _ _ hpt16
    refine ⟨_, rfl, p20, pt, w20, wt, g20, n, rfl, hp20, hW20, s1820 _ _ hpt18, (hWt16.mono s1618).mono s1820, tn, by omega, _, rfl, ?_⟩
    refine iteF ?_
    have s1420 := s1418.trans s1820
    have LA20 := LA14.mono s1420
    have hpt20 := s1420 _ _ hpt14
    have hWt20 := hWt14.mono s1420
    have hS20 := s1420.seq hS14
    have s320 := s314.trans s1420
    have mb1 : mixB es [] = false := decide_eq_false fun h => h.2.1 rfl
    have mb2 : mixB [] es = false := decide_eq_false fun h => h.1 rfl
    clear s16 O16 hoc hpt16 hWt16 nl17 s17 hl17 hg18 s18 np18 hp18 hW18 s1618 s1418 R18 hmm s19 np19 hp19 hW19 M19 hg20 s20 np20 hp20 hW20 s1820 hpt18
    refine ⟨_, rfl, hd, _, 0, _, rfl, rfl, hS20, atI_nat (j := 0) rfl, by decide, fun z21 nz21 => ?_⟩
    have s21 : Same H20 (upd H20 z21 (.lst [])) := same_upd nz21
    have hz21 : (upd H20 z21 (.lst [])) z21 = some (.lst []) := upd_same
    generalize upd H20 z21 (.lst []) = H21 at s21 hz21 ⊢
    refine ⟨la, z21, xs, [], es, [], n, n, 908, U, rfl, LA20.mono s21, RB.nil hz21 n1 n3 (by decide) hU1, by show es.length + 0 ≤ 44; omega, hU, mb1, fun g hg => ?_⟩
    have eg : g = es := by
      rw [List.append_nil] at hg
      exact hg.one (RowIs.self R.v)
    subst eg
    intro g22 p22 w22 H22 hg22 s22 np22 hp22 hW22
    have e22 := hg22.one ht
    subst e22
    refine ⟨_, rfl, _, rfl, _, rfl, H21, p22, pt, hd, rw0, w22, wt, g22, n, _, rfl, s22, np22, hp22, hW22, (s21.trans s22) _ _ hpt20, hWt20.mono (s21.trans s22), tn, by omega, Dp.mono (s320.trans s21) hHd, Dp.mono (s320.trans s21) hRw, hsh, fun H23 s23 => ⟨_, rfl, ?_⟩⟩
    refine iteF ?_
    have s2023 := s21.trans s23
    refine ⟨by decide, fun z24 nz24 => ?_⟩
    have s24 : Same H23 (upd H23 z24 (.lst [])) := same_upd nz24
    have hz24 : (upd H23 z24 (.lst [])) z24 = some (.lst []) := upd_same
    generalize upd H23 z24 (.lst []) = H24 at s24 hz24 ⊢
    have s2024 := s2023.trans s24
    refine ⟨_, rfl, hd, _, 0, _, rfl, rfl, s2024.seq hS20, atI_nat (j := 0) rfl, z24, la, [], xs, [], g, n, n, 908, U, rfl, RB.nil hz24 n1 n3 (by decide) hU1, LA20.mono s2024, by show 0 + g.length ≤ 44; omega, hU, mb2, fun g' hg' => ?_⟩
    have eg' : g' = g := by
      rw [List.nil_append] at hg'
      exact hg'.one (RowIs.self R.v)
    subst eg'
    intro g25 p25 w25 H25 hg25 s25 np25 hp25 hW25
    have e25 := hg25.one ht
    subst e25
    exact ⟨_, rfl, _, rfl, _, rfl, H24, p25, pt, hd, rw0, w25, wt, g25, n, _, rfl, s25, np25, hp25, hW25, (s2024.trans s25) _ _ hpt20, hWt20.mono (s2024.trans s25), tn, by omega, Dp.mono (s320.trans s2024) hHd, Dp.mono (s320.trans s2024) hRw, hsh, fun H26 s26 => q _ (s03.trans ((s320.trans s2024).trans s26))⟩
end
end OT

set_option Elab.async false
set_option linter.all false
set_option maxRecDepth 100000
set_option maxHeartbeats 4000000
namespace OT
open PySem PySem.Spec PyProof.Rows L2
/-- the value of `mixed` -/
theorem mix_read {K : PySem.W.Frag} {σ : L2.St} {H : Hp} {Q : VK} {a b : Addr} {xs ys : List V} {es fs : List Ent} {n m C U C2 U2 : Nat} (h0 : σ[0]? = some (some (.ref a))) (h1 : σ[1]? = some (some (.ref b))) (hn : 1 ≤ n) (hm : 1 ≤ m) (hG : RB H a xs es n C U) (hF : RB H b ys fs m C2 U2) (q : Q (.bl (mixB es fs)) H) :
    tAndV (tOp (rI0 fun i j => V.bl (decide (j < i))) (tCB (Evl.rLenS K) (tCons (tVar 0) tNil)) (tC (.int 0))) (tAndV (tOp (rI0 fun i j => V.bl (decide (j < i))) (tCB (Evl.rLenS K) (tCons (tVar 1) tNil)) (tC (.int 0)))
      (tOp rNe (tCB (Evl.rLenS K) (tCons (tOp (rIxT K) (tOp (rIxL K) (tVar 0) (tC (.int 0))) (tC (.int 0))) tNil)) (tCB (Evl.rLenS K) (tCons (tOp (rIxT K) (tOp (rIxL K) (tVar 1) (tC (.int 0))) (tC (.int 0))) tNil)))) σ H Q := by
  have e1 := hG.e.len
  have e2 := hF.e.len
  refine ⟨_, h0, a, _, rfl, .inl (.inl (.inl hG.l)), _, _, rfl, rfl, _, rfl, iteD (fun c => ?_) (fun c => ?_)⟩
  · refine ⟨_, h1, b, _, rfl, .inl (.inl (.inl hF.l)), _, _, rfl, rfl, _, rfl, iteD (fun d => ?_) (fun d => ?_)⟩
    · have p1 : 0 < es.length := by omega
      have p2 : 0 < fs.length := by omega
      obtain ⟨v0, hv0, t0, q0, rfl, ht0, hq0⟩ := hG.e.at (i := 0) p1
      obtain ⟨v1, hv1, t1, q1, rfl, ht1, hq1⟩ := hF.e.at (i := 0) p2
      refine ⟨_, h0, a, _, 0, _, rfl, rfl, .inl (.inl hG.l), atI_nat (j := 0) hv0, t0, _, 0, _, rfl, rfl, .inl (.inl ht0), atI_nat (j := 0) rfl, q0, _, rfl, .inr (.inl (.inl hq0)),
        _, h1, b, _, 0, _, rfl, rfl, .inl (.inl hF.l), atI_nat (j := 0) hv1, t1, _, 0, _, rfl, rfl, .inl (.inl ht1), atI_nat (j := 0) rfl, q1, _, rfl, .inr (.inl (.inl hq1)), rfl, ?_⟩
      have d1 : dimE es = (es[0]'p1).1.length := by
        cases es with
        | nil => cases p1
        | cons e r => rfl
      have d2 : dimE fs = (fs[0]'p2).1.length := by
        cases fs with
        | nil => cases p2
        | cons e r => rfl
      have z1 : dimE es ≠ 0 := by
        rw [d1, hG.d _ (List.getElem_mem p1)]
        omega
      have z2 : dimE fs ≠ 0 := by
        rw [d2, hF.d _ (List.getElem_mem p2)]
        omega
      have : mixB es fs = !decide (V.int ((List.map V.int (es[0]'p1).1).length : Int) = V.int ((List.map V.int (fs[0]'p2).1).length : Int)) := by
        rw [List.length_map, List.length_map, ← d1, ← d2]
        unfold mixB
        by_cases z : dimE es = dimE fs
        · rw [decide_eq_false (fun h => h.2.2 z), decide_eq_true (by rw [z])]
          rfl
        · rw [decide_eq_true ⟨z1, z2, z⟩, decide_eq_false (fun h => z (by have := V.int.inj h; omega))]
          rfl
      rw [this] at q
      exact q
    · have hf : fs = [] := List.length_eq_zero_iff.mp (by omega)
      have : mixB es fs = false := by
        rw [hf]
        exact decide_eq_false fun h => h.2.1 rfl
      rw [this] at q
      exact q
  · have hf : es = [] := List.length_eq_zero_iff.mp (by omega)
    have : mixB es fs = false := by
      rw [hf]
      exact decide_eq_false fun h => h.1 rfl
    rw [this] at q
    exact q
theorem mix_dim {es fs : List Ent} {n m : Nat} (he : ∀ e ∈ es, e.1.length = n) (hf : ∀ e ∈ fs, e.1.length = m) (n1 : 1 ≤ n) (n3 : n ≤ 3) (m1 : 1 ≤ m) (m3 : m ≤ 3) (h : mixB es fs = false) : (es ≠ [] → fs ≠ [] → n = m) ∧ ∃ k, 1 ≤ k ∧ k ≤ 3 ∧ (∀ e ∈ es, e.1.length = k) ∧ ∀ e ∈ fs, e.1.length = k := by
  have hnm : es ≠ [] → fs ≠ [] → n = m := fun h1 h2 => by
    have e1 := dimE_eq he h1
    have e2 := dimE_eq hf h2
    by_cases z : n = m
    · exact z
    · have : mixB es fs = true := decide_eq_true ⟨by omega, by omega, by omega⟩
      rw [this] at h
      cases h
  refine ⟨hnm, ?_⟩
  by_cases h1 : es = []
  · exact ⟨m, m1, m3, (fun e z => by rw [h1] at z; cases z), hf⟩
  · by_cases h2 : fs = []
    · exact ⟨n, n1, n3, he, (fun e z => by rw [h2] at z; cases z)⟩
    · have := hnm h1 h2
      subst this
      exact ⟨n, n1, n3, he, hf⟩
theorem rowN_is {r es : List Ent} {k : Nat} (hr : RowIs r es) (k1 : 1 ≤ k) (k3 : k ≤ 3) (he : ∀ e ∈ es, e.1.length = k) : RowN k r := ⟨hr.v, k1, k3, fun e h => by
  obtain ⟨x, hx, ex⟩ := hr.mem h
  rw [← ex]
  exact he x hx⟩
theorem mixB_comm (es fs : List Ent) : mixB fs es = mixB es fs := by
  unfold mixB
  exact decide_eq_decide.mpr ⟨fun h => ⟨h.2.1, h.1, fun z => h.2.2 z.symm⟩, fun h => ⟨h.2.1, h.1, fun z => h.2.2 z.symm⟩⟩
section
variable {P : Program} {w : World} {K : PySem.W.Frag} {mg : Str → Option Value} {base : Heap}
def spTwoA : Sp := fun vs H Q _ => ∃ (a b : Addr) (xs ys : List V) (es fs : List Ent) (n m U : Nat) (i : Int), vs = [.ref a, .ref b, .int i] ∧ RB H a xs es n 908 U ∧ RB H b ys fs m 908 U ∧ es.length ≤ 8 ∧ fs.length ≤ 8 ∧ 44 * U ≤ 1000000000000000 ∧ (i = 0 ∨ i = 1 ∨ i = 2) ∧ ∀ H', Same H H' → Q (.bl true) H'
theorem c__law_two_asked {f B M fC fL fX : Addr} {fd fdC fdL fdX : FuncData} (D : C8.Def K mg "_law_two_asked" s__law_two_asked f fd) (b : Binds K fd ["_law_first", "_law_second", "_law_which"] []) (T : Bi mg) (gB : mg "TableError" = some (.ref B)) (tM : OtErr K M "MixedDimensions") (eM : PySem.W.exmOne K (.ref M) (.ref B) = some true)
    (DC : C8.Def K mg "cross_table" s_cross_table fC fdC) (bC : Binds K fdC ["first", "second"] []) (GC : FnOk P w K mg base (L2.CX P w) 6 fC fdC ["first", "second"] (spCr K M))
    (DL : C8.Def K mg "look" s_look fL fdL) (bL : Binds K fdL ["row", "reference"] []) (GL : FnOk P w K mg base (L2.CX P w) 8 fL fdL ["row", "reference"] (spLookP K M))
    (DX : C8.Def K mg "_law_is_mixed" s__law_is_mixed fX fdX) (bX : Binds K fdX ["_law_e"] []) (GX : FnE P w K mg base 2 fX fdX ["_law_e"] (spMxE K M))
    (c__law_kept : C8.Cal P w K mg base 5 "_law_kept" (spKeptE K) []) (c__law_add : C8.Cal P w K mg base 2 "_law_add" spAdd []) (c__law_sums : C8.Cal P w K mg base 2 "_law_sums" (spSumsL K) []) (c__law_mirror : C8.Cal P w K mg base 2 "_law_mirror" spMir []) : C8.Cal P w K mg base 10 "_law_two_asked" spTwoA [] := by
  refine C8.cal0 D b .nil sc__law_two_asked (fun vs H Q E h => ?_) (fun cdv A outer s H vs Q E hr h => ?_)
  · obtain ⟨a, b, xs, ys, es, fs, n, m, U, i, rfl, _⟩ := h
    rfl
  · obtain ⟨a, b, xs, ys, es, fs, n, m, U, i, rfl, G, F, gz, fz, hU, hi, q⟩ := h
    refine ⟨_, (pss_cons (ps_set (i := 3) sc__law_two_asked.nd rfl (Or.inl rfl) (pe_lst (pa_cons (pv 0) (pa_cons (pv 1) pa_nil))))
  (pss_cons (ps_set (i := 4) sc__law_two_asked.nd rfl (Or.inl rfl) (pe_lst (pa_cons (pe_callTy call_list_of (by rfl) T.n_list OT.b_list (pa_cons (pv 0) pa_nil)) (pa_cons (pe_callTy call_list_of (by rfl) T.n_list OT.b_list (pa_cons (pv 1) pa_nil)) pa_nil))))
  (pss_cons (ps_set (i := 5) sc__law_two_asked.nd rfl (Or.inl rfl) (pe_and (pe_cmpR op_gt (pe_callB call_len_seq (by rfl) T.n_len OT.b_len (pa_cons (pv 0) pa_nil)) pe_int (nomark _)) (pe_and (pe_cmpR op_gt (pe_callB call_len_seq (by rfl) T.n_len OT.b_len (pa_cons (pv 1) pa_nil)) pe_int (nomark _)) (pe_one (pe_cmpR op_ne (pe_callB call_len_seq (by rfl) T.n_len OT.b_len (pa_cons (pe_ix ix_tup (pe_ix ix_list (pv 0) pe_int (fun _ _ => rfl)) pe_int (fun _ _ => rfl)) pa_nil)) (pe_callB call_len_seq (by rfl) T.n_len OT.b_len (pa_cons (pe_ix ix_tup (pe_ix ix_list (pv 1) pe_int (fun _ _ => rfl)) pe_int (fun _ _ => rfl)) pa_nil)) (nomark _))))))
  (pss_cons (ps_try_as (i := 6) (tb := fun W => _) (ts := fun a cls d => _) (Wout := fun _ _ _ _ => False) rfl rfl sc__law_two_asked.nd rfl rfl ⟨rfl, by decide, Or.inl gB⟩ takes0 (fun W pn xe tk _ => (pss_one (ps_if (pt_cmpR op_eq (pv 2) pe_int (nomark _)) (pss_one (ps_set (i := 8) sc__law_two_asked.nd rfl (Or.inl rfl) (pe_callS (GC.mono (by decide : 6 ≤ 9)) hr rfl DC.mgf DC.kp bC (fun σ => passAt tk σ) (pa_cons (pe_ix (show IxR _ (rIxL K) from ix_list) (pv 4) pe_int (fun _ _ => rfl)) (pa_cons (pe_ix (show IxR _ (rIxL K) from ix_list) (pv 4) pe_int (fun _ _ => rfl)) pa_nil))))) (pss_one (ps_if (pt_cmpR op_eq (pv 2) pe_int (nomark _)) (pss_one (ps_set (i := 8) sc__law_two_asked.nd rfl (Or.inl rfl) (pe_callS (GC.mono (by decide : 6 ≤ 9)) hr rfl DC.mgf DC.kp bC (fun σ => passAt tk σ) (pa_cons (pe_ix (show IxR _ (rIxL K) from ix_list) (pv 4) pe_int (fun _ _ => rfl)) (pa_cons (pe_ix (show IxR _ (rIxL K) from ix_list) (pv 4) pe_int (fun _ _ => rfl)) pa_nil))))) (pss_one (ps_set (i := 8) sc__law_two_asked.nd rfl (Or.inl rfl) (pe_callS (GL.mono (by decide : 8 ≤ 9)) hr rfl DL.mgf DL.kp bL (fun σ => passAt tk σ) (pa_cons (pe_ix (show IxR _ (rIxL K) from ix_list) (pv 4) pe_int (fun _ _ => rfl)) (pa_cons (pe_ix (show IxR _ (rIxL K) from ix_list) (pv 4) pe_int (fun _ _ => rfl)) pa_nil)))))))))) (fun a oe cls d pn hz hf => by exact (pss_one (ps_ret (pe_and (by exact (pv 5)) (pe_and (by exact pe_callA GX (roomH_m (hr.mono (by decide : 2 ≤ 9))) List.mem_cons_self hz hf (by rfl) DX.mgf DX.kp bX (pa_cons (pv 6) pa_nil)) (pe_one (by exact (pe_cmpR (show OpR _ _ (rEqD K) from op_eqD hr.units) (pv 4) (pv 3) (nomark _))))))))))
  (pss_cons (ps_if (pt_val (pv 5)) (pss_one (ps_ret pe_bl)) pss_nil)
  (pss_cons (ps_if (pt_cmpR op_eq (pv 2) pe_int (nomark _)) (pss_one (ps_ret (C8.pe_c c__law_kept hr (by decide) (by rfl) (pa_cons (pv 8) (pa_cons (C8.pe_c c__law_sums hr (by decide) (by rfl) (pa_cons (pv 0) (pa_cons (pv 1) pa_nil))) (pa_cons (pv 4) (pa_cons (pv 3) pa_nil))))))) pss_nil)
  (pss_cons (ps_if (pt_cmpR op_eq (pv 2) pe_int (nomark _)) (pss_one (ps_ret (C8.pe_c c__law_kept hr (by decide) (by rfl) (pa_cons (pv 8) (pa_cons (C8.pe_c c__law_mirror hr (by decide) (by rfl) (pa_cons (C8.pe_c c__law_sums hr (by decide) (by rfl) (pa_cons (pv 0) (pa_cons (pv 1) pa_nil))) pa_nil)) (pa_cons (pv 4) (pa_cons (pv 3) pa_nil))))))) pss_nil)
  (pss_cons (ps_set (i := 7) sc__law_two_asked.nd rfl (Or.inl rfl) (C8.pe_c c__law_add hr (by decide) (by rfl) (pa_cons (pv 0) (pa_cons (pv 1) pa_nil))))
  (pss_one (ps_ret (C8.pe_c c__law_kept hr (by decide) (by rfl) (pa_cons (pv 8) (pa_cons (C8.pe_c c__law_sums hr (by decide) (by rfl) (pa_cons (pv 7) (pa_cons (pv 7) pa_nil))) (pa_cons (pv 4) (pa_cons (pv 3) pa_nil))))))))))))))), ?_⟩
    have n1 := G.n1
    have n3 := G.n3
    have m1 := F.n1
    have m3 := F.n3
    have gx := G.e.len
    have fx := F.e.len
    refine ⟨_, rfl, _, rfl, (by show 2 ≤ sizeLine; decide), fun rw0 nrw => ?_⟩
    have s1 : Same H (upd H rw0 (.lst [.ref a, .ref b])) := same_upd nrw
    have hrw : (upd H rw0 (.lst [.ref a, .ref b])) rw0 = some (.lst [.ref a, .ref b]) := upd_same
    generalize upd H rw0 (.lst [.ref a, .ref b]) = H1 at s1 hrw ⊢
    have G1 := G.mono s1
    refine ⟨_, rfl, a, _, rfl, .inl (.inl (.inl G1.l)), fun la nla => ?_⟩
    have s2 : Same H1 (upd H1 la (.lst xs)) := same_upd nla
    have hla : (upd H1 la (.lst xs)) la = some (.lst xs) := upd_same
    generalize upd H1 la (.lst xs) = H2 at s2 hla ⊢
    have F2 := F.mono (s1.trans s2)
    refine ⟨_, rfl, b, _, rfl, .inl (.inl (.inl F2.l)), fun lb nlb => ?_⟩
    have s3 : Same H2 (upd H2 lb (.lst ys)) := same_upd nlb
    have hlb : (upd H2 lb (.lst ys)) lb = some (.lst ys) := upd_same
    generalize upd H2 lb (.lst ys) = H3 at s3 hlb ⊢
    refine ⟨(by show 2 ≤ sizeLine; decide), fun hd nhd => ?_⟩
    have s4 : Same H3 (upd H3 hd (.lst [.ref la, .ref lb])) := same_upd nhd
    have hhd : (upd H3 hd (.lst [.ref la, .ref lb])) hd = some (.lst [.ref la, .ref lb]) := upd_same
    generalize upd H3 hd (.lst [.ref la, .ref lb]) = H5 at s4 hhd ⊢
    have s25 := s3.trans s4
    have s15 := s2.trans s25
    have s05 := s1.trans s15
    have G5 := G.mono s05
    have F5 := F.mono s05
    have LA : RB H5 la xs es n 908 U := G5.copy (s25 _ _ hla)
    have LB : RB H5 lb ys fs m 908 U := F5.copy (s4 _ _ hlb)
    have hsh : SeqAt.shaped (.list [dRow es, dRow fs]) = true := (DOk.list (n := 4) fun d hd => by
      rcases List.mem_cons.mp hd with rfl | hd
      · exact DOk.row es
      · rw [List.mem_singleton.mp hd]
        exact DOk.row fs).shaped (by decide)
    have hR : Dp K H5 (.ref rw0) (.list [dRow es, dRow fs]) := .lst (.inl (.inl (s15 _ _ hrw))) (.cons (G5.e.dp (.inl (.inl G5.l))) (.cons (F5.e.dp (.inl (.inl F5.l))) .nil))
    have hH : Dp K H5 (.ref hd) (.list [dRow es, dRow fs]) := .lst (.inl (.inl hhd)) (.cons (LA.e.dp (.inl (.inl LA.l))) (.cons (LB.e.dp (.inl (.inl LB.l))) .nil))
    have hS : SqL K H5 hd [.ref la, .ref lb] := .inl (.inl hhd)
    clear hrw hla hlb hhd s1 s2 s3 s4 s25 s15 G1 F2 nrw nla nlb nhd
    have pp : es.length * fs.length ≤ 64 := Nat.mul_le_mul gz fz
    have pp2 : fs.length * es.length ≤ 64 := Nat.mul_le_mul fz gz
    have clE : ∀ e ∈ es, e.1 ≠ [] ∧ e.1.length ≤ 1000 := fun e he => ⟨G.lst.p e he, by rw [G.d e he]; omega⟩
    have err : ∀ (dd : Addr) (H6 : Hp), Same H5 H6 → H6 dd = some (.xd errM) → Dp K H6 (.ref hd) (.list [dRow es, dRow fs]) ∧ Dp K H6 (.ref rw0) (.list [dRow es, dRow fs]) := fun dd H6 s6 _ => ⟨Dp.mono s6 hH, Dp.mono s6 hR⟩
    refine mix_read (K := K) (a := a) (b := b) rfl rfl n1 m1 G5 F5 ?_
    rcases hi with rfl | rfl | rfl
    · refine eqT rfl (fun _ => iteT ?_) (fun h => absurd rfl h)
      refine ⟨_, rfl, hd, _, 0, _, rfl, rfl, hS, atI_nat (j := 0) rfl, _, rfl, hd, _, 1, _, rfl, rfl, hS, atI_nat (j := 1) rfl, la, lb, xs, ys, es, fs, n, m, _, rfl, LA.two LB, by omega, F.u.le F.uU, fun hm dd H6 s6 hdd => ?_, fun hm => ?_⟩
      · rw [hm]
        refine ⟨true, eM, fun _ ea nea => ?_, fun h => by cases h⟩
        refine ⟨_, rfl, _, rfl, ?_⟩
        refine iteT ?_
        refine ⟨_, rfl, dd, rfl, ⟨rfl, rfl, tM.oc, hdd⟩, _, rfl, ?_⟩
        refine iteT ?_
        refine ⟨_, rfl, _, rfl, _, _, Dp.mono s6 hH, Dp.mono s6 hR, hsh, hsh, ?_⟩
        rw [eqvD hsh]
        exact q _ (s05.trans s6)
      · rw [hm]
        obtain ⟨hnm, k, k1, k3, hk1, hk2⟩ := mix_dim G.d F.d n1 n3 m1 m3 hm
        refine ⟨hnm, ?_⟩
        intro r p6 ws6 H6 hr6 s6 np6 hp6 hE6
        refine ⟨_, rfl, _, rfl, ?_⟩
        refine iteF ?_
        refine eqT rfl (fun _ => iteT ?_) (fun h => absurd rfl h)
        have G6 := G5.mono s6
        have F6 := F5.mono s6
        refine ⟨_, rfl, _, rfl, _, rfl, a, b, xs, ys, es, fs, rfl, .inl (.inl G6.l), .inl (.inl F6.l), G6.e, F6.e, by omega, fun e he g hg => (hk1 e he).trans (hk2 g hg).symm, clE, F.u.num F.uU, fun r7 p7 ws7 H7 hr7 s7 np7 hp7 hE7 => ?_⟩
        have er : r7 = r := (hr7.congr fun q => (times_congr (fun _ => rfl) (mirP_is F.v F.d).s q).symm).one hr6
        subst er
        have hlen := hr7.len
        rw [crossL_len] at hlen
        exact ⟨_, rfl, _, rfl, H5, p6, p7, hd, rw0, ws6, ws7, _, k, _, rfl, s6.trans s7, np6, s7 _ _ hp6, hE6.mono s7, hp7, hE7, row_rn hr7 (crossL_d hk1 hk2) k1 k3, by omega, hH, hR, hsh, fun H8 s8 => q _ (s05.trans s8)⟩
    · refine eqT rfl (fun h => absurd h (by decide)) (fun _ => iteF ?_)
      refine eqT rfl (fun _ => iteT ?_) (fun h => absurd rfl h)
      refine ⟨_, rfl, hd, _, 1, _, rfl, rfl, hS, atI_nat (j := 1) rfl, _, rfl, hd, _, 0, _, rfl, rfl, hS, atI_nat (j := 0) rfl, lb, la, ys, xs, fs, es, m, n, _, rfl, LB.two LA, by omega, G.u.le G.uU, fun hm dd H6 s6 hdd => ?_, fun hm => ?_⟩
      all_goals rw [mixB_comm] at hm
      · rw [hm]
        refine ⟨true, eM, fun _ ea nea => ?_, fun h => by cases h⟩
        refine ⟨_, rfl, _, rfl, ?_⟩
        refine iteT ?_
        refine ⟨_, rfl, dd, rfl, ⟨rfl, rfl, tM.oc, hdd⟩, _, rfl, ?_⟩
        refine iteT ?_
        refine ⟨_, rfl, _, rfl, _, _, Dp.mono s6 hH, Dp.mono s6 hR, hsh, hsh, ?_⟩
        rw [eqvD hsh]
        exact q _ (s05.trans s6)
      · rw [hm]
        obtain ⟨hnm, k, k1, k3, hk1, hk2⟩ := mix_dim G.d F.d n1 n3 m1 m3 hm
        refine ⟨fun h1 h2 => (hnm h2 h1).symm, ?_⟩
        intro r p6 ws6 H6 hr6 s6 np6 hp6 hE6
        refine ⟨_, rfl, _, rfl, ?_⟩
        refine iteF ?_
        refine eqT rfl (fun h => absurd h (by decide)) (fun _ => iteF ?_)
        refine eqT rfl (fun _ => iteT ?_) (fun h => absurd rfl h)
        have G6 := G5.mono s6
        have F6 := F5.mono s6
        refine ⟨_, rfl, _, rfl, _, rfl, a, b, xs, ys, es, fs, rfl, .inl (.inl G6.l), .inl (.inl F6.l), G6.e, F6.e, by omega, fun e he g hg => (hk1 e he).trans (hk2 g hg).symm, clE, F.u.num F.uU, fun r7 p7 ws7 H7 hr7 s7 np7 hp7 hE7 => ?_⟩
        have h7 := row_rn hr7 (crossL_d hk1 hk2) k1 k3
        have l7 := hr7.len
        rw [crossL_len] at l7
        refine ⟨p7, ws7, r7, rfl, ⟨hp7, hE7, by omega, fun e he z => ?_⟩, fun e he => by rw [h7.at_ e he]; omega, fun r8 p8 ws8 H8 hr8 s8 np8 hp8 hE8 => ?_⟩
        · have := h7.at_ e he
          rw [z] at this
          have h0 : (0 : Nat) = k := this
          omega
        have er : r8 = r := by
          have h1 : RowIs r8 (mirL (crossL es fs)) := RowIs.mapped hr7 hr8
          have h2 := h1.congr (cross_mir es fs)
          exact (h2.congr fun q => (times_congr (fun _ => rfl) (mirP_is G.v G.d).s q).symm).one hr6
        subst er
        have hlen := hr8.len
        rw [show (mirL r7).length = r7.length from List.length_map _] at hlen
        have s78 := s7.trans s8
        exact ⟨_, rfl, _, rfl, H5, p6, p8, hd, rw0, ws6, ws8, _, k, _, rfl, s6.trans s78, np6, s78 _ _ hp6, hE6.mono s78, hp8, hE8, row_rn hr8 (fun e he => by
          obtain ⟨y, hy, rfl⟩ := List.mem_map.mp he
          show (negP y.1).length = k
          rw [negP_len, h7.at_ y hy]) k1 k3, by omega, hH, hR, hsh, fun H9 s9 => q _ (s05.trans s9)⟩
    · refine eqT rfl (fun h => absurd h (by decide)) (fun _ => iteF ?_)
      refine eqT rfl (fun h => absurd h (by decide)) (fun _ => iteF ?_)
      refine ⟨_, rfl, hd, _, 0, _, rfl, rfl, hS, atI_nat (j := 0) rfl, _, rfl, hd, _, 1, _, rfl, rfl, hS, atI_nat (j := 1) rfl, la, lb, xs, ys, es, fs, n, m, 908, U, rfl, LA, LB, by omega, hU, fun hm dd H6 s6 hdd => ?_, fun hm => ?_⟩
      · rw [hm]
        refine ⟨true, eM, fun _ ea nea => ?_, fun h => by cases h⟩
        refine ⟨_, rfl, _, rfl, ?_⟩
        refine iteT ?_
        refine ⟨_, rfl, dd, rfl, ⟨rfl, rfl, tM.oc, hdd⟩, _, rfl, ?_⟩
        refine iteT ?_
        refine ⟨_, rfl, _, rfl, _, _, Dp.mono s6 hH, Dp.mono s6 hR, hsh, hsh, ?_⟩
        rw [eqvD hsh]
        exact q _ (s05.trans s6)
      · rw [hm]
        obtain ⟨hnm, k, k1, k3, hk1, hk2⟩ := mix_dim G.d F.d n1 n3 m1 m3 hm
        intro g hg r p6 ws6 H6 hr6 s6 np6 hp6 hE6
        refine ⟨_, rfl, _, rfl, ?_⟩
        refine iteF ?_
        refine eqT rfl (fun h => absurd h (by decide)) (fun _ => iteF ?_)
        refine eqT rfl (fun h => absurd h (by decide)) (fun _ => iteF ?_)
        have G6 := G5.mono s6
        have F6 := F5.mono s6
        have dEF : ∀ e ∈ es ++ fs, e.1.length = k := fun e he => (List.mem_append.mp he).elim (hk1 e) (hk2 e)
        refine ⟨_, rfl, _, rfl, a, b, xs, ys, es, fs, rfl, G6.lst, F6.lst, fun bo p7 ws7 H7 hbo s7 np7 hp7 hE7 => ?_⟩
        have eb := hbo.one hg
        subst eb
        have hb7 := row_rn hbo dEF k1 k3
        have lb7 := hbo.len
        rw [List.length_append] at lb7
        have nbE : NB U (es ++ fs) := fun e he => (List.mem_append.mp he).elim (G.u e) (F.u e)
        have nbb : NB (44 * U) bo := (hbo.nb nbE).le (Nat.mul_le_mul_right _ (by rw [List.length_append]; omega))
        have pb : bo.length * bo.length ≤ 16 * 16 := Nat.mul_le_mul (by omega) (by omega)
        refine ⟨_, rfl, _, rfl, _, rfl, p7, p7, ws7, ws7, bo, bo, rfl, .inl (.inl hp7), .inl (.inl hp7), hE7, hE7, by omega, fun e he g hg => by rw [hb7.at_ e he, hb7.at_ g hg], fun e he => ⟨fun z => ?_, by rw [hb7.at_ e he]; omega⟩, nbb.num hU, fun r8 p8 ws8 H8 hr8 s8 np8 hp8 hE8 => ?_⟩
        · have := hb7.at_ e he
          rw [z] at this
          have h0 : (0 : Nat) = k := this
          omega
        have er := hr8.one hr6
        subst er
        have hlen := hr8.len
        rw [crossL_len] at hlen
        have s78 := s7.trans s8
        exact ⟨_, rfl, _, rfl, H5, p6, p8, hd, rw0, ws6, ws8, _, k, _, rfl, s6.trans s78, np6, s78 _ _ hp6, hE6.mono s78, hp8, hE8, row_rn hr8 (crossL_d hb7.at_ hb7.at_) k1 k3, by omega, hH, hR, hsh, fun H9 s9 => q _ (s05.trans s9)⟩
end
end OT

set_option Elab.async false
set_option linter.all false
set_option maxRecDepth 100000
set_option maxHeartbeats 4000000
namespace OT
open PySem PySem.Spec PyProof.Rows L2
/-! how many places a product has -/
def boxP : Pl → List Nat → List Pl
  | [], [] => [[]]
  | a :: o, b :: bs => (List.range b).flatMap fun (i : Nat) => (boxP o bs).map fun k => (a + (i : Int)) :: k
  | _, _ => []
def prB : List Nat → Nat
  | [] => 1
  | b :: bs => b * prB bs
theorem flat_len {α β : Type} (f : α → List β) (c : Nat) : ∀ l : List α, (∀ x ∈ l, (f x).length = c) → (l.flatMap f).length = l.length * c
  | [], _ => by rw [List.length_nil, Nat.zero_mul]; rfl
  | x :: r, h => by
    rw [List.flatMap_cons, List.length_append, h x List.mem_cons_self, flat_len f c r fun y hy => h y (List.mem_cons_of_mem _ hy), List.length_cons, Nat.succ_mul, Nat.add_comm]
theorem len_boxP : ∀ {o : Pl} {bs : List Nat}, o.length = bs.length → (boxP o bs).length = prB bs
  | [], [], _ => rfl
  | [], _ :: _, h => by cases h
  | _ :: _, [], h => by cases h
  | a :: o, b :: bs, h => by
    have ih := len_boxP (Nat.succ.inj h)
    show ((List.range b).flatMap fun (i : Nat) => (boxP o bs).map fun k => (a + (i : Int)) :: k).length = b * prB bs
    rw [flat_len _ (prB bs) _ fun x _ => by rw [List.length_map, ih], List.length_range]
theorem mem_boxP : ∀ {o : Pl} {bs : List Nat} {k : Pl}, o.length = bs.length → k.length = bs.length → InB o bs k → k ∈ boxP o bs
  | [], [], [], _, _, _ => List.mem_singleton.mpr rfl
  | [], [], _ :: _, _, h, _ => by cases h
  | [], _ :: _, _, h, _, _ => by cases h
  | _ :: _, [], _, h, _, _ => by cases h
  | _ :: _, _ :: _, [], _, h, _ => by cases h
  | a :: o, b :: bs, x :: k, h1, h2, hb => by
    have ih := mem_boxP (Nat.succ.inj h1) (Nat.succ.inj h2) fun i y z c hy hz hc => hb (i + 1) y z c hy hz hc
    obtain ⟨h3, h4⟩ := hb 0 x a b rfl rfl rfl
    refine List.mem_flatMap.mpr ⟨(x - a).toNat, List.mem_range.mpr (by omega), List.mem_map.mpr ⟨k, ih, ?_⟩⟩
    congr 1
    omega
def dbl (bs : List Nat) : List Nat := bs.map fun b => 2 * b - 1
theorem InB.plus {o o' : Pl} {bs : List Nat} {k l : Pl} (h : InB o bs k) (h' : InB o' bs l) (e1 : o.length = bs.length) (e2 : o'.length = bs.length) (e3 : k.length = bs.length) (e4 : l.length = bs.length) : InB (plusP o o') (dbl bs) (plusP k l) := by
  intro i x y b hx hy hb
  have h1 := (List.getElem?_eq_some_iff.mp hx).1
  have h2 := (List.getElem?_eq_some_iff.mp hy).1
  have hbi := (List.getElem?_eq_some_iff.mp hb).1
  unfold dbl at hb hbi
  rw [List.length_map] at hbi
  rw [List.getElem?_map, List.getElem?_eq_getElem hbi] at hb
  rw [List.getElem?_eq_getElem h1, plusP_get h1 (by omega) (by omega)] at hx
  rw [List.getElem?_eq_getElem h2, plusP_get h2 (by omega) (by omega)] at hy
  have q1 := h i k[i] o[i] bs[i] (List.getElem?_eq_getElem _) (List.getElem?_eq_getElem _) (List.getElem?_eq_getElem _)
  have q2 := h' i l[i] o'[i] bs[i] (List.getElem?_eq_getElem _) (List.getElem?_eq_getElem _) (List.getElem?_eq_getElem _)
  have q3 : k[i] + l[i] = x := Option.some.inj hx
  have q4 : o[i] + o'[i] = y := Option.some.inj hy
  have q5 : 2 * bs[i] - 1 = b := Option.some.inj hb
  omega
theorem dbl_le {u : Nat} {bs : List Nat} (hu : u = 3 ∨ u = 4) (h : BxU u bs) : prB (dbl bs) ≤ 27 := by
  rcases hu with rfl | rfl <;> rcases h with rfl | rfl | rfl <;> decide
theorem prod_len {u : Nat} {bs : List Nat} {es fs t : List Ent} (hu : u = 3 ∨ u = 4) (hx : BxU u bs) (b1 : Boxed bs es) (b2 : Boxed bs fs) (d1 : ∀ e ∈ es, e.1.length = bs.length) (d2 : ∀ e ∈ fs, e.1.length = bs.length) (ht : RowIs t (timesL es fs)) : t.length ≤ 27 := by
  obtain ⟨o, ho, hb⟩ := b1
  obtain ⟨o', ho', hb'⟩ := b2
  have hpl : (plusP o o').length = (dbl bs).length := by
    unfold dbl
    rw [plusP_len (by omega), ho, List.length_map]
  refine Nat.le_trans (ht.v.len (l := boxP (plusP o o') (dbl bs)) fun e he => ?_) (by rw [len_boxP hpl]; exact dbl_le hu hx)
  obtain ⟨x, hxm, ex⟩ := ht.mem he
  obtain ⟨a, ha, g, hg, rfl⟩ := timesL_mem hxm
  rw [← ex]
  refine mem_boxP hpl ?_ ((hb a ha).plus (hb' g hg) ho ho' (d1 a ha) (d2 g hg))
  unfold dbl
  show (plusP a.1 g.1).length = _
  rw [plusP_len (by rw [d1 a ha, d2 g hg]; exact Nat.le_refl _), d1 a ha, List.length_map]
theorem rowIs_nil {r : List Ent} (h : RowIs r []) : r = [] := by
  have := h.len
  cases r with
  | nil => rfl
  | cons x r => cases this
section
variable {P : Program} {w : World} {K : PySem.W.Frag} {mg : Str → Option Value} {base : Heap}
def spProd : Sp := fun vs H Q _ => ∃ (a b : Addr) (xs ys : List V) (es fs : List Ent) (n m u : Nat) (bs : List Nat), vs = [.ref a, .ref b] ∧ Two15 H a b xs ys es fs n m u 24 bs ∧ ∀ H', Q (.bl true) H'
theorem c__law_product_asked {f : Addr} {fd : FuncData} (D : C8.Def K mg "_law_product_asked" s__law_product_asked f fd) (b : Binds K fd ["_law_first", "_law_second"] []) (T : Bi mg)
    (c__law_times : C8.Cal P w K mg base 2 "_law_times" (spTimes K) []) (c__law_sums : C8.Cal P w K mg base 2 "_law_sums" (spSumsL K) []) (c__law_same : C8.Cal P w K mg base 4 "_law_same" (spSame K) []) (c_own_table : C8.Cal P w K mg base 7 "own_table" (spOw K) []) : C8.Cal P w K mg base 8 "_law_product_asked" spProd [] := by
  refine C8.cal0 D b .nil sc__law_product_asked (fun vs H Q E h => ?_) (fun cdv A outer s H vs Q E hr h => ?_)
  · obtain ⟨a, b, xs, ys, es, fs, n, m, u, bs, rfl, _⟩ := h
    rfl
  · obtain ⟨a, b, xs, ys, es, fs, n, m, u, bs, rfl, W, q⟩ := h
    refine ⟨_, (C8.pss_cut (ps_if (PW.pt (pw_and (pt_cmpR op_gt (pe_callB call_len_seq (by rfl) T.n_len OT.b_len (pa_cons (pv 0) pa_nil)) pe_int (nomark _)) (pw_and (pt_cmpR op_gt (pe_callB call_len_seq (by rfl) T.n_len OT.b_len (pa_cons (pv 1) pa_nil)) pe_int (nomark _)) (pw_and1 (pt_cmpR op_ne (pe_callB call_len_seq (by rfl) T.n_len OT.b_len (pa_cons (pe_ix ix_tup (pe_ix ix_list (pv 0) pe_int (fun _ _ => rfl)) pe_int (fun _ _ => rfl)) pa_nil)) (pe_callB call_len_seq (by rfl) T.n_len OT.b_len (pa_cons (pe_ix ix_tup (pe_ix ix_list (pv 1) pe_int (fun _ _ => rfl)) pe_int (fun _ _ => rfl)) pa_nil)) (nomark _)))))) (pss_one (ps_ret pe_bl)) pss_nil)
  (pss_cons (ps_set (i := 2) sc__law_product_asked.nd rfl (Or.inl rfl) (C8.pe_c c__law_times hr (by decide) (by rfl) (pa_cons (C8.pe_c c__law_sums hr (by decide) (by rfl) (pa_cons (pv 0) (pa_cons (pv 0) pa_nil))) (pa_cons (C8.pe_c c__law_sums hr (by decide) (by rfl) (pa_cons (pv 1) (pa_cons (pv 1) pa_nil))) pa_nil))))
  (pss_one (ps_ret (C8.pe_c c__law_same hr (by decide) (by rfl) (pa_cons (C8.pe_c c_own_table hr (by decide) (by rfl) (pa_cons (C8.pe_c c__law_times hr (by decide) (by rfl) (pa_cons (pv 0) (pa_cons (pv 1) pa_nil))) pa_nil)) (pa_cons (pv 2) pa_nil))))))), ?_⟩
    have G := W.r
    have F := W.s
    have gz := W.ze
    have fz := W.zf
    have n1 := G.n1
    have n3 := G.n3
    have m1 := F.n1
    have m3 := F.n3
    have gx := G.e.len
    have fx := F.e.len
    have pp : es.length * fs.length ≤ 64 := Nat.mul_le_mul gz fz
    have clE : ∀ e ∈ es, e.1 ≠ [] ∧ e.1.length ≤ 1000 := fun e he => ⟨G.lst.p e he, by rw [G.d e he]; omega⟩
    have clF : ∀ e ∈ fs, e.1 ≠ [] ∧ e.1.length ≤ 1000 := fun e he => ⟨F.lst.p e he, by rw [F.d e he]; omega⟩
    have ee : es.length * es.length ≤ 64 := Nat.mul_le_mul gz gz
    have ff : fs.length * fs.length ≤ 64 := Nat.mul_le_mul fz fz
    have nbx : ∀ {l k : List Ent}, NB 24 l → NB 24 k → NB 576 (timesL l k) := fun h1 h2 e he => by
      obtain ⟨x, hx, y, hy, rfl⟩ := timesL_mem he
      show (x.2 * y.2).natAbs ≤ 576
      rw [Int.natAbs_mul]
      exact Nat.mul_le_mul (h1 x hx) (h2 y hy)
    have nbm : ∀ {l : List Ent}, NB 24 l → NB 24 (mirL l) := fun h e he => by
      obtain ⟨y, hy, rfl⟩ := List.mem_map.mp he
      exact h y hy
    refine ⟨fun σ H2 => σ = [some (.ref a), some (.ref b), none] ∧ H2 = H ∧ (es ≠ [] → fs ≠ [] → n = m), ?_, ?_⟩
    · refine ⟨_, rfl, a, _, rfl, .inl (.inl (.inl G.l)), _, _, rfl, rfl, _, rfl, iteD (fun c => ?_) (fun c => ?_)⟩
      · refine ⟨_, rfl, b, _, rfl, .inl (.inl (.inl F.l)), _, _, rfl, rfl, _, rfl, iteD (fun d => ?_) (fun d => ?_)⟩
        · have p1 : 0 < es.length := by omega
          have p2 : 0 < fs.length := by omega
          obtain ⟨v0, hv0, t0, q0, rfl, ht0, hq0⟩ := G.e.at (i := 0) p1
          obtain ⟨v1, hv1, t1, q1, rfl, ht1, hq1⟩ := F.e.at (i := 0) p2
          refine ⟨_, rfl, a, _, 0, _, rfl, rfl, .inl (.inl G.l), atI_nat (j := 0) hv0, t0, _, 0, _, rfl, rfl, .inl (.inl ht0), atI_nat (j := 0) rfl, q0, _, rfl, .inr (.inl (.inl hq0)),
            _, rfl, b, _, 0, _, rfl, rfl, .inl (.inl F.l), atI_nat (j := 0) hv1, t1, _, 0, _, rfl, rfl, .inl (.inl ht1), atI_nat (j := 0) rfl, q1, _, rfl, .inr (.inl (.inl hq1)), rfl, _, rfl, iteND (fun _ => q H) (fun e => ?_)⟩
          refine ⟨rfl, rfl, fun _ _ => ?_⟩
          have e2 := V.int.inj e
          rw [List.length_map, List.length_map, G.d _ (List.getElem_mem p1), F.d _ (List.getElem_mem p2)] at e2
          omega
        · exact ⟨rfl, rfl, fun _ z => absurd (List.length_eq_zero_iff.mp (by omega)) z⟩
      · exact ⟨rfl, rfl, fun z => absurd (List.length_eq_zero_iff.mp (by omega)) z⟩
    rintro σ H2 ⟨rfl, rfl, hnm⟩
    have dEF : ∀ e ∈ es, ∀ g ∈ fs, e.1.length = g.1.length := fun e he g hg => by
      rw [G.d e he, F.d g hg]
      exact hnm (fun z => by rw [z] at he; cases he) (fun z => by rw [z] at hg; cases hg)
    refine ⟨_, rfl, _, rfl, a, a, xs, xs, es, es, rfl, .inl (.inl G.l), .inl (.inl G.l), G.e, G.e, by omega, fun e he g hg => by rw [G.d e he, G.d g hg], clE, G.u.num (by decide), fun s1 p3 w3 H3 hs1 t3 np3 hp3 hE3 => ?_⟩
    have F3 := F.mono t3
    refine ⟨_, rfl, _, rfl, b, b, ys, ys, fs, fs, rfl, .inl (.inl F3.l), .inl (.inl F3.l), F3.e, F3.e, by omega, fun e he g hg => by rw [F.d e he, F.d g hg], clF, F.u.num (by decide), fun s2 p4 w4 H4 hs2 t4 np4 hp4 hE4 => ?_⟩
    have r1 := row_rn hs1 (crossL_d G.d G.d) n1 n3
    have r2 := row_rn hs2 (crossL_d F.d F.d) m1 m3
    have l1 := hs1.len
    have l2 := hs2.len
    rw [crossL_len] at l1 l2
    have hp34 := t4 _ _ hp3
    have hE34 := hE3.mono t4
    have nb2 : NB 36864 s2 := (hs2.nb (nbx F.u (nbm F.u))).le (by rw [crossL_len]; omega)
    have d12 : ∀ e ∈ s1, ∀ g ∈ s2, e.1.length = g.1.length := fun e he g hg => by
      rw [r1.at_ e he, r2.at_ g hg]
      refine hnm (fun z => ?_) (fun z => ?_)
      · rw [z] at hs1
        rw [rowIs_nil hs1] at he
        cases he
      · rw [z] at hs2
        rw [rowIs_nil hs2] at hg
        cases hg
    have pl : s1.length * s2.length ≤ 64 * 64 := Nat.mul_le_mul (by omega) (by omega)
    refine ⟨p3, p4, w3, w4, s1, s2, rfl, .inl (.inl hp34), .inl (.inl hp4), hE34, hE4, by omega, d12, fun e he => ⟨fun z => ?_, by rw [r1.at_ e he]; omega⟩, nb2.num (by decide), fun x p5 w5 H5 hx t5 np5 hp5 hE5 => ?_⟩
    · have := r1.at_ e he
      rw [z] at this
      have h0 : (0 : Nat) = n := this
      omega
    have t25 := (t3.trans t4).trans t5
    have G5 := G.mono t25
    have F5 := F.mono t25
    have rx : RowN n x := row_rn hx (fun e he => by
      obtain ⟨y, hy, g, hg, rfl⟩ := timesL_mem he
      show (plusP y.1 g.1).length = n
      rw [plusP_len (Nat.le_of_eq (d12 y hy g hg)), r1.at_ y hy]) n1 n3
    have lx := hx.len
    rw [timesL_len] at lx
    refine ⟨_, rfl, _, rfl, a, b, xs, ys, es, fs, rfl, .inl (.inl G5.l), .inl (.inl F5.l), G5.e, F5.e, by omega, dEF, clE, F.u.num (by decide), fun t p6 w6 H6 ht t6 np6 hp6 hE6 => ?_⟩
    have tl : t.length ≤ 27 := by
      by_cases z1 : es = []
      · rw [z1] at ht
        rw [rowIs_nil ht]
        decide
      · by_cases z2 : fs = []
        · have h0 : timesL es fs = [] := List.length_eq_zero_iff.mp (by rw [timesL_len, z2]; rfl)
          rw [h0] at ht
          rw [rowIs_nil ht]
          decide
        · have enm := hnm z1 z2
          exact prod_len W.uu W.bx W.be (W.bf enm.symm) (fun e he => by rw [G.d e he, W.bn]) (fun e he => by rw [F.d e he, W.bn, enm]) ht
    have dT : ∀ e ∈ timesL es fs, e.1.length = n := fun e he => by
      obtain ⟨y, hy, g, hg, rfl⟩ := timesL_mem he
      show (plusP y.1 g.1).length = n
      rw [plusP_len (Nat.le_of_eq (dEF y hy g hg)), G.d y hy]
    have rt := row_rn ht dT n1 n3
    have T6 : RB H6 p6 w6 t n 2000 36864 := ⟨hp6, hE6, ht.v, rt.at_, n1, n3, by omega, fun e he x hx => by
      obtain ⟨y, hy, ey⟩ := ht.mem he
      rw [← ey] at hx
      obtain ⟨c, hc, g, hg, rfl⟩ := timesL_mem hy
      obtain ⟨u1, hu1, u2, hu2, rfl⟩ := plusP_mem hx
      have := G.c c hc u1 hu1
      have := F.c g hg u2 hu2
      omega, by decide, (ht.nb (nbx G.u F.u)).le (by rw [timesL_len]; omega), by decide⟩
    refine ⟨p6, w6, t, n, 2000, 36864, rfl, T6, fun o p7 w7 H7 ho t7 np7 hp7 hE7 => ?_⟩
    have eo : o = x := by
      refine (ho.congr fun z => ?_).one hx
      rw [cross_congr ht.s ht.s, own_times]
      exact (times_congr hs1.s hs2.s z).symm
    subst eo
    have t67 := t6.trans t7
    exact ⟨_, rfl, p7, p5, w7, w5, o, n, rfl, hp7, hE7, t67 _ _ hp5, hE5.mono t67, rx, by omega, q _⟩
end
end OT

set_option Elab.async false
set_option linter.all false
set_option maxRecDepth 100000
set_option maxHeartbeats 4000000
namespace OT
open PySem PySem.Spec PyProof.Rows L2
section
variable {P : Program} {w : World} {K : PySem.W.Frag} {mg : Str → Option Value} {base : Heap}
def spLaw (K : PySem.W.Frag) : Sp := fun vs H Q _ => ∃ (a : Addr) (ns : List Int), vs = [.ref a] ∧ SqL K H a (ns.map V.int) ∧ ns.length ≤ 63 ∧ ∀ H', Q (.bl true) H'
theorem c_law {f : Addr} {fd : FuncData} (D : C8.Def K mg "law" s_law f fd) (b : Binds K fd ["_law_script"] []) (T : Bi mg) (c__law_cell : C8.Cal P w K mg base 1 "_law_cell" (spCell K) []) (c__law_draws : C8.Cal P w K mg base 1 "_law_draws" (spDraws K) []) (c__law_by : C8.Cal P w K mg base 2 "_law_by" (spNear K) [])
    (c__law_two_rows : C8.Cal P w K mg base 4 "_law_two_rows" (spTwo K) []) (c__law_single_asked : C8.Cal P w K mg base 9 "_law_single_asked" spSingle []) (c__law_two_asked : C8.Cal P w K mg base 10 "_law_two_asked" spTwoA []) (c__law_product_asked : C8.Cal P w K mg base 8 "_law_product_asked" spProd []) : FnOk P w K mg base L2.CX0 11 f fd ["_law_script"] (spLaw K) := by
  refine C8.fn0 D.fn sc_law (fun vs H Q E h => ?_) (fun cdv A outer s H vs Q E hr h => ?_)
  · obtain ⟨a, ns, rfl, _⟩ := h
    rfl
  · obtain ⟨a, ns, rfl, hS, hlen, q⟩ := h
    refine ⟨_, (pss_cons (ps_set (i := 1) sc_law.nd rfl (Or.inl rfl) (C8.pe_c c__law_draws hr (by decide) (by rfl) (pa_cons (C8.pe_c c__law_cell hr (by decide) (by rfl) (pa_cons (pv 0) (pa_cons pe_int pa_nil))) (pa_cons (pe_lst (pa_cons pe_int (pa_cons pe_int (pa_cons pe_int (pa_cons pe_int (pa_cons pe_int (pa_cons pe_int (pa_cons pe_int pa_nil)))))))) pa_nil))))
  (pss_cons (ps_set (i := 2) sc_law.nd rfl (Or.inl rfl) (C8.pe_c c__law_by hr (by decide) (by rfl) (pa_cons (C8.pe_c c__law_cell hr (by decide) (by rfl) (pa_cons (pv 0) (pa_cons pe_int pa_nil))) (pa_cons (pe_op op_add (pe_ix ix_list (pv 1) pe_int (fun _ _ => rfl)) pe_int) pa_nil))))
  (pss_cons (ps_set (i := 3) sc_law.nd rfl (Or.inl rfl) (C8.pe_c c__law_two_rows hr (by decide) (by rfl) (pa_cons (pv 0) (pa_cons (pv 1) (pa_cons (pv 2) pa_nil)))))
  (pss_cons (ps_for PassesOwn.never rfl (pi_range1 rfl T.n_range (pa_cons pe_int pa_nil)) (pg_name (i := 4) sc_law.nd rfl (Or.inl rfl)) (pss_cons (ps_for PassesOwn.never rfl (pi_list (pv 3)) (pg_name (i := 5) sc_law.nd rfl (Or.inl rfl)) (pss_one (ps_if (pt_not (pt_val (C8.pe_c c__law_single_asked hr (by decide) (by rfl) (pa_cons (pv 5) (pa_cons (pe_op op_sub pe_int (pe_op op_mul pe_int (pe_ix ix_list (pv 1) pe_int (fun _ _ => rfl)))) (pa_cons (pv 2) pa_nil)))))) (pss_one (ps_ret pe_bl)) pss_nil)))
  (pss_one (ps_for PassesOwn.never rfl (pi_range1 rfl T.n_range (pa_cons pe_int pa_nil)) (pg_name (i := 6) sc_law.nd rfl (Or.inl rfl)) (pss_one (ps_if (pt_not (pt_val (C8.pe_c c__law_two_asked hr (by decide) (by rfl) (pa_cons (pe_ix ix_list (pv 3) pe_int (fun _ _ => rfl)) (pa_cons (pe_ix ix_list (pv 3) pe_int (fun _ _ => rfl)) (pa_cons (pv 6) pa_nil)))))) (pss_one (ps_ret pe_bl)) pss_nil))))))
  (pss_one (ps_ret (pe_or (pe_cmpR op_eq (pe_ix ix_list (pv 1) pe_int (fun _ _ => rfl)) pe_int (nomark _)) (pe_one (C8.pe_c c__law_product_asked hr (by decide) (by rfl) (pa_cons (pe_ix ix_list (pv 3) pe_int (fun _ _ => rfl)) (pa_cons (pe_ix ix_list (pv 3) pe_int (fun _ _ => rfl)) pa_nil))))))))))), ?_⟩
    refine ⟨_, rfl, a, ns, 0, rfl, hS, by decide, fun c => ?_⟩
    refine ⟨by decide, fun p np => ?_⟩
    refine ⟨p, zs15, c, rfl, .inl (.inl upd_same), by decide, by decide, fun ds H1 p1 hin sm1 np1 hp1 => ?_⟩
    have sA : Same H H1 := (same_upd np).trans sm1
    have L1 : SqL K H1 p1 (ds.map V.int) := .inl (.inl hp1)
    obtain ⟨d0, g0, g0a, g0b⟩ := hin.get (i := 0) (z := 3) rfl
    obtain ⟨d2, g2, g2a, g2b⟩ := hin.get (i := 2) (z := 2) rfl
    obtain ⟨d3, g3, g3a, g3b⟩ := hin.get (i := 3) (z := 8) rfl
    obtain ⟨k, rfl⟩ := Int.eq_ofNat_of_zero_le g0a
    have hk3 : k < 3 := by omega
    have hsg : (1 : Int) - 2 * d2 = 1 ∨ (1 : Int) - 2 * d2 = -1 := by omega
    refine ⟨_, rfl, a, ns, 3, rfl, sA.seq hS, by decide, fun c2 => ?_⟩
    refine ⟨_, rfl, p1, _, 0, _, rfl, rfl, L1, atI_nat (j := 0) g0, _, _, rfl, rfl, c2, k + 1, rfl, by omega, by omega, fun l p2 H2 hl hlc sm2 hp2 => ?_⟩
    have sB := sA.trans sm2
    refine ⟨_, rfl, _, rfl, _, rfl, a, p1, p2, ns, ds, l, k, d3, rfl, sB.seq hS, sm2.seq L1, hin, g0, g3, hk3, hp2, hl, hlc, fun p4 q1 q2 xs ys es fs m u U bs H4 hU24 W hU hp4 sm4 => ?_⟩
    have s14 := sm2.trans sm4
    have L4 := s14.seq L1
    have hp24 := sm4 _ _ hp2
    have hR4 : SqL K H4 p4 [.ref q1, .ref q2] := .inl (.inl hp4)
    clear sA sB sm1 sm2 sm4 s14 L1 hp1 np np1 hp2 hp4
    refine ⟨2, rfl, by decide, by decide, ?_⟩
    refine for_range (lo := 0) (n := 2) (fun i σ H6 => ∃ y4 y5 y6 : Option V, σ = [some (.ref a), some (.ref p1), some (.ref p2), some (.ref p4), y4, y5, y6] ∧ Same H4 H6) ⟨none, none, none, rfl, Same.refl _⟩ ?_ ?_
    · rintro i σ H10 hi ⟨y4, y5, y6, rfl, s10⟩
      refine ⟨_, rfl, p4, rfl, ⟨_, s10.seq hR4⟩, ?_⟩
      refine for_list (K := K) (xs := [V.ref q1, V.ref q2]) (fun j σ H11 => ∃ y5 : Option V, σ = [some (.ref a), some (.ref p1), some (.ref p2), some (.ref p4), some (.int (0 + (i : Int))), y5, y6] ∧ Same H4 H11) ⟨y5, rfl, s10⟩ ?_ ?_ ?_
      · rintro j σ H11 _ ⟨_, _, s11⟩
        exact s11.seq hR4
      · rintro j x σ H11 hx ⟨y5, rfl, s11⟩
        have cm : CMul 2 d2 := .inl ⟨by decide, by decide⟩
        have hx2 : x = .ref q1 ∨ x = .ref q2 := by
          match j, hx with
          | 0, hx => exact .inl (Option.some.inj hx).symm
          | 1, hx => exact .inr (Option.some.inj hx).symm
        rcases hx2 with rfl | rfl
        · refine ⟨_, rfl, _, rfl, p1, _, 2, _, rfl, rfl, s11.seq L4, atI_nat (j := 2) g2, _, _, rfl, rfl, cm, _, _, rfl, rfl, _, rfl, q1, p2, _, xs, es, k + 1, U, l, rfl, W.r.mono s11, W.ze, hU, hsg, s11 _ _ hp24, by omega, by omega, hlc, fun H12 s12 => ⟨_, rfl, ?_⟩⟩
          refine iteF ?_
          exact ⟨_, rfl, s11.trans s12⟩
        · refine ⟨_, rfl, _, rfl, p1, _, 2, _, rfl, rfl, s11.seq L4, atI_nat (j := 2) g2, _, _, rfl, rfl, cm, _, _, rfl, rfl, _, rfl, q2, p2, _, ys, fs, m, U, l, rfl, W.s.mono s11, W.zf, hU, hsg, s11 _ _ hp24, by omega, by omega, hlc, fun H12 s12 => ⟨_, rfl, ?_⟩⟩
          refine iteF ?_
          exact ⟨_, rfl, s11.trans s12⟩
      · rintro σ H11 ⟨y5, rfl, s11⟩
        refine ⟨3, rfl, by decide, by decide, ?_⟩
        refine for_range (lo := 0) (n := 3) (fun j σ H6 => ∃ y6 : Option V, σ = [some (.ref a), some (.ref p1), some (.ref p2), some (.ref p4), some (.int (0 + (i : Int))), y5, y6] ∧ Same H4 H6) ⟨y6, rfl, s11⟩ ?_ ?_
        · rintro j σ H12 hj ⟨y6, rfl, s12⟩
          have hw : (0 : Int) + (j : Int) = 0 ∨ (0 : Int) + (j : Int) = 1 ∨ (0 : Int) + (j : Int) = 2 := by omega
          refine ⟨_, rfl, p4, _, 0, _, rfl, rfl, s12.seq hR4, atI_nat (j := 0) rfl, _, rfl, p4, _, 1, _, rfl, rfl, s12.seq hR4, atI_nat (j := 1) rfl, _, rfl, q1, q2, xs, ys, es, fs, k + 1, m, U, _, rfl, W.r.mono s12, W.s.mono s12, W.ze, W.zf, hU, hw, fun H13 s13 => ⟨_, rfl, ?_⟩⟩
          refine iteF ?_
          exact ⟨_, rfl, s12.trans s13⟩
        · rintro σ H12 ⟨y6, rfl, s12⟩
          exact ⟨_, _, _, rfl, s12⟩
    · rintro σ H10 ⟨y4, y5, y6, rfl, s10⟩
      refine ⟨_, rfl, p1, _, 3, _, rfl, rfl, s10.seq L4, atI_nat (j := 3) g3, rfl, _, rfl, iteD (fun _ => q _) (fun h7 => ?_)⟩
      have eU : U = 24 := hU24 fun z => h7 (congrArg V.int z)
      subst eU
      exact ⟨_, rfl, p4, _, 0, _, rfl, rfl, s10.seq hR4, atI_nat (j := 0) rfl, _, rfl, p4, _, 1, _, rfl, rfl, s10.seq hR4, atI_nat (j := 1) rfl, q1, q2, xs, ys, es, fs, k + 1, m, u, bs, rfl, W.mono s10, q⟩
end
end OT

set_option Elab.async false
set_option linter.all false
set_option maxRecDepth 100000
set_option maxHeartbeats 4000000
namespace OT
open PySem PySem.Spec PyProof.Rows L2
/-- a def that may raise, where it does not -/
theorem quiet {P : Program} {w : World} {K : PySem.W.Frag} {mg : Str → Option Value} {base : Heap} {k : Nat} {f : Addr} {fd : FuncData} {ps : List Str} {sp sp' : Sp} (F : FnOk P w K mg base (L2.CX P w) k f fd ps sp') (h : ∀ vs H Q E, sp vs H Q E → sp' vs H Q E0) : FnOk P w K mg base CX0 k f fd ps sp := by
  refine ⟨fun vs H Q E q => F.len _ _ _ _ (h _ _ _ _ q), fun A outer s H args us vs Q E hr he hb hv q => ?_⟩
  refine codeAny_mono (F.run A outer s H args us vs Q E0 hr he hb hv (h _ _ _ _ q)) fun r s' z => ?_
  cases r with
  | ok fl => cases fl with
    | ret u => exact z
    | next => exact z
    | brk => exact z
    | cont => exact z
  | error e =>
    obtain ⟨_, _, _, _, _, _, _, _, _, _, _, _, q⟩ := z
    exact q.elim
theorem quietC {P : Program} {w : World} {K : PySem.W.Frag} {mg : Str → Option Value} {base : Heap} {k : Nat} {x : Str} {st : Stmt} {f : Addr} {fd : FuncData} {ps : List Str} {ds : List Value} {dvs : List V} {sp sp' : Sp} (D : C8.Def K mg x st f fd) (b : Binds K fd ps ds) (hd : Vals dvs ds) (F : FnOk P w K mg base (L2.CX P w) k f fd ps sp') (h : ∀ vs H Q E, sp vs H Q E → sp' vs H Q E0) : C8.Cal P w K mg base k x sp dvs :=
  ⟨f, fd, ps, ds, quiet F h, D.mgf, D.kp, b, hd⟩
theorem all_mk {l : PySem.W.OpenLaw} {w : World} {K : PySem.W.Frag} {h : Heap} {mg : Str → Option Value} {fa : Addr} {f_places_length f_same_lengths f_same_dimension f_row_of f_gather f_reach f_key_base f_key_of f_place_of f_keyed f_unkeyed f_add f_multiply f_mirror f_cross_table f_own_table f_look f_middle f_total f__law_cell f__law_draws f__law_is_integer f__law_is_place f__law_is_row f__law_same f__law_plus f__law_back f__law_row f__law_add f__law_scaled f__law_times f__law_mirror f__law_moved f__law_at f__law_by_unit f__law_zero f__law_places f__law_drawn f__law_box f__law_is_error f__law_by f__law_two_rows f__law_sums f__law_is_mixed f__law_kept f__law_number f__law_single_asked f__law_two_asked f__law_product_asked f_law f_te B M Z O C : Addr} (X : K.In h) (G : h.Ns mainGlobals mg) (hfa : mg "law" = some (.ref fa))
    {od_places_length an_places_length : Option Addr} {sl_places_length : Array (Option Value)} {oc_places_length kV_places_length dc_places_length pm_places_length cd_places_length ct_places_length : Value}
    {od_same_lengths an_same_lengths : Option Addr} {sl_same_lengths : Array (Option Value)} {oc_same_lengths kV_same_lengths dc_same_lengths pm_same_lengths cd_same_lengths ct_same_lengths : Value}
    {od_same_dimension an_same_dimension : Option Addr} {sl_same_dimension : Array (Option Value)} {oc_same_dimension kV_same_dimension dc_same_dimension pm_same_dimension cd_same_dimension ct_same_dimension : Value}
    {TD_same_dimension A0_same_dimension : Addr} {to_same_dimension uo_same_dimension : Option Addr} {tn_same_dimension un_same_dimension : Nat} {ts_same_dimension us_same_dimension : Array (Option Value)}
    {tc_same_dimension : Value}
    {od_row_of an_row_of : Option Addr} {sl_row_of : Array (Option Value)} {oc_row_of kV_row_of dc_row_of pm_row_of cd_row_of ct_row_of : Value}
    {od_gather an_gather : Option Addr} {sl_gather : Array (Option Value)} {oc_gather kV_gather dc_gather pm_gather cd_gather ct_gather : Value}
    {od_reach an_reach : Option Addr} {sl_reach : Array (Option Value)} {oc_reach kV_reach dc_reach pm_reach cd_reach ct_reach : Value}
    {od_key_base an_key_base : Option Addr} {sl_key_base : Array (Option Value)} {oc_key_base kV_key_base dc_key_base pm_key_base cd_key_base ct_key_base : Value}
    {od_key_of an_key_of : Option Addr} {sl_key_of : Array (Option Value)} {oc_key_of kV_key_of dc_key_of pm_key_of cd_key_of ct_key_of : Value}
    {od_place_of an_place_of : Option Addr} {sl_place_of : Array (Option Value)} {oc_place_of kV_place_of dc_place_of pm_place_of cd_place_of ct_place_of : Value}
    {od_keyed an_keyed : Option Addr} {sl_keyed : Array (Option Value)} {oc_keyed kV_keyed dc_keyed pm_keyed cd_keyed ct_keyed : Value}
    {od_unkeyed an_unkeyed : Option Addr} {sl_unkeyed : Array (Option Value)} {oc_unkeyed kV_unkeyed dc_unkeyed pm_unkeyed cd_unkeyed ct_unkeyed : Value}
    {od_add an_add : Option Addr} {sl_add : Array (Option Value)} {oc_add kV_add dc_add pm_add cd_add ct_add : Value}
    {od_multiply an_multiply : Option Addr} {sl_multiply : Array (Option Value)} {oc_multiply kV_multiply dc_multiply pm_multiply cd_multiply ct_multiply : Value}
    {od_mirror an_mirror : Option Addr} {sl_mirror : Array (Option Value)} {oc_mirror kV_mirror dc_mirror pm_mirror cd_mirror ct_mirror : Value}
    {od_cross_table an_cross_table : Option Addr} {sl_cross_table : Array (Option Value)} {oc_cross_table kV_cross_table dc_cross_table pm_cross_table cd_cross_table ct_cross_table : Value}
    {od_own_table an_own_table : Option Addr} {sl_own_table : Array (Option Value)} {oc_own_table kV_own_table dc_own_table pm_own_table cd_own_table ct_own_table : Value}
    {od_look an_look : Option Addr} {sl_look : Array (Option Value)} {oc_look kV_look dc_look pm_look cd_look ct_look : Value}
    {od_middle an_middle : Option Addr} {sl_middle : Array (Option Value)} {oc_middle kV_middle dc_middle pm_middle cd_middle ct_middle : Value}
    {od_total an_total : Option Addr} {sl_total : Array (Option Value)} {oc_total kV_total dc_total pm_total cd_total ct_total : Value}
    {od__law_cell an__law_cell : Option Addr} {sl__law_cell : Array (Option Value)} {oc__law_cell kV__law_cell dc__law_cell pm__law_cell cd__law_cell ct__law_cell : Value}
    {od__law_draws an__law_draws : Option Addr} {sl__law_draws : Array (Option Value)} {oc__law_draws kV__law_draws dc__law_draws pm__law_draws cd__law_draws ct__law_draws : Value}
    {od__law_is_integer an__law_is_integer : Option Addr} {sl__law_is_integer : Array (Option Value)} {oc__law_is_integer kV__law_is_integer dc__law_is_integer pm__law_is_integer cd__law_is_integer ct__law_is_integer : Value}
    {od__law_is_place an__law_is_place : Option Addr} {sl__law_is_place : Array (Option Value)} {oc__law_is_place kV__law_is_place dc__law_is_place pm__law_is_place cd__law_is_place ct__law_is_place : Value}
    {od__law_is_row an__law_is_row : Option Addr} {sl__law_is_row : Array (Option Value)} {oc__law_is_row kV__law_is_row dc__law_is_row pm__law_is_row cd__law_is_row ct__law_is_row : Value}
    {od__law_same an__law_same : Option Addr} {sl__law_same : Array (Option Value)} {oc__law_same kV__law_same dc__law_same pm__law_same cd__law_same ct__law_same : Value}
    {od__law_plus an__law_plus : Option Addr} {sl__law_plus : Array (Option Value)} {oc__law_plus kV__law_plus dc__law_plus pm__law_plus cd__law_plus ct__law_plus : Value}
    {od__law_back an__law_back : Option Addr} {sl__law_back : Array (Option Value)} {oc__law_back kV__law_back dc__law_back pm__law_back cd__law_back ct__law_back : Value}
    {od__law_row an__law_row : Option Addr} {sl__law_row : Array (Option Value)} {oc__law_row kV__law_row dc__law_row pm__law_row cd__law_row ct__law_row : Value}
    {od__law_add an__law_add : Option Addr} {sl__law_add : Array (Option Value)} {oc__law_add kV__law_add dc__law_add pm__law_add cd__law_add ct__law_add : Value}
    {od__law_scaled an__law_scaled : Option Addr} {sl__law_scaled : Array (Option Value)} {oc__law_scaled kV__law_scaled dc__law_scaled pm__law_scaled cd__law_scaled ct__law_scaled : Value}
    {od__law_times an__law_times : Option Addr} {sl__law_times : Array (Option Value)} {oc__law_times kV__law_times dc__law_times pm__law_times cd__law_times ct__law_times : Value}
    {od__law_mirror an__law_mirror : Option Addr} {sl__law_mirror : Array (Option Value)} {oc__law_mirror kV__law_mirror dc__law_mirror pm__law_mirror cd__law_mirror ct__law_mirror : Value}
    {od__law_moved an__law_moved : Option Addr} {sl__law_moved : Array (Option Value)} {oc__law_moved kV__law_moved dc__law_moved pm__law_moved cd__law_moved ct__law_moved : Value}
    {od__law_at an__law_at : Option Addr} {sl__law_at : Array (Option Value)} {oc__law_at kV__law_at dc__law_at pm__law_at cd__law_at ct__law_at : Value}
    {od__law_by_unit an__law_by_unit : Option Addr} {sl__law_by_unit : Array (Option Value)} {oc__law_by_unit kV__law_by_unit dc__law_by_unit pm__law_by_unit cd__law_by_unit ct__law_by_unit : Value}
    {od__law_zero an__law_zero : Option Addr} {sl__law_zero : Array (Option Value)} {oc__law_zero kV__law_zero dc__law_zero pm__law_zero cd__law_zero ct__law_zero : Value}
    {od__law_places an__law_places : Option Addr} {sl__law_places : Array (Option Value)} {oc__law_places kV__law_places dc__law_places pm__law_places cd__law_places ct__law_places : Value}
    {od__law_drawn an__law_drawn : Option Addr} {sl__law_drawn : Array (Option Value)} {oc__law_drawn kV__law_drawn dc__law_drawn pm__law_drawn cd__law_drawn ct__law_drawn : Value}
    {od__law_box an__law_box : Option Addr} {sl__law_box : Array (Option Value)} {oc__law_box kV__law_box dc__law_box pm__law_box cd__law_box ct__law_box : Value}
    {od__law_is_error an__law_is_error : Option Addr} {sl__law_is_error : Array (Option Value)} {oc__law_is_error kV__law_is_error dc__law_is_error pm__law_is_error cd__law_is_error ct__law_is_error : Value}
    {od__law_by an__law_by : Option Addr} {sl__law_by : Array (Option Value)} {oc__law_by kV__law_by dc__law_by pm__law_by cd__law_by ct__law_by : Value}
    {od__law_two_rows an__law_two_rows : Option Addr} {sl__law_two_rows : Array (Option Value)} {oc__law_two_rows kV__law_two_rows dc__law_two_rows pm__law_two_rows cd__law_two_rows ct__law_two_rows : Value}
    {od__law_sums an__law_sums : Option Addr} {sl__law_sums : Array (Option Value)} {oc__law_sums kV__law_sums dc__law_sums pm__law_sums cd__law_sums ct__law_sums : Value}
    {od__law_is_mixed an__law_is_mixed : Option Addr} {sl__law_is_mixed : Array (Option Value)} {oc__law_is_mixed kV__law_is_mixed dc__law_is_mixed pm__law_is_mixed cd__law_is_mixed ct__law_is_mixed : Value}
    {od__law_kept an__law_kept : Option Addr} {sl__law_kept : Array (Option Value)} {oc__law_kept kV__law_kept dc__law_kept pm__law_kept cd__law_kept ct__law_kept : Value}
    {od__law_number an__law_number : Option Addr} {sl__law_number : Array (Option Value)} {oc__law_number kV__law_number dc__law_number pm__law_number cd__law_number ct__law_number : Value}
    {od__law_single_asked an__law_single_asked : Option Addr} {sl__law_single_asked : Array (Option Value)} {oc__law_single_asked kV__law_single_asked dc__law_single_asked pm__law_single_asked cd__law_single_asked ct__law_single_asked : Value}
    {od__law_two_asked an__law_two_asked : Option Addr} {sl__law_two_asked : Array (Option Value)} {oc__law_two_asked kV__law_two_asked dc__law_two_asked pm__law_two_asked cd__law_two_asked ct__law_two_asked : Value}
    {od__law_product_asked an__law_product_asked : Option Addr} {sl__law_product_asked : Array (Option Value)} {oc__law_product_asked kV__law_product_asked dc__law_product_asked pm__law_product_asked cd__law_product_asked ct__law_product_asked : Value}
    {od_law an_law : Option Addr} {sl_law : Array (Option Value)} {oc_law kV_law dc_law pm_law cd_law ct_law : Value}
    {od_te an_te : Option Addr} {sl_te : Array (Option Value)} {oc_te kV_te dc_te pm_te cd_te ct_te : Value}
    {nm_M q_M : Str} {N_M : Addr} {bs_M bm_M : List Value} {sn_M : List Str} {sub_M : List Value} {ab_M : Bool} {col_M : Option Bool} {dd_M : Option Addr} {m0_M m1_M m3_M m5_M : Option Value} {tk_M : Tok}
    (z_len : PySem.W.nsIn K mainGlobals "len" = some none)
    (z_int : PySem.W.nsIn K mainGlobals "int" = some none)
    (z_str : PySem.W.nsIn K mainGlobals "str" = some none)
    (z_bool : PySem.W.nsIn K mainGlobals "bool" = some none)
    (z_list : PySem.W.nsIn K mainGlobals "list" = some none)
    (z_tuple : PySem.W.nsIn K mainGlobals "tuple" = some none)
    (z_range : PySem.W.nsIn K mainGlobals "range" = some none)
    (z_enumerate : PySem.W.nsIn K mainGlobals "enumerate" = some none)
    (z_isinstance : PySem.W.nsIn K mainGlobals "isinstance" = some none)
    (z_sorted : PySem.W.nsIn K mainGlobals "sorted" = some none)
    (z_abs : PySem.W.nsIn K mainGlobals "abs" = some none)
    (z_any : PySem.W.nsIn K mainGlobals "any" = some none)
    (z_min : PySem.W.nsIn K mainGlobals "min" = some none)
    (z_max : PySem.W.nsIn K mainGlobals "max" = some none)
    (z_sum : PySem.W.nsIn K mainGlobals "sum" = some none)
    (z_zip : PySem.W.nsIn K mainGlobals "zip" = some none)
    (z_ValueError : PySem.W.nsIn K mainGlobals "ValueError" = some none)
    (a_places_length : PySem.W.nsIn K mainGlobals "places_length" = some (some (.ref f_places_length)))
    (l_places_length : K.lookup f_places_length = some ⟨oc_places_length, od_places_length, .func (PySem.W.fnOf "places_length" "places_length" (C8.fnArgs s_places_length) (C8.fnBody s_places_length) (C8.fnScope s_places_length) .none kV_places_length dc_places_length pm_places_length an_places_length cd_places_length ct_places_length), sl_places_length⟩)
    (co_places_length : PySem.W.codeIn K cd_places_length "places_length" = true)
    (k_places_length : PySem.W.keepIn K (.ref f_places_length) = true)
    (a_same_lengths : PySem.W.nsIn K mainGlobals "same_lengths" = some (some (.ref f_same_lengths)))
    (l_same_lengths : K.lookup f_same_lengths = some ⟨oc_same_lengths, od_same_lengths, .func (PySem.W.fnOf "same_lengths" "same_lengths" (C8.fnArgs s_same_lengths) (C8.fnBody s_same_lengths) (C8.fnScope s_same_lengths) .none kV_same_lengths dc_same_lengths pm_same_lengths an_same_lengths cd_same_lengths ct_same_lengths), sl_same_lengths⟩)
    (co_same_lengths : PySem.W.codeIn K cd_same_lengths "same_lengths" = true)
    (k_same_lengths : PySem.W.keepIn K (.ref f_same_lengths) = true)
    (a_same_dimension : PySem.W.nsIn K mainGlobals "same_dimension" = some (some (.ref f_same_dimension)))
    (l_same_dimension : K.lookup f_same_dimension = some ⟨oc_same_dimension, od_same_dimension, .func (PySem.W.fnOf "same_dimension" "same_dimension" (C8.fnArgs s_same_dimension) (C8.fnBody s_same_dimension) (C8.fnScope s_same_dimension) (.ref TD_same_dimension) kV_same_dimension dc_same_dimension pm_same_dimension an_same_dimension cd_same_dimension ct_same_dimension), sl_same_dimension⟩)
    (lt_same_dimension : K.lookup TD_same_dimension = some ⟨tc_same_dimension, to_same_dimension, .seq #[.ref A0_same_dimension] tn_same_dimension, ts_same_dimension⟩)
    (lu_same_dimension : K.lookup A0_same_dimension = some ⟨.type "tuple", uo_same_dimension, .seq #[] un_same_dimension, us_same_dimension⟩)
    (co_same_dimension : PySem.W.codeIn K cd_same_dimension "same_dimension" = true)
    (k_same_dimension : PySem.W.keepIn K (.ref f_same_dimension) = true)
    (a_row_of : PySem.W.nsIn K mainGlobals "row_of" = some (some (.ref f_row_of)))
    (l_row_of : K.lookup f_row_of = some ⟨oc_row_of, od_row_of, .func (PySem.W.fnOf "row_of" "row_of" (C8.fnArgs s_row_of) (C8.fnBody s_row_of) (C8.fnScope s_row_of) .none kV_row_of dc_row_of pm_row_of an_row_of cd_row_of ct_row_of), sl_row_of⟩)
    (co_row_of : PySem.W.codeIn K cd_row_of "row_of" = true)
    (k_row_of : PySem.W.keepIn K (.ref f_row_of) = true)
    (a_gather : PySem.W.nsIn K mainGlobals "gather" = some (some (.ref f_gather)))
    (l_gather : K.lookup f_gather = some ⟨oc_gather, od_gather, .func (PySem.W.fnOf "gather" "gather" (C8.fnArgs s_gather) (C8.fnBody s_gather) (C8.fnScope s_gather) .none kV_gather dc_gather pm_gather an_gather cd_gather ct_gather), sl_gather⟩)
    (co_gather : PySem.W.codeIn K cd_gather "gather" = true)
    (k_gather : PySem.W.keepIn K (.ref f_gather) = true)
    (a_reach : PySem.W.nsIn K mainGlobals "reach" = some (some (.ref f_reach)))
    (l_reach : K.lookup f_reach = some ⟨oc_reach, od_reach, .func (PySem.W.fnOf "reach" "reach" (C8.fnArgs s_reach) (C8.fnBody s_reach) (C8.fnScope s_reach) .none kV_reach dc_reach pm_reach an_reach cd_reach ct_reach), sl_reach⟩)
    (co_reach : PySem.W.codeIn K cd_reach "reach" = true)
    (k_reach : PySem.W.keepIn K (.ref f_reach) = true)
    (a_key_base : PySem.W.nsIn K mainGlobals "key_base" = some (some (.ref f_key_base)))
    (l_key_base : K.lookup f_key_base = some ⟨oc_key_base, od_key_base, .func (PySem.W.fnOf "key_base" "key_base" (C8.fnArgs s_key_base) (C8.fnBody s_key_base) (C8.fnScope s_key_base) .none kV_key_base dc_key_base pm_key_base an_key_base cd_key_base ct_key_base), sl_key_base⟩)
    (co_key_base : PySem.W.codeIn K cd_key_base "key_base" = true)
    (k_key_base : PySem.W.keepIn K (.ref f_key_base) = true)
    (a_key_of : PySem.W.nsIn K mainGlobals "key_of" = some (some (.ref f_key_of)))
    (l_key_of : K.lookup f_key_of = some ⟨oc_key_of, od_key_of, .func (PySem.W.fnOf "key_of" "key_of" (C8.fnArgs s_key_of) (C8.fnBody s_key_of) (C8.fnScope s_key_of) .none kV_key_of dc_key_of pm_key_of an_key_of cd_key_of ct_key_of), sl_key_of⟩)
    (co_key_of : PySem.W.codeIn K cd_key_of "key_of" = true)
    (k_key_of : PySem.W.keepIn K (.ref f_key_of) = true)
    (a_place_of : PySem.W.nsIn K mainGlobals "place_of" = some (some (.ref f_place_of)))
    (l_place_of : K.lookup f_place_of = some ⟨oc_place_of, od_place_of, .func (PySem.W.fnOf "place_of" "place_of" (C8.fnArgs s_place_of) (C8.fnBody s_place_of) (C8.fnScope s_place_of) .none kV_place_of dc_place_of pm_place_of an_place_of cd_place_of ct_place_of), sl_place_of⟩)
    (co_place_of : PySem.W.codeIn K cd_place_of "place_of" = true)
    (k_place_of : PySem.W.keepIn K (.ref f_place_of) = true)
    (a_keyed : PySem.W.nsIn K mainGlobals "keyed" = some (some (.ref f_keyed)))
    (l_keyed : K.lookup f_keyed = some ⟨oc_keyed, od_keyed, .func (PySem.W.fnOf "keyed" "keyed" (C8.fnArgs s_keyed) (C8.fnBody s_keyed) (C8.fnScope s_keyed) .none kV_keyed dc_keyed pm_keyed an_keyed cd_keyed ct_keyed), sl_keyed⟩)
    (co_keyed : PySem.W.codeIn K cd_keyed "keyed" = true)
    (k_keyed : PySem.W.keepIn K (.ref f_keyed) = true)
    (a_unkeyed : PySem.W.nsIn K mainGlobals "unkeyed" = some (some (.ref f_unkeyed)))
    (l_unkeyed : K.lookup f_unkeyed = some ⟨oc_unkeyed, od_unkeyed, .func (PySem.W.fnOf "unkeyed" "unkeyed" (C8.fnArgs s_unkeyed) (C8.fnBody s_unkeyed) (C8.fnScope s_unkeyed) .none kV_unkeyed dc_unkeyed pm_unkeyed an_unkeyed cd_unkeyed ct_unkeyed), sl_unkeyed⟩)
    (co_unkeyed : PySem.W.codeIn K cd_unkeyed "unkeyed" = true)
    (k_unkeyed : PySem.W.keepIn K (.ref f_unkeyed) = true)
    (a_add : PySem.W.nsIn K mainGlobals "add" = some (some (.ref f_add)))
    (l_add : K.lookup f_add = some ⟨oc_add, od_add, .func (PySem.W.fnOf "add" "add" (C8.fnArgs s_add) (C8.fnBody s_add) (C8.fnScope s_add) .none kV_add dc_add pm_add an_add cd_add ct_add), sl_add⟩)
    (co_add : PySem.W.codeIn K cd_add "add" = true)
    (k_add : PySem.W.keepIn K (.ref f_add) = true)
    (a_multiply : PySem.W.nsIn K mainGlobals "multiply" = some (some (.ref f_multiply)))
    (l_multiply : K.lookup f_multiply = some ⟨oc_multiply, od_multiply, .func (PySem.W.fnOf "multiply" "multiply" (C8.fnArgs s_multiply) (C8.fnBody s_multiply) (C8.fnScope s_multiply) .none kV_multiply dc_multiply pm_multiply an_multiply cd_multiply ct_multiply), sl_multiply⟩)
    (co_multiply : PySem.W.codeIn K cd_multiply "multiply" = true)
    (k_multiply : PySem.W.keepIn K (.ref f_multiply) = true)
    (a_mirror : PySem.W.nsIn K mainGlobals "mirror" = some (some (.ref f_mirror)))
    (l_mirror : K.lookup f_mirror = some ⟨oc_mirror, od_mirror, .func (PySem.W.fnOf "mirror" "mirror" (C8.fnArgs s_mirror) (C8.fnBody s_mirror) (C8.fnScope s_mirror) .none kV_mirror dc_mirror pm_mirror an_mirror cd_mirror ct_mirror), sl_mirror⟩)
    (co_mirror : PySem.W.codeIn K cd_mirror "mirror" = true)
    (k_mirror : PySem.W.keepIn K (.ref f_mirror) = true)
    (a_cross_table : PySem.W.nsIn K mainGlobals "cross_table" = some (some (.ref f_cross_table)))
    (l_cross_table : K.lookup f_cross_table = some ⟨oc_cross_table, od_cross_table, .func (PySem.W.fnOf "cross_table" "cross_table" (C8.fnArgs s_cross_table) (C8.fnBody s_cross_table) (C8.fnScope s_cross_table) .none kV_cross_table dc_cross_table pm_cross_table an_cross_table cd_cross_table ct_cross_table), sl_cross_table⟩)
    (co_cross_table : PySem.W.codeIn K cd_cross_table "cross_table" = true)
    (k_cross_table : PySem.W.keepIn K (.ref f_cross_table) = true)
    (a_own_table : PySem.W.nsIn K mainGlobals "own_table" = some (some (.ref f_own_table)))
    (l_own_table : K.lookup f_own_table = some ⟨oc_own_table, od_own_table, .func (PySem.W.fnOf "own_table" "own_table" (C8.fnArgs s_own_table) (C8.fnBody s_own_table) (C8.fnScope s_own_table) .none kV_own_table dc_own_table pm_own_table an_own_table cd_own_table ct_own_table), sl_own_table⟩)
    (co_own_table : PySem.W.codeIn K cd_own_table "own_table" = true)
    (k_own_table : PySem.W.keepIn K (.ref f_own_table) = true)
    (a_look : PySem.W.nsIn K mainGlobals "look" = some (some (.ref f_look)))
    (l_look : K.lookup f_look = some ⟨oc_look, od_look, .func (PySem.W.fnOf "look" "look" (C8.fnArgs s_look) (C8.fnBody s_look) (C8.fnScope s_look) .none kV_look dc_look pm_look an_look cd_look ct_look), sl_look⟩)
    (co_look : PySem.W.codeIn K cd_look "look" = true)
    (k_look : PySem.W.keepIn K (.ref f_look) = true)
    (a_middle : PySem.W.nsIn K mainGlobals "middle" = some (some (.ref f_middle)))
    (l_middle : K.lookup f_middle = some ⟨oc_middle, od_middle, .func (PySem.W.fnOf "middle" "middle" (C8.fnArgs s_middle) (C8.fnBody s_middle) (C8.fnScope s_middle) .none kV_middle dc_middle pm_middle an_middle cd_middle ct_middle), sl_middle⟩)
    (co_middle : PySem.W.codeIn K cd_middle "middle" = true)
    (k_middle : PySem.W.keepIn K (.ref f_middle) = true)
    (a_total : PySem.W.nsIn K mainGlobals "total" = some (some (.ref f_total)))
    (l_total : K.lookup f_total = some ⟨oc_total, od_total, .func (PySem.W.fnOf "total" "total" (C8.fnArgs s_total) (C8.fnBody s_total) (C8.fnScope s_total) .none kV_total dc_total pm_total an_total cd_total ct_total), sl_total⟩)
    (co_total : PySem.W.codeIn K cd_total "total" = true)
    (k_total : PySem.W.keepIn K (.ref f_total) = true)
    (a__law_cell : PySem.W.nsIn K mainGlobals "_law_cell" = some (some (.ref f__law_cell)))
    (l__law_cell : K.lookup f__law_cell = some ⟨oc__law_cell, od__law_cell, .func (PySem.W.fnOf "_law_cell" "_law_cell" (C8.fnArgs s__law_cell) (C8.fnBody s__law_cell) (C8.fnScope s__law_cell) .none kV__law_cell dc__law_cell pm__law_cell an__law_cell cd__law_cell ct__law_cell), sl__law_cell⟩)
    (co__law_cell : PySem.W.codeIn K cd__law_cell "_law_cell" = true)
    (k__law_cell : PySem.W.keepIn K (.ref f__law_cell) = true)
    (a__law_draws : PySem.W.nsIn K mainGlobals "_law_draws" = some (some (.ref f__law_draws)))
    (l__law_draws : K.lookup f__law_draws = some ⟨oc__law_draws, od__law_draws, .func (PySem.W.fnOf "_law_draws" "_law_draws" (C8.fnArgs s__law_draws) (C8.fnBody s__law_draws) (C8.fnScope s__law_draws) .none kV__law_draws dc__law_draws pm__law_draws an__law_draws cd__law_draws ct__law_draws), sl__law_draws⟩)
    (co__law_draws : PySem.W.codeIn K cd__law_draws "_law_draws" = true)
    (k__law_draws : PySem.W.keepIn K (.ref f__law_draws) = true)
    (a__law_is_integer : PySem.W.nsIn K mainGlobals "_law_is_integer" = some (some (.ref f__law_is_integer)))
    (l__law_is_integer : K.lookup f__law_is_integer = some ⟨oc__law_is_integer, od__law_is_integer, .func (PySem.W.fnOf "_law_is_integer" "_law_is_integer" (C8.fnArgs s__law_is_integer) (C8.fnBody s__law_is_integer) (C8.fnScope s__law_is_integer) .none kV__law_is_integer dc__law_is_integer pm__law_is_integer an__law_is_integer cd__law_is_integer ct__law_is_integer), sl__law_is_integer⟩)
    (co__law_is_integer : PySem.W.codeIn K cd__law_is_integer "_law_is_integer" = true)
    (k__law_is_integer : PySem.W.keepIn K (.ref f__law_is_integer) = true)
    (a__law_is_place : PySem.W.nsIn K mainGlobals "_law_is_place" = some (some (.ref f__law_is_place)))
    (l__law_is_place : K.lookup f__law_is_place = some ⟨oc__law_is_place, od__law_is_place, .func (PySem.W.fnOf "_law_is_place" "_law_is_place" (C8.fnArgs s__law_is_place) (C8.fnBody s__law_is_place) (C8.fnScope s__law_is_place) .none kV__law_is_place dc__law_is_place pm__law_is_place an__law_is_place cd__law_is_place ct__law_is_place), sl__law_is_place⟩)
    (co__law_is_place : PySem.W.codeIn K cd__law_is_place "_law_is_place" = true)
    (k__law_is_place : PySem.W.keepIn K (.ref f__law_is_place) = true)
    (a__law_is_row : PySem.W.nsIn K mainGlobals "_law_is_row" = some (some (.ref f__law_is_row)))
    (l__law_is_row : K.lookup f__law_is_row = some ⟨oc__law_is_row, od__law_is_row, .func (PySem.W.fnOf "_law_is_row" "_law_is_row" (C8.fnArgs s__law_is_row) (C8.fnBody s__law_is_row) (C8.fnScope s__law_is_row) .none kV__law_is_row dc__law_is_row pm__law_is_row an__law_is_row cd__law_is_row ct__law_is_row), sl__law_is_row⟩)
    (co__law_is_row : PySem.W.codeIn K cd__law_is_row "_law_is_row" = true)
    (k__law_is_row : PySem.W.keepIn K (.ref f__law_is_row) = true)
    (a__law_same : PySem.W.nsIn K mainGlobals "_law_same" = some (some (.ref f__law_same)))
    (l__law_same : K.lookup f__law_same = some ⟨oc__law_same, od__law_same, .func (PySem.W.fnOf "_law_same" "_law_same" (C8.fnArgs s__law_same) (C8.fnBody s__law_same) (C8.fnScope s__law_same) .none kV__law_same dc__law_same pm__law_same an__law_same cd__law_same ct__law_same), sl__law_same⟩)
    (co__law_same : PySem.W.codeIn K cd__law_same "_law_same" = true)
    (k__law_same : PySem.W.keepIn K (.ref f__law_same) = true)
    (a__law_plus : PySem.W.nsIn K mainGlobals "_law_plus" = some (some (.ref f__law_plus)))
    (l__law_plus : K.lookup f__law_plus = some ⟨oc__law_plus, od__law_plus, .func (PySem.W.fnOf "_law_plus" "_law_plus" (C8.fnArgs s__law_plus) (C8.fnBody s__law_plus) (C8.fnScope s__law_plus) .none kV__law_plus dc__law_plus pm__law_plus an__law_plus cd__law_plus ct__law_plus), sl__law_plus⟩)
    (co__law_plus : PySem.W.codeIn K cd__law_plus "_law_plus" = true)
    (k__law_plus : PySem.W.keepIn K (.ref f__law_plus) = true)
    (a__law_back : PySem.W.nsIn K mainGlobals "_law_back" = some (some (.ref f__law_back)))
    (l__law_back : K.lookup f__law_back = some ⟨oc__law_back, od__law_back, .func (PySem.W.fnOf "_law_back" "_law_back" (C8.fnArgs s__law_back) (C8.fnBody s__law_back) (C8.fnScope s__law_back) .none kV__law_back dc__law_back pm__law_back an__law_back cd__law_back ct__law_back), sl__law_back⟩)
    (co__law_back : PySem.W.codeIn K cd__law_back "_law_back" = true)
    (k__law_back : PySem.W.keepIn K (.ref f__law_back) = true)
    (a__law_row : PySem.W.nsIn K mainGlobals "_law_row" = some (some (.ref f__law_row)))
    (l__law_row : K.lookup f__law_row = some ⟨oc__law_row, od__law_row, .func (PySem.W.fnOf "_law_row" "_law_row" (C8.fnArgs s__law_row) (C8.fnBody s__law_row) (C8.fnScope s__law_row) .none kV__law_row dc__law_row pm__law_row an__law_row cd__law_row ct__law_row), sl__law_row⟩)
    (co__law_row : PySem.W.codeIn K cd__law_row "_law_row" = true)
    (k__law_row : PySem.W.keepIn K (.ref f__law_row) = true)
    (a__law_add : PySem.W.nsIn K mainGlobals "_law_add" = some (some (.ref f__law_add)))
    (l__law_add : K.lookup f__law_add = some ⟨oc__law_add, od__law_add, .func (PySem.W.fnOf "_law_add" "_law_add" (C8.fnArgs s__law_add) (C8.fnBody s__law_add) (C8.fnScope s__law_add) .none kV__law_add dc__law_add pm__law_add an__law_add cd__law_add ct__law_add), sl__law_add⟩)
    (co__law_add : PySem.W.codeIn K cd__law_add "_law_add" = true)
    (k__law_add : PySem.W.keepIn K (.ref f__law_add) = true)
    (a__law_scaled : PySem.W.nsIn K mainGlobals "_law_scaled" = some (some (.ref f__law_scaled)))
    (l__law_scaled : K.lookup f__law_scaled = some ⟨oc__law_scaled, od__law_scaled, .func (PySem.W.fnOf "_law_scaled" "_law_scaled" (C8.fnArgs s__law_scaled) (C8.fnBody s__law_scaled) (C8.fnScope s__law_scaled) .none kV__law_scaled dc__law_scaled pm__law_scaled an__law_scaled cd__law_scaled ct__law_scaled), sl__law_scaled⟩)
    (co__law_scaled : PySem.W.codeIn K cd__law_scaled "_law_scaled" = true)
    (k__law_scaled : PySem.W.keepIn K (.ref f__law_scaled) = true)
    (a__law_times : PySem.W.nsIn K mainGlobals "_law_times" = some (some (.ref f__law_times)))
    (l__law_times : K.lookup f__law_times = some ⟨oc__law_times, od__law_times, .func (PySem.W.fnOf "_law_times" "_law_times" (C8.fnArgs s__law_times) (C8.fnBody s__law_times) (C8.fnScope s__law_times) .none kV__law_times dc__law_times pm__law_times an__law_times cd__law_times ct__law_times), sl__law_times⟩)
    (co__law_times : PySem.W.codeIn K cd__law_times "_law_times" = true)
    (k__law_times : PySem.W.keepIn K (.ref f__law_times) = true)
    (a__law_mirror : PySem.W.nsIn K mainGlobals "_law_mirror" = some (some (.ref f__law_mirror)))
    (l__law_mirror : K.lookup f__law_mirror = some ⟨oc__law_mirror, od__law_mirror, .func (PySem.W.fnOf "_law_mirror" "_law_mirror" (C8.fnArgs s__law_mirror) (C8.fnBody s__law_mirror) (C8.fnScope s__law_mirror) .none kV__law_mirror dc__law_mirror pm__law_mirror an__law_mirror cd__law_mirror ct__law_mirror), sl__law_mirror⟩)
    (co__law_mirror : PySem.W.codeIn K cd__law_mirror "_law_mirror" = true)
    (k__law_mirror : PySem.W.keepIn K (.ref f__law_mirror) = true)
    (a__law_moved : PySem.W.nsIn K mainGlobals "_law_moved" = some (some (.ref f__law_moved)))
    (l__law_moved : K.lookup f__law_moved = some ⟨oc__law_moved, od__law_moved, .func (PySem.W.fnOf "_law_moved" "_law_moved" (C8.fnArgs s__law_moved) (C8.fnBody s__law_moved) (C8.fnScope s__law_moved) .none kV__law_moved dc__law_moved pm__law_moved an__law_moved cd__law_moved ct__law_moved), sl__law_moved⟩)
    (co__law_moved : PySem.W.codeIn K cd__law_moved "_law_moved" = true)
    (k__law_moved : PySem.W.keepIn K (.ref f__law_moved) = true)
    (a__law_at : PySem.W.nsIn K mainGlobals "_law_at" = some (some (.ref f__law_at)))
    (l__law_at : K.lookup f__law_at = some ⟨oc__law_at, od__law_at, .func (PySem.W.fnOf "_law_at" "_law_at" (C8.fnArgs s__law_at) (C8.fnBody s__law_at) (C8.fnScope s__law_at) .none kV__law_at dc__law_at pm__law_at an__law_at cd__law_at ct__law_at), sl__law_at⟩)
    (co__law_at : PySem.W.codeIn K cd__law_at "_law_at" = true)
    (k__law_at : PySem.W.keepIn K (.ref f__law_at) = true)
    (a__law_by_unit : PySem.W.nsIn K mainGlobals "_law_by_unit" = some (some (.ref f__law_by_unit)))
    (l__law_by_unit : K.lookup f__law_by_unit = some ⟨oc__law_by_unit, od__law_by_unit, .func (PySem.W.fnOf "_law_by_unit" "_law_by_unit" (C8.fnArgs s__law_by_unit) (C8.fnBody s__law_by_unit) (C8.fnScope s__law_by_unit) .none kV__law_by_unit dc__law_by_unit pm__law_by_unit an__law_by_unit cd__law_by_unit ct__law_by_unit), sl__law_by_unit⟩)
    (co__law_by_unit : PySem.W.codeIn K cd__law_by_unit "_law_by_unit" = true)
    (k__law_by_unit : PySem.W.keepIn K (.ref f__law_by_unit) = true)
    (a__law_zero : PySem.W.nsIn K mainGlobals "_law_zero" = some (some (.ref f__law_zero)))
    (l__law_zero : K.lookup f__law_zero = some ⟨oc__law_zero, od__law_zero, .func (PySem.W.fnOf "_law_zero" "_law_zero" (C8.fnArgs s__law_zero) (C8.fnBody s__law_zero) (C8.fnScope s__law_zero) .none kV__law_zero dc__law_zero pm__law_zero an__law_zero cd__law_zero ct__law_zero), sl__law_zero⟩)
    (co__law_zero : PySem.W.codeIn K cd__law_zero "_law_zero" = true)
    (k__law_zero : PySem.W.keepIn K (.ref f__law_zero) = true)
    (a__law_places : PySem.W.nsIn K mainGlobals "_law_places" = some (some (.ref f__law_places)))
    (l__law_places : K.lookup f__law_places = some ⟨oc__law_places, od__law_places, .func (PySem.W.fnOf "_law_places" "_law_places" (C8.fnArgs s__law_places) (C8.fnBody s__law_places) (C8.fnScope s__law_places) .none kV__law_places dc__law_places pm__law_places an__law_places cd__law_places ct__law_places), sl__law_places⟩)
    (co__law_places : PySem.W.codeIn K cd__law_places "_law_places" = true)
    (k__law_places : PySem.W.keepIn K (.ref f__law_places) = true)
    (a__law_drawn : PySem.W.nsIn K mainGlobals "_law_drawn" = some (some (.ref f__law_drawn)))
    (l__law_drawn : K.lookup f__law_drawn = some ⟨oc__law_drawn, od__law_drawn, .func (PySem.W.fnOf "_law_drawn" "_law_drawn" (C8.fnArgs s__law_drawn) (C8.fnBody s__law_drawn) (C8.fnScope s__law_drawn) .none kV__law_drawn dc__law_drawn pm__law_drawn an__law_drawn cd__law_drawn ct__law_drawn), sl__law_drawn⟩)
    (co__law_drawn : PySem.W.codeIn K cd__law_drawn "_law_drawn" = true)
    (k__law_drawn : PySem.W.keepIn K (.ref f__law_drawn) = true)
    (a__law_box : PySem.W.nsIn K mainGlobals "_law_box" = some (some (.ref f__law_box)))
    (l__law_box : K.lookup f__law_box = some ⟨oc__law_box, od__law_box, .func (PySem.W.fnOf "_law_box" "_law_box" (C8.fnArgs s__law_box) (C8.fnBody s__law_box) (C8.fnScope s__law_box) .none kV__law_box dc__law_box pm__law_box an__law_box cd__law_box ct__law_box), sl__law_box⟩)
    (co__law_box : PySem.W.codeIn K cd__law_box "_law_box" = true)
    (k__law_box : PySem.W.keepIn K (.ref f__law_box) = true)
    (a__law_is_error : PySem.W.nsIn K mainGlobals "_law_is_error" = some (some (.ref f__law_is_error)))
    (l__law_is_error : K.lookup f__law_is_error = some ⟨oc__law_is_error, od__law_is_error, .func (PySem.W.fnOf "_law_is_error" "_law_is_error" (C8.fnArgs s__law_is_error) (C8.fnBody s__law_is_error) (C8.fnScope s__law_is_error) .none kV__law_is_error dc__law_is_error pm__law_is_error an__law_is_error cd__law_is_error ct__law_is_error), sl__law_is_error⟩)
    (co__law_is_error : PySem.W.codeIn K cd__law_is_error "_law_is_error" = true)
    (k__law_is_error : PySem.W.keepIn K (.ref f__law_is_error) = true)
    (a__law_by : PySem.W.nsIn K mainGlobals "_law_by" = some (some (.ref f__law_by)))
    (l__law_by : K.lookup f__law_by = some ⟨oc__law_by, od__law_by, .func (PySem.W.fnOf "_law_by" "_law_by" (C8.fnArgs s__law_by) (C8.fnBody s__law_by) (C8.fnScope s__law_by) .none kV__law_by dc__law_by pm__law_by an__law_by cd__law_by ct__law_by), sl__law_by⟩)
    (co__law_by : PySem.W.codeIn K cd__law_by "_law_by" = true)
    (k__law_by : PySem.W.keepIn K (.ref f__law_by) = true)
    (a__law_two_rows : PySem.W.nsIn K mainGlobals "_law_two_rows" = some (some (.ref f__law_two_rows)))
    (l__law_two_rows : K.lookup f__law_two_rows = some ⟨oc__law_two_rows, od__law_two_rows, .func (PySem.W.fnOf "_law_two_rows" "_law_two_rows" (C8.fnArgs s__law_two_rows) (C8.fnBody s__law_two_rows) (C8.fnScope s__law_two_rows) .none kV__law_two_rows dc__law_two_rows pm__law_two_rows an__law_two_rows cd__law_two_rows ct__law_two_rows), sl__law_two_rows⟩)
    (co__law_two_rows : PySem.W.codeIn K cd__law_two_rows "_law_two_rows" = true)
    (k__law_two_rows : PySem.W.keepIn K (.ref f__law_two_rows) = true)
    (a__law_sums : PySem.W.nsIn K mainGlobals "_law_sums" = some (some (.ref f__law_sums)))
    (l__law_sums : K.lookup f__law_sums = some ⟨oc__law_sums, od__law_sums, .func (PySem.W.fnOf "_law_sums" "_law_sums" (C8.fnArgs s__law_sums) (C8.fnBody s__law_sums) (C8.fnScope s__law_sums) .none kV__law_sums dc__law_sums pm__law_sums an__law_sums cd__law_sums ct__law_sums), sl__law_sums⟩)
    (co__law_sums : PySem.W.codeIn K cd__law_sums "_law_sums" = true)
    (k__law_sums : PySem.W.keepIn K (.ref f__law_sums) = true)
    (a__law_is_mixed : PySem.W.nsIn K mainGlobals "_law_is_mixed" = some (some (.ref f__law_is_mixed)))
    (l__law_is_mixed : K.lookup f__law_is_mixed = some ⟨oc__law_is_mixed, od__law_is_mixed, .func (PySem.W.fnOf "_law_is_mixed" "_law_is_mixed" (C8.fnArgs s__law_is_mixed) (C8.fnBody s__law_is_mixed) (C8.fnScope s__law_is_mixed) .none kV__law_is_mixed dc__law_is_mixed pm__law_is_mixed an__law_is_mixed cd__law_is_mixed ct__law_is_mixed), sl__law_is_mixed⟩)
    (co__law_is_mixed : PySem.W.codeIn K cd__law_is_mixed "_law_is_mixed" = true)
    (k__law_is_mixed : PySem.W.keepIn K (.ref f__law_is_mixed) = true)
    (a__law_kept : PySem.W.nsIn K mainGlobals "_law_kept" = some (some (.ref f__law_kept)))
    (l__law_kept : K.lookup f__law_kept = some ⟨oc__law_kept, od__law_kept, .func (PySem.W.fnOf "_law_kept" "_law_kept" (C8.fnArgs s__law_kept) (C8.fnBody s__law_kept) (C8.fnScope s__law_kept) .none kV__law_kept dc__law_kept pm__law_kept an__law_kept cd__law_kept ct__law_kept), sl__law_kept⟩)
    (co__law_kept : PySem.W.codeIn K cd__law_kept "_law_kept" = true)
    (k__law_kept : PySem.W.keepIn K (.ref f__law_kept) = true)
    (a__law_number : PySem.W.nsIn K mainGlobals "_law_number" = some (some (.ref f__law_number)))
    (l__law_number : K.lookup f__law_number = some ⟨oc__law_number, od__law_number, .func (PySem.W.fnOf "_law_number" "_law_number" (C8.fnArgs s__law_number) (C8.fnBody s__law_number) (C8.fnScope s__law_number) .none kV__law_number dc__law_number pm__law_number an__law_number cd__law_number ct__law_number), sl__law_number⟩)
    (co__law_number : PySem.W.codeIn K cd__law_number "_law_number" = true)
    (k__law_number : PySem.W.keepIn K (.ref f__law_number) = true)
    (a__law_single_asked : PySem.W.nsIn K mainGlobals "_law_single_asked" = some (some (.ref f__law_single_asked)))
    (l__law_single_asked : K.lookup f__law_single_asked = some ⟨oc__law_single_asked, od__law_single_asked, .func (PySem.W.fnOf "_law_single_asked" "_law_single_asked" (C8.fnArgs s__law_single_asked) (C8.fnBody s__law_single_asked) (C8.fnScope s__law_single_asked) .none kV__law_single_asked dc__law_single_asked pm__law_single_asked an__law_single_asked cd__law_single_asked ct__law_single_asked), sl__law_single_asked⟩)
    (co__law_single_asked : PySem.W.codeIn K cd__law_single_asked "_law_single_asked" = true)
    (k__law_single_asked : PySem.W.keepIn K (.ref f__law_single_asked) = true)
    (a__law_two_asked : PySem.W.nsIn K mainGlobals "_law_two_asked" = some (some (.ref f__law_two_asked)))
    (l__law_two_asked : K.lookup f__law_two_asked = some ⟨oc__law_two_asked, od__law_two_asked, .func (PySem.W.fnOf "_law_two_asked" "_law_two_asked" (C8.fnArgs s__law_two_asked) (C8.fnBody s__law_two_asked) (C8.fnScope s__law_two_asked) .none kV__law_two_asked dc__law_two_asked pm__law_two_asked an__law_two_asked cd__law_two_asked ct__law_two_asked), sl__law_two_asked⟩)
    (co__law_two_asked : PySem.W.codeIn K cd__law_two_asked "_law_two_asked" = true)
    (k__law_two_asked : PySem.W.keepIn K (.ref f__law_two_asked) = true)
    (a__law_product_asked : PySem.W.nsIn K mainGlobals "_law_product_asked" = some (some (.ref f__law_product_asked)))
    (l__law_product_asked : K.lookup f__law_product_asked = some ⟨oc__law_product_asked, od__law_product_asked, .func (PySem.W.fnOf "_law_product_asked" "_law_product_asked" (C8.fnArgs s__law_product_asked) (C8.fnBody s__law_product_asked) (C8.fnScope s__law_product_asked) .none kV__law_product_asked dc__law_product_asked pm__law_product_asked an__law_product_asked cd__law_product_asked ct__law_product_asked), sl__law_product_asked⟩)
    (co__law_product_asked : PySem.W.codeIn K cd__law_product_asked "_law_product_asked" = true)
    (k__law_product_asked : PySem.W.keepIn K (.ref f__law_product_asked) = true)
    (a_law : PySem.W.nsIn K mainGlobals "law" = some (some (.ref f_law)))
    (l_law : K.lookup f_law = some ⟨oc_law, od_law, .func (PySem.W.fnOf "law" "law" (C8.fnArgs s_law) (C8.fnBody s_law) (C8.fnScope s_law) .none kV_law dc_law pm_law an_law cd_law ct_law), sl_law⟩)
    (co_law : PySem.W.codeIn K cd_law "law" = true)
    (k_law : PySem.W.keepIn K (.ref f_law) = true)
    (a_te : PySem.W.findIn K (.ref B) "__init__" = some (some (.ref f_te)))
    (l_te : K.lookup f_te = some ⟨oc_te, od_te, .func (PySem.W.fnOf "__init__" "TableError.__init__" (C8.fnArgs s_TableError___init__) (C8.fnBody s_TableError___init__) (C8.fnScope s_TableError___init__) .none kV_te dc_te pm_te an_te cd_te ct_te), sl_te⟩)
    (co_te : PySem.W.codeIn K cd_te "TableError.__init__" = true)
    (k_te : PySem.W.keepIn K (.ref f_te) = true)
    (g_B : PySem.W.nsIn K mainGlobals "TableError" = some (some (.ref B)))
    (g_M : PySem.W.nsIn K mainGlobals "MixedDimensions" = some (some (.ref M)))
    (g_Z : PySem.W.nsIn K mainGlobals "ZeroRow" = some (some (.ref Z)))
    (g_O : PySem.W.nsIn K mainGlobals "OneDirectionOnly" = some (some (.ref O)))
    (g_C : PySem.W.nsIn K mainGlobals "BadPlace" = some (some (.ref C)))
    (xl_M : K.lookup M = some (excClassObj nm_M q_M M N_M bs_M bm_M true sn_M sub_M ab_M col_M dd_M m0_M m1_M (some (.str "MixedDimensions" tk_M)) m3_M m5_M "ValueError.__new__"))
    (vb_M : PySem.HandSPX.refsVE bm_M = true)
    (sa_M : PySem.W.findIn K (.ref M) "__setattr__" = some (some (.builtin "object.__setattr__")))
    (ex_M : PySem.W.subIn K (.ref M) (.type "BaseException") = some true)
    (ty_M : PySem.W.typeIn K (.ref M) = some (.type "type"))
    (kc_M : PySem.W.keepIn K (.ref M) = true)
    (ga_M : PySem.W.findIn K (.ref M) "__getattribute__" = some (some (.builtin "BaseException.__getattribute__")))
    (gg_M : PySem.W.findIn K (.ref M) "__getattr__" = some none)
    (hd_M : PySem.W.hasDictIn K M = true)
    (ha_M : PySem.W.findIn K (.ref M) "__class__" = some (some (.builtin "object.__class__")))
    (mr_M : PySem.W.mroIn K M (.type "object") = some true)
    (rd_M : PySem.W.readsIn K M (.type "type") = true)
    (fn_M : PySem.W.findCls K (.ref M) (.type "type") "__name__" = some (.get (.builtin "getset_descriptor.__get__") (.builtin "type.__name__") (.ref M) (.type "type")))
    (nw_M : PySem.W.findIn K (.ref M) "word" = some none)
    (ni_M : PySem.W.findIn K (.ref M) "index" = some none)
    (in_M : PySem.W.findIn K (.ref M) "__init__" = some (some (.ref f_te)))
    (hn : PySem.W.specialIn K (.builtin "object.__class__") "__get__" = some (some (.builtin "getset_descriptor.__get__")))
    (ht : PySem.W.takesIn K (.builtin "object.__class__") = some true)
    (ti_te : PySem.W.typeIn K (.ref f_te) = some (.type "function"))
    (xM : PySem.W.exmOne K (.ref M) (.ref B) = some true)
    (kBM : PySem.W.kitOne K (.ref M) (.ref B) = some true)
    (kVM : PySem.W.kitOne K (.ref M) (.type "ValueError") = some true)
    (k1 : PySem.W.kitOne K (.ref M) (.ref C) = some false)
    (k2 : PySem.W.kitOne K (.ref M) (.ref O) = some false)
    (k3 : PySem.W.kitOne K (.ref M) (.ref Z) = some false)
    (k4 : PySem.W.kitOne K (.ref M) (.ref M) = some true) :
    ∃ fd : FuncData, (∀ (s : Shared) (v : Value), BindsTo s fd ⟨[v], []⟩ [("_law_script", v)]) ∧ ∀ base : Heap, K.In base → base.Ns mainGlobals mg → FnOk l.prog w K mg base L2.CX0 11 fa fd ["_law_script"] (spLaw K) := by
  have e := hfa.symm.trans (PySem.W.mg_of X G a_law)
  cases e
  have T : Bi mg := ⟨PySem.W.mg_none_of X G z_len, PySem.W.mg_none_of X G z_int, PySem.W.mg_none_of X G z_str, PySem.W.mg_none_of X G z_bool, PySem.W.mg_none_of X G z_list, PySem.W.mg_none_of X G z_tuple, PySem.W.mg_none_of X G z_range, PySem.W.mg_none_of X G z_enumerate, PySem.W.mg_none_of X G z_isinstance, PySem.W.mg_none_of X G z_sorted, PySem.W.mg_none_of X G z_abs, PySem.W.mg_none_of X G z_any, PySem.W.mg_none_of X G z_sum, PySem.W.mg_none_of X G z_min, PySem.W.mg_none_of X G z_max, PySem.W.mg_none_of X G z_zip⟩
  have D_places_length : C8.Def K mg "places_length" s_places_length f_places_length _ := ⟨⟨⟨_, _, _, _, _, _, _, _, _, _, rfl, l_places_length, co_places_length⟩⟩, PySem.W.mg_of X G a_places_length, k_places_length⟩
  have b_places_length := D_places_length.fn.binds (ps := ["row"]) rfl fun _ _ _ _ _ _ us hl => match us, hl with | [_], _ => rfl
  have D_same_lengths : C8.Def K mg "same_lengths" s_same_lengths f_same_lengths _ := ⟨⟨⟨_, _, _, _, _, _, _, _, _, _, rfl, l_same_lengths, co_same_lengths⟩⟩, PySem.W.mg_of X G a_same_lengths, k_same_lengths⟩
  have b_same_lengths := D_same_lengths.fn.binds (ps := ["lengths"]) rfl fun _ _ _ _ _ _ us hl => match us, hl with | [_], _ => rfl
  have D_same_dimension : C8.Def K mg "same_dimension" s_same_dimension f_same_dimension _ := ⟨⟨⟨_, _, _, _, _, _, _, _, _, _, rfl, l_same_dimension, co_same_dimension⟩⟩, PySem.W.mg_of X G a_same_dimension, k_same_dimension⟩
  have D_row_of : C8.Def K mg "row_of" s_row_of f_row_of _ := ⟨⟨⟨_, _, _, _, _, _, _, _, _, _, rfl, l_row_of, co_row_of⟩⟩, PySem.W.mg_of X G a_row_of, k_row_of⟩
  have b_row_of := D_row_of.fn.binds (ps := ["numbers"]) rfl fun _ _ _ _ _ _ us hl => match us, hl with | [_], _ => rfl
  have D_gather : C8.Def K mg "gather" s_gather f_gather _ := ⟨⟨⟨_, _, _, _, _, _, _, _, _, _, rfl, l_gather, co_gather⟩⟩, PySem.W.mg_of X G a_gather, k_gather⟩
  have b_gather := D_gather.fn.binds (ps := ["entries"]) rfl fun _ _ _ _ _ _ us hl => match us, hl with | [_], _ => rfl
  have D_reach : C8.Def K mg "reach" s_reach f_reach _ := ⟨⟨⟨_, _, _, _, _, _, _, _, _, _, rfl, l_reach, co_reach⟩⟩, PySem.W.mg_of X G a_reach, k_reach⟩
  have b_reach := D_reach.fn.binds (ps := ["row"]) rfl fun _ _ _ _ _ _ us hl => match us, hl with | [_], _ => rfl
  have D_key_base : C8.Def K mg "key_base" s_key_base f_key_base _ := ⟨⟨⟨_, _, _, _, _, _, _, _, _, _, rfl, l_key_base, co_key_base⟩⟩, PySem.W.mg_of X G a_key_base, k_key_base⟩
  have b_key_base := D_key_base.fn.binds (ps := ["first", "second"]) rfl fun _ _ _ _ _ _ us hl => match us, hl with | [_, _], _ => rfl
  have D_key_of : C8.Def K mg "key_of" s_key_of f_key_of _ := ⟨⟨⟨_, _, _, _, _, _, _, _, _, _, rfl, l_key_of, co_key_of⟩⟩, PySem.W.mg_of X G a_key_of, k_key_of⟩
  have b_key_of := D_key_of.fn.binds (ps := ["place", "base"]) rfl fun _ _ _ _ _ _ us hl => match us, hl with | [_, _], _ => rfl
  have D_place_of : C8.Def K mg "place_of" s_place_of f_place_of _ := ⟨⟨⟨_, _, _, _, _, _, _, _, _, _, rfl, l_place_of, co_place_of⟩⟩, PySem.W.mg_of X G a_place_of, k_place_of⟩
  have b_place_of := D_place_of.fn.binds (ps := ["key", "base", "length"]) rfl fun _ _ _ _ _ _ us hl => match us, hl with | [_, _, _], _ => rfl
  have D_keyed : C8.Def K mg "keyed" s_keyed f_keyed _ := ⟨⟨⟨_, _, _, _, _, _, _, _, _, _, rfl, l_keyed, co_keyed⟩⟩, PySem.W.mg_of X G a_keyed, k_keyed⟩
  have b_keyed := D_keyed.fn.binds (ps := ["row", "base"]) rfl fun _ _ _ _ _ _ us hl => match us, hl with | [_, _], _ => rfl
  have D_unkeyed : C8.Def K mg "unkeyed" s_unkeyed f_unkeyed _ := ⟨⟨⟨_, _, _, _, _, _, _, _, _, _, rfl, l_unkeyed, co_unkeyed⟩⟩, PySem.W.mg_of X G a_unkeyed, k_unkeyed⟩
  have b_unkeyed := D_unkeyed.fn.binds (ps := ["numbers", "base", "length"]) rfl fun _ _ _ _ _ _ us hl => match us, hl with | [_, _, _], _ => rfl
  have D_add : C8.Def K mg "add" s_add f_add _ := ⟨⟨⟨_, _, _, _, _, _, _, _, _, _, rfl, l_add, co_add⟩⟩, PySem.W.mg_of X G a_add, k_add⟩
  have b_add := D_add.fn.binds (ps := ["first", "second"]) rfl fun _ _ _ _ _ _ us hl => match us, hl with | [_, _], _ => rfl
  have D_multiply : C8.Def K mg "multiply" s_multiply f_multiply _ := ⟨⟨⟨_, _, _, _, _, _, _, _, _, _, rfl, l_multiply, co_multiply⟩⟩, PySem.W.mg_of X G a_multiply, k_multiply⟩
  have b_multiply := D_multiply.fn.binds (ps := ["first", "second"]) rfl fun _ _ _ _ _ _ us hl => match us, hl with | [_, _], _ => rfl
  have D_mirror : C8.Def K mg "mirror" s_mirror f_mirror _ := ⟨⟨⟨_, _, _, _, _, _, _, _, _, _, rfl, l_mirror, co_mirror⟩⟩, PySem.W.mg_of X G a_mirror, k_mirror⟩
  have b_mirror := D_mirror.fn.binds (ps := ["row"]) rfl fun _ _ _ _ _ _ us hl => match us, hl with | [_], _ => rfl
  have D_cross_table : C8.Def K mg "cross_table" s_cross_table f_cross_table _ := ⟨⟨⟨_, _, _, _, _, _, _, _, _, _, rfl, l_cross_table, co_cross_table⟩⟩, PySem.W.mg_of X G a_cross_table, k_cross_table⟩
  have b_cross_table := D_cross_table.fn.binds (ps := ["first", "second"]) rfl fun _ _ _ _ _ _ us hl => match us, hl with | [_, _], _ => rfl
  have D_own_table : C8.Def K mg "own_table" s_own_table f_own_table _ := ⟨⟨⟨_, _, _, _, _, _, _, _, _, _, rfl, l_own_table, co_own_table⟩⟩, PySem.W.mg_of X G a_own_table, k_own_table⟩
  have b_own_table := D_own_table.fn.binds (ps := ["row"]) rfl fun _ _ _ _ _ _ us hl => match us, hl with | [_], _ => rfl
  have D_look : C8.Def K mg "look" s_look f_look _ := ⟨⟨⟨_, _, _, _, _, _, _, _, _, _, rfl, l_look, co_look⟩⟩, PySem.W.mg_of X G a_look, k_look⟩
  have b_look := D_look.fn.binds (ps := ["row", "reference"]) rfl fun _ _ _ _ _ _ us hl => match us, hl with | [_, _], _ => rfl
  have D_middle : C8.Def K mg "middle" s_middle f_middle _ := ⟨⟨⟨_, _, _, _, _, _, _, _, _, _, rfl, l_middle, co_middle⟩⟩, PySem.W.mg_of X G a_middle, k_middle⟩
  have b_middle := D_middle.fn.binds (ps := ["row"]) rfl fun _ _ _ _ _ _ us hl => match us, hl with | [_], _ => rfl
  have D_total : C8.Def K mg "total" s_total f_total _ := ⟨⟨⟨_, _, _, _, _, _, _, _, _, _, rfl, l_total, co_total⟩⟩, PySem.W.mg_of X G a_total, k_total⟩
  have b_total := D_total.fn.binds (ps := ["row"]) rfl fun _ _ _ _ _ _ us hl => match us, hl with | [_], _ => rfl
  have D__law_cell : C8.Def K mg "_law_cell" s__law_cell f__law_cell _ := ⟨⟨⟨_, _, _, _, _, _, _, _, _, _, rfl, l__law_cell, co__law_cell⟩⟩, PySem.W.mg_of X G a__law_cell, k__law_cell⟩
  have b__law_cell := D__law_cell.fn.binds (ps := ["_law_script", "_law_k"]) rfl fun _ _ _ _ _ _ us hl => match us, hl with | [_, _], _ => rfl
  have D__law_draws : C8.Def K mg "_law_draws" s__law_draws f__law_draws _ := ⟨⟨⟨_, _, _, _, _, _, _, _, _, _, rfl, l__law_draws, co__law_draws⟩⟩, PySem.W.mg_of X G a__law_draws, k__law_draws⟩
  have b__law_draws := D__law_draws.fn.binds (ps := ["_law_cell_here", "_law_sizes"]) rfl fun _ _ _ _ _ _ us hl => match us, hl with | [_, _], _ => rfl
  have D__law_is_integer : C8.Def K mg "_law_is_integer" s__law_is_integer f__law_is_integer _ := ⟨⟨⟨_, _, _, _, _, _, _, _, _, _, rfl, l__law_is_integer, co__law_is_integer⟩⟩, PySem.W.mg_of X G a__law_is_integer, k__law_is_integer⟩
  have b__law_is_integer := D__law_is_integer.fn.binds (ps := ["_law_actual"]) rfl fun _ _ _ _ _ _ us hl => match us, hl with | [_], _ => rfl
  have D__law_is_place : C8.Def K mg "_law_is_place" s__law_is_place f__law_is_place _ := ⟨⟨⟨_, _, _, _, _, _, _, _, _, _, rfl, l__law_is_place, co__law_is_place⟩⟩, PySem.W.mg_of X G a__law_is_place, k__law_is_place⟩
  have b__law_is_place := D__law_is_place.fn.binds (ps := ["_law_actual"]) rfl fun _ _ _ _ _ _ us hl => match us, hl with | [_], _ => rfl
  have D__law_is_row : C8.Def K mg "_law_is_row" s__law_is_row f__law_is_row _ := ⟨⟨⟨_, _, _, _, _, _, _, _, _, _, rfl, l__law_is_row, co__law_is_row⟩⟩, PySem.W.mg_of X G a__law_is_row, k__law_is_row⟩
  have b__law_is_row := D__law_is_row.fn.binds (ps := ["_law_actual"]) rfl fun _ _ _ _ _ _ us hl => match us, hl with | [_], _ => rfl
  have D__law_same : C8.Def K mg "_law_same" s__law_same f__law_same _ := ⟨⟨⟨_, _, _, _, _, _, _, _, _, _, rfl, l__law_same, co__law_same⟩⟩, PySem.W.mg_of X G a__law_same, k__law_same⟩
  have b__law_same := D__law_same.fn.binds (ps := ["_law_actual", "_law_expected"]) rfl fun _ _ _ _ _ _ us hl => match us, hl with | [_, _], _ => rfl
  have D__law_plus : C8.Def K mg "_law_plus" s__law_plus f__law_plus _ := ⟨⟨⟨_, _, _, _, _, _, _, _, _, _, rfl, l__law_plus, co__law_plus⟩⟩, PySem.W.mg_of X G a__law_plus, k__law_plus⟩
  have b__law_plus := D__law_plus.fn.binds (ps := ["_law_place", "_law_other"]) rfl fun _ _ _ _ _ _ us hl => match us, hl with | [_, _], _ => rfl
  have D__law_back : C8.Def K mg "_law_back" s__law_back f__law_back _ := ⟨⟨⟨_, _, _, _, _, _, _, _, _, _, rfl, l__law_back, co__law_back⟩⟩, PySem.W.mg_of X G a__law_back, k__law_back⟩
  have b__law_back := D__law_back.fn.binds (ps := ["_law_place"]) rfl fun _ _ _ _ _ _ us hl => match us, hl with | [_], _ => rfl
  have D__law_row : C8.Def K mg "_law_row" s__law_row f__law_row _ := ⟨⟨⟨_, _, _, _, _, _, _, _, _, _, rfl, l__law_row, co__law_row⟩⟩, PySem.W.mg_of X G a__law_row, k__law_row⟩
  have b__law_row := D__law_row.fn.binds (ps := ["_law_pairs"]) rfl fun _ _ _ _ _ _ us hl => match us, hl with | [_], _ => rfl
  have D__law_add : C8.Def K mg "_law_add" s__law_add f__law_add _ := ⟨⟨⟨_, _, _, _, _, _, _, _, _, _, rfl, l__law_add, co__law_add⟩⟩, PySem.W.mg_of X G a__law_add, k__law_add⟩
  have b__law_add := D__law_add.fn.binds (ps := ["_law_first", "_law_second"]) rfl fun _ _ _ _ _ _ us hl => match us, hl with | [_, _], _ => rfl
  have D__law_scaled : C8.Def K mg "_law_scaled" s__law_scaled f__law_scaled _ := ⟨⟨⟨_, _, _, _, _, _, _, _, _, _, rfl, l__law_scaled, co__law_scaled⟩⟩, PySem.W.mg_of X G a__law_scaled, k__law_scaled⟩
  have b__law_scaled := D__law_scaled.fn.binds (ps := ["_law_row_here", "_law_factor"]) rfl fun _ _ _ _ _ _ us hl => match us, hl with | [_, _], _ => rfl
  have D__law_times : C8.Def K mg "_law_times" s__law_times f__law_times _ := ⟨⟨⟨_, _, _, _, _, _, _, _, _, _, rfl, l__law_times, co__law_times⟩⟩, PySem.W.mg_of X G a__law_times, k__law_times⟩
  have b__law_times := D__law_times.fn.binds (ps := ["_law_first", "_law_second"]) rfl fun _ _ _ _ _ _ us hl => match us, hl with | [_, _], _ => rfl
  have D__law_mirror : C8.Def K mg "_law_mirror" s__law_mirror f__law_mirror _ := ⟨⟨⟨_, _, _, _, _, _, _, _, _, _, rfl, l__law_mirror, co__law_mirror⟩⟩, PySem.W.mg_of X G a__law_mirror, k__law_mirror⟩
  have b__law_mirror := D__law_mirror.fn.binds (ps := ["_law_row_here"]) rfl fun _ _ _ _ _ _ us hl => match us, hl with | [_], _ => rfl
  have D__law_moved : C8.Def K mg "_law_moved" s__law_moved f__law_moved _ := ⟨⟨⟨_, _, _, _, _, _, _, _, _, _, rfl, l__law_moved, co__law_moved⟩⟩, PySem.W.mg_of X G a__law_moved, k__law_moved⟩
  have b__law_moved := D__law_moved.fn.binds (ps := ["_law_row_here", "_law_by_here"]) rfl fun _ _ _ _ _ _ us hl => match us, hl with | [_, _], _ => rfl
  have D__law_at : C8.Def K mg "_law_at" s__law_at f__law_at _ := ⟨⟨⟨_, _, _, _, _, _, _, _, _, _, rfl, l__law_at, co__law_at⟩⟩, PySem.W.mg_of X G a__law_at, k__law_at⟩
  have b__law_at := D__law_at.fn.binds (ps := ["_law_row_here", "_law_place"]) rfl fun _ _ _ _ _ _ us hl => match us, hl with | [_, _], _ => rfl
  have D__law_by_unit : C8.Def K mg "_law_by_unit" s__law_by_unit f__law_by_unit _ := ⟨⟨⟨_, _, _, _, _, _, _, _, _, _, rfl, l__law_by_unit, co__law_by_unit⟩⟩, PySem.W.mg_of X G a__law_by_unit, k__law_by_unit⟩
  have b__law_by_unit := D__law_by_unit.fn.binds (ps := ["_law_row_here", "_law_sign", "_law_place"]) rfl fun _ _ _ _ _ _ us hl => match us, hl with | [_, _, _], _ => rfl
  have D__law_zero : C8.Def K mg "_law_zero" s__law_zero f__law_zero _ := ⟨⟨⟨_, _, _, _, _, _, _, _, _, _, rfl, l__law_zero, co__law_zero⟩⟩, PySem.W.mg_of X G a__law_zero, k__law_zero⟩
  have b__law_zero := D__law_zero.fn.binds (ps := ["_law_count"]) rfl fun _ _ _ _ _ _ us hl => match us, hl with | [_], _ => rfl
  have D__law_places : C8.Def K mg "_law_places" s__law_places f__law_places _ := ⟨⟨⟨_, _, _, _, _, _, _, _, _, _, rfl, l__law_places, co__law_places⟩⟩, PySem.W.mg_of X G a__law_places, k__law_places⟩
  have b__law_places := D__law_places.fn.binds (ps := ["_law_box_here"]) rfl fun _ _ _ _ _ _ us hl => match us, hl with | [_], _ => rfl
  have D__law_drawn : C8.Def K mg "_law_drawn" s__law_drawn f__law_drawn _ := ⟨⟨⟨_, _, _, _, _, _, _, _, _, _, rfl, l__law_drawn, co__law_drawn⟩⟩, PySem.W.mg_of X G a__law_drawn, k__law_drawn⟩
  have b__law_drawn := D__law_drawn.fn.binds (ps := ["_law_cell_here", "_law_box_here", "_law_reach", "_law_moves"]) rfl fun _ _ _ _ _ _ us hl => match us, hl with | [_, _, _, _], _ => rfl
  have D__law_box : C8.Def K mg "_law_box" s__law_box f__law_box _ := ⟨⟨⟨_, _, _, _, _, _, _, _, _, _, rfl, l__law_box, co__law_box⟩⟩, PySem.W.mg_of X G a__law_box, k__law_box⟩
  have b__law_box := D__law_box.fn.binds (ps := ["_law_kind", "_law_wide"]) rfl fun _ _ _ _ _ _ us hl => match us, hl with | [_, _], _ => rfl
  have D__law_is_error : C8.Def K mg "_law_is_error" s__law_is_error f__law_is_error _ := ⟨⟨⟨_, _, _, _, _, _, _, _, _, _, rfl, l__law_is_error, co__law_is_error⟩⟩, PySem.W.mg_of X G a__law_is_error, k__law_is_error⟩
  have b__law_is_error := D__law_is_error.fn.binds (ps := ["_law_e", "_law_word"]) rfl fun _ _ _ _ _ _ us hl => match us, hl with | [_, _], _ => rfl
  have D__law_by : C8.Def K mg "_law_by" s__law_by f__law_by _ := ⟨⟨⟨_, _, _, _, _, _, _, _, _, _, rfl, l__law_by, co__law_by⟩⟩, PySem.W.mg_of X G a__law_by, k__law_by⟩
  have b__law_by := D__law_by.fn.binds (ps := ["_law_cell_here", "_law_size"]) rfl fun _ _ _ _ _ _ us hl => match us, hl with | [_, _], _ => rfl
  have D__law_two_rows : C8.Def K mg "_law_two_rows" s__law_two_rows f__law_two_rows _ := ⟨⟨⟨_, _, _, _, _, _, _, _, _, _, rfl, l__law_two_rows, co__law_two_rows⟩⟩, PySem.W.mg_of X G a__law_two_rows, k__law_two_rows⟩
  have b__law_two_rows := D__law_two_rows.fn.binds (ps := ["_law_script", "_law_draws_here", "_law_by_here"]) rfl fun _ _ _ _ _ _ us hl => match us, hl with | [_, _, _], _ => rfl
  have D__law_sums : C8.Def K mg "_law_sums" s__law_sums f__law_sums _ := ⟨⟨⟨_, _, _, _, _, _, _, _, _, _, rfl, l__law_sums, co__law_sums⟩⟩, PySem.W.mg_of X G a__law_sums, k__law_sums⟩
  have b__law_sums := D__law_sums.fn.binds (ps := ["_law_first", "_law_second"]) rfl fun _ _ _ _ _ _ us hl => match us, hl with | [_, _], _ => rfl
  have D__law_is_mixed : C8.Def K mg "_law_is_mixed" s__law_is_mixed f__law_is_mixed _ := ⟨⟨⟨_, _, _, _, _, _, _, _, _, _, rfl, l__law_is_mixed, co__law_is_mixed⟩⟩, PySem.W.mg_of X G a__law_is_mixed, k__law_is_mixed⟩
  have b__law_is_mixed := D__law_is_mixed.fn.binds (ps := ["_law_e"]) rfl fun _ _ _ _ _ _ us hl => match us, hl with | [_], _ => rfl
  have D__law_kept : C8.Def K mg "_law_kept" s__law_kept f__law_kept _ := ⟨⟨⟨_, _, _, _, _, _, _, _, _, _, rfl, l__law_kept, co__law_kept⟩⟩, PySem.W.mg_of X G a__law_kept, k__law_kept⟩
  have b__law_kept := D__law_kept.fn.binds (ps := ["_law_actual", "_law_expected", "_law_handed", "_law_rows"]) rfl fun _ _ _ _ _ _ us hl => match us, hl with | [_, _, _, _], _ => rfl
  have D__law_number : C8.Def K mg "_law_number" s__law_number f__law_number _ := ⟨⟨⟨_, _, _, _, _, _, _, _, _, _, rfl, l__law_number, co__law_number⟩⟩, PySem.W.mg_of X G a__law_number, k__law_number⟩
  have b__law_number := D__law_number.fn.binds (ps := ["_law_actual", "_law_expected"]) rfl fun _ _ _ _ _ _ us hl => match us, hl with | [_, _], _ => rfl
  have D__law_single_asked : C8.Def K mg "_law_single_asked" s__law_single_asked f__law_single_asked _ := ⟨⟨⟨_, _, _, _, _, _, _, _, _, _, rfl, l__law_single_asked, co__law_single_asked⟩⟩, PySem.W.mg_of X G a__law_single_asked, k__law_single_asked⟩
  have b__law_single_asked := D__law_single_asked.fn.binds (ps := ["_law_row_here", "_law_sign", "_law_by_here"]) rfl fun _ _ _ _ _ _ us hl => match us, hl with | [_, _, _], _ => rfl
  have D__law_two_asked : C8.Def K mg "_law_two_asked" s__law_two_asked f__law_two_asked _ := ⟨⟨⟨_, _, _, _, _, _, _, _, _, _, rfl, l__law_two_asked, co__law_two_asked⟩⟩, PySem.W.mg_of X G a__law_two_asked, k__law_two_asked⟩
  have b__law_two_asked := D__law_two_asked.fn.binds (ps := ["_law_first", "_law_second", "_law_which"]) rfl fun _ _ _ _ _ _ us hl => match us, hl with | [_, _, _], _ => rfl
  have D__law_product_asked : C8.Def K mg "_law_product_asked" s__law_product_asked f__law_product_asked _ := ⟨⟨⟨_, _, _, _, _, _, _, _, _, _, rfl, l__law_product_asked, co__law_product_asked⟩⟩, PySem.W.mg_of X G a__law_product_asked, k__law_product_asked⟩
  have b__law_product_asked := D__law_product_asked.fn.binds (ps := ["_law_first", "_law_second"]) rfl fun _ _ _ _ _ _ us hl => match us, hl with | [_, _], _ => rfl
  have D_law : C8.Def K mg "law" s_law fa _ := ⟨⟨⟨_, _, _, _, _, _, _, _, _, _, rfl, l_law, co_law⟩⟩, hfa, k_law⟩
  have b_law := D_law.fn.binds (ps := ["_law_script"]) rfl fun _ _ _ _ _ _ us hl => match us, hl with | [_], _ => rfl
  have D_te : C8.Fun K "__init__" "TableError.__init__" s_TableError___init__ f_te _ := ⟨⟨_, _, _, _, _, _, _, _, _, _, rfl, l_te, co_te⟩⟩
  have b_te := D_te.binds (ps := ["self"]) rfl fun _ _ _ _ _ _ us hl => match us, hl with | [_], _ => rfl
  have oc_M : PySem.W.OtCls K M := ⟨ga_M, gg_M, ex_M, hd_M, ha_M, hn, ht, mr_M⟩
  have er_M : OtErr K M "MixedDimensions" := ⟨⟨⟨_, _, _, _, _, _, _, _, _, _, _, _, _, _, _, xl_M, vb_M⟩, sa_M, ex_M, ty_M, kc_M⟩, oc_M, ⟨⟨_, _, _, _, _, xl_M, rfl⟩, rd_M, ty_M, fn_M⟩, nw_M, ni_M⟩
  have ei_M : ErrI K mg "MixedDimensions" M f_te := ⟨PySem.W.mg_of X G g_M, er_M, in_M, ti_te⟩
  refine ⟨PySem.W.fnOf "law" "law" (C8.fnArgs s_law) (C8.fnBody s_law) (C8.fnScope s_law) .none kV_law dc_law pm_law an_law cd_law ct_law, fun s v => .of_eq rfl, fun base _ _ => ?_⟩
  have FD : FunD K "same_dimension" "same_dimension" (C8.fnArgs s_same_dimension) (C8.fnBody s_same_dimension) (C8.fnScope s_same_dimension) [V.ref A0_same_dimension] [] f_same_dimension _ := ⟨⟨_, _, _, _, _, _, _, _, _, _, rfl, l_same_dimension, co_same_dimension, .inr ⟨by simp, TD_same_dimension, _, [.ref A0_same_dimension], _, rfl, lt_same_dimension, rfl, .cons rfl .nil⟩, .inl rfl⟩, k_same_dimension⟩
  obtain ⟨ds1, vd1, bD1⟩ := FD.binds1 (ps := ["rows", "places"]) 1 0 (by simp) rfl fun T kV doc pm an cdv ct us its h1 h2 => match us, its, h1, h2 with | [_], [_], _, _ => ⟨_, rfl, rfl⟩
  obtain ⟨ds2, vd2, bD2⟩ := FD.binds1 (ps := ["rows", "places"]) 2 1 (by simp) rfl fun T kV doc pm an cdv ct us its h1 h2 => match us, its, h1, h2 with | [_, _], [_], _, _ => ⟨_, rfl, rfl⟩
  have e2 : ds2 = [] := by cases vd2; rfl
  subst e2
  have hA0 : ∀ H, SqT K H A0_same_dimension [] := fun H => .inr (⟨_, _, _, lu_same_dimension, rfl, rfl, Nat.zero_le _, .nil⟩)
  have GT : FnOk l.prog w K mg base L2.CX0 1 f_te _ ["self"] (spTE K) := ok_te D_te
  have gB := PySem.W.mg_of X G g_B
  have gZ := PySem.W.mg_of X G g_Z
  have gM := PySem.W.mg_of X G g_M
  have gO := PySem.W.mg_of X G g_O
  have gC := PySem.W.mg_of X G g_C
  have c1 := c__law_cell (P := l.prog) (w := w) (base := base) D__law_cell b__law_cell T
  have c2 : C8.Cal l.prog w K mg base 1 "_law_draws" (spDraws K) [] := c__law_draws D__law_draws b__law_draws T
  have c3 := c__law_is_integer (P := l.prog) (w := w) (base := base) D__law_is_integer b__law_is_integer T
  have c4 := c__law_is_place D__law_is_place b__law_is_place T c3
  have c5 := c__law_is_row D__law_is_row b__law_is_row T c4 c3
  have c6 := c__law_same D__law_same b__law_same T c5
  have c7 := c__law_back (P := l.prog) (w := w) (base := base) D__law_back b__law_back T
  have c8 := c__law_row (P := l.prog) (w := w) (base := base) D__law_row b__law_row T
  have c9 := c__law_plus (P := l.prog) (w := w) (base := base) D__law_plus b__law_plus T
  have c10 := c__law_places (P := l.prog) (w := w) (base := base) D__law_places b__law_places T
  have c11 := c__law_box (P := l.prog) (w := w) (base := base) D__law_box b__law_box T
  have c12 := c__law_moved D__law_moved b__law_moved T c9
  have c13 := c__law_drawn D__law_drawn b__law_drawn T c10 c2 c8 c12
  have c14 := c__law_add D__law_add b__law_add T c8
  have c15 := c__law_scaled D__law_scaled b__law_scaled T c8
  have c17 := c__law_mirror D__law_mirror b__law_mirror T c8 c7
  have c18 := c__law_by D__law_by b__law_by T c2
  have c24 := c__law_at (P := l.prog) (w := w) (base := base) D__law_at b__law_at T
  have c25 := c__law_times D__law_times b__law_times T c9 c8
  have c26 := c__law_kept D__law_kept b__law_kept T c6
  have c27 := c__law_zero (P := l.prog) (w := w) (base := base) D__law_zero b__law_zero T
  have c28 := c__law_number D__law_number b__law_number T c3
  have c29 := c__law_by_unit D__law_by_unit b__law_by_unit T c15 c12
  have c30 := c__law_sums D__law_sums b__law_sums T c9 c7 c8
  have c31 := c__law_two_rows D__law_two_rows b__law_two_rows T c1 c11 c13 c15 c29 c17
  have d3 := c_places_length (P := l.prog) (w := w) (base := base) D_places_length b_places_length T
  have d4 := c_mirror (P := l.prog) (w := w) (base := base) D_mirror b_mirror T
  have d5 := c_row_of (P := l.prog) (w := w) (base := base) D_row_of b_row_of T
  have d6 := c_gather D_gather b_gather T d5
  have d7 := c_reach (P := l.prog) (w := w) (base := base) D_reach b_reach T
  have d8 := c_key_base D_key_base b_key_base T d7
  have d9 := c_key_of (P := l.prog) (w := w) (base := base) D_key_of b_key_of T
  have d10 := c_place_of (P := l.prog) (w := w) (base := base) D_place_of b_place_of T
  have d11 := c_keyed D_keyed b_keyed T d9
  have d12 := c_unkeyed D_unkeyed b_unkeyed T d10
  have GS := ok_same_lengths D_same_lengths T ei_M GT b_te
  have GDT := ok_same_dimensionT D_same_dimension T D_same_lengths b_same_lengths GS d3
  have GAd := ok_add D_add T D_same_dimension bD1 vd1 hA0 GDT d6
  have GMu := ok_multiply D_multiply T D_same_dimension bD1 vd1 hA0 GDT d8 d11 d12 d3
  have GCr := ok_cross_table D_cross_table T D_multiply b_multiply GMu d4
  have GOw := ok_own_table D_own_table T D_cross_table b_cross_table GCr
  have GLo := ok_look D_look T D_own_table b_own_table GOw D_add b_add GAd
  have d15 := quietC D_own_table b_own_table .nil GOw (sp := spOw K) (fun _ _ _ _ h => h)
  have d16 := quietC D_look b_look .nil GLo lookQ
  have d17 := c_middle (P := l.prog) (w := w) (base := base) D_middle b_middle T
  have d18 := c_total (P := l.prog) (w := w) (base := base) D_total b_total T
  have h1 := h__law_is_error (P := l.prog) (w := w) (base := base) D__law_is_error T gB (PySem.W.mg_none_of X G z_ValueError)
  have h2 := h__law_is_mixed D__law_is_mixed T er_M ⟨kBM, kVM⟩ gC gM gO gZ ⟨k1, k2, k3, k4⟩ D__law_is_error b__law_is_error h1
  have c40 := c__law_single_asked D__law_single_asked b__law_single_asked T c30 c24 c27 c26 d15 c17 c28 d17 d18 c15 c29 c7 c6 d16
  have c41 := c__law_two_asked D__law_two_asked b__law_two_asked T gB er_M xM D_cross_table b_cross_table GCr D_look b_look GLo D__law_is_mixed b__law_is_mixed h2 c26 c14 c30 c17
  have c42 := c__law_product_asked D__law_product_asked b__law_product_asked T c25 c30 c6 d15
  exact c_law D_law b_law T c1 c2 c18 c31 c40 c41 c42
theorem walk {l : PySem.W.OpenLaw} {q : Program} {loose : List Str} {XP : (Str → Option Value) → Heap → Prop} {YP : World → Heap → Prop} {d : DefRec} {K : Params → PySem.W.Frag} (hn : l.most = some 63) (hdf : d.params.defaults = [])
    (hY : ∀ (w : World) (h : Heap), YP w h → (K w.params).In h)
    (F : ∀ (w : World) (mg : Str → Option Value) (fa : Addr) (h : Heap), (K w.params).In h → h.Ns mainGlobals mg → mg d.name = some (.ref fa) →
      ∃ fd : FuncData, (∀ (s : Shared) (u : Value), BindsTo s fd ⟨[u], []⟩ [("_law_script", u)]) ∧ ∀ base : Heap, (K w.params).In base → base.Ns mainGlobals mg → FnOk l.prog w (K w.params) mg base L2.CX0 11 fa fd ["_law_script"] (spLaw (K w.params))) :
    PySem.W.WalkO q loose XP YP l.row.toRowW d [] (fun f vs => PySem.call f vs) :=
  L2.walk_ofK (n := 63) (k := 11) (x := "_law_script") (CX := L2.CX0) (sp := spLaw) hn (by decide) hdf ⟨rfl, by decide, by decide⟩ hY F (fun _ _ a ns hl _ hS => ⟨a, ns, rfl, hS, hl, fun _ => rfl⟩) fun _ _ _ _ z => z
end OT
open PySem PySem.W PyProof.Rows
set_option maxRecDepth 100000 in
set_option maxHeartbeats 0 in
theorem PySem.Challenge.cw_owntables_k15_whole_own_tables_holds : PySem.Challenge.rw_owntables_k15_whole_own_tables.Holds := by
  w_on; o_law; k_head; (case hw => w_witness2)
  k_fill
  refine OT.walk (l := PySem.Challenge.rw_owntables_k15_whole_own_tables) rfl rfl (fun w h Y => PySem.W.kIn_of Y) ?F
  case F =>
    intro w mg fa h KX G hmg
    refine' OT.all_mk KX G hmg ?z_len ?z_int ?z_str ?z_bool ?z_list ?z_tuple ?z_range ?z_enumerate ?z_isinstance ?z_sorted ?z_abs ?z_any ?z_min ?z_max ?z_sum ?z_zip ?z_ValueError ?a_places_length ?l_places_length ?co_places_length ?k_places_length ?a_same_lengths ?l_same_lengths ?co_same_lengths ?k_same_lengths ?a_same_dimension ?l_same_dimension ?lt_same_dimension ?lu_same_dimension ?co_same_dimension ?k_same_dimension ?a_row_of ?l_row_of ?co_row_of ?k_row_of ?a_gather ?l_gather ?co_gather ?k_gather ?a_reach ?l_reach ?co_reach ?k_reach ?a_key_base ?l_key_base ?co_key_base ?k_key_base ?a_key_of ?l_key_of ?co_key_of ?k_key_of ?a_place_of ?l_place_of ?co_place_of ?k_place_of ?a_keyed ?l_keyed ?co_keyed ?k_keyed ?a_unkeyed ?l_unkeyed ?co_unkeyed ?k_unkeyed ?a_add ?l_add ?co_add ?k_add ?a_multiply ?l_multiply ?co_multiply ?k_multiply ?a_mirror ?l_mirror ?co_mirror ?k_mirror ?a_cross_table ?l_cross_table ?co_cross_table ?k_cross_table ?a_own_table ?l_own_table ?co_own_table ?k_own_table ?a_look ?l_look ?co_look ?k_look ?a_middle ?l_middle ?co_middle ?k_middle ?a_total ?l_total ?co_total ?k_total ?a__law_cell ?l__law_cell ?co__law_cell ?k__law_cell ?a__law_draws ?l__law_draws ?co__law_draws ?k__law_draws ?a__law_is_integer ?l__law_is_integer ?co__law_is_integer ?k__law_is_integer ?a__law_is_place ?l__law_is_place ?co__law_is_place ?k__law_is_place ?a__law_is_row ?l__law_is_row ?co__law_is_row ?k__law_is_row ?a__law_same ?l__law_same ?co__law_same ?k__law_same ?a__law_plus ?l__law_plus ?co__law_plus ?k__law_plus ?a__law_back ?l__law_back ?co__law_back ?k__law_back ?a__law_row ?l__law_row ?co__law_row ?k__law_row ?a__law_add ?l__law_add ?co__law_add ?k__law_add ?a__law_scaled ?l__law_scaled ?co__law_scaled ?k__law_scaled ?a__law_times ?l__law_times ?co__law_times ?k__law_times ?a__law_mirror ?l__law_mirror ?co__law_mirror ?k__law_mirror ?a__law_moved ?l__law_moved ?co__law_moved ?k__law_moved ?a__law_at ?l__law_at ?co__law_at ?k__law_at ?a__law_by_unit ?l__law_by_unit ?co__law_by_unit ?k__law_by_unit ?a__law_zero ?l__law_zero ?co__law_zero ?k__law_zero ?a__law_places ?l__law_places ?co__law_places ?k__law_places ?a__law_drawn ?l__law_drawn ?co__law_drawn ?k__law_drawn ?a__law_box ?l__law_box ?co__law_box ?k__law_box ?a__law_is_error ?l__law_is_error ?co__law_is_error ?k__law_is_error ?a__law_by ?l__law_by ?co__law_by ?k__law_by ?a__law_two_rows ?l__law_two_rows ?co__law_two_rows ?k__law_two_rows ?a__law_sums ?l__law_sums ?co__law_sums ?k__law_sums ?a__law_is_mixed ?l__law_is_mixed ?co__law_is_mixed ?k__law_is_mixed ?a__law_kept ?l__law_kept ?co__law_kept ?k__law_kept ?a__law_number ?l__law_number ?co__law_number ?k__law_number ?a__law_single_asked ?l__law_single_asked ?co__law_single_asked ?k__law_single_asked ?a__law_two_asked ?l__law_two_asked ?co__law_two_asked ?k__law_two_asked ?a__law_product_asked ?l__law_product_asked ?co__law_product_asked ?k__law_product_asked ?a_law ?l_law ?co_law ?k_law ?a_te ?l_te ?co_te ?k_te ?g_B ?g_M ?g_Z ?g_O ?g_C ?xl_M ?vb_M ?sa_M ?ex_M ?ty_M ?kc_M ?ga_M ?gg_M ?hd_M ?ha_M ?mr_M ?rd_M ?fn_M ?nw_M ?ni_M ?in_M ?hn ?ht ?ti_te ?xM ?kBM ?kVM ?k1 ?k2 ?k3 ?k4
    (case g_B => k_is)
    (case g_M => k_is)
    (case g_Z => k_is)
    (case g_O => k_is)
    (case g_C => k_is)
    (case a_places_length => k_is)
    (case a_same_lengths => k_is)
    (case a_same_dimension => k_is)
    (case a_row_of => k_is)
    (case a_gather => k_is)
    (case a_reach => k_is)
    (case a_key_base => k_is)
    (case a_key_of => k_is)
    (case a_place_of => k_is)
    (case a_keyed => k_is)
    (case a_unkeyed => k_is)
    (case a_add => k_is)
    (case a_multiply => k_is)
    (case a_mirror => k_is)
    (case a_cross_table => k_is)
    (case a_own_table => k_is)
    (case a_look => k_is)
    (case a_middle => k_is)
    (case a_total => k_is)
    (case a__law_cell => k_is)
    (case a__law_draws => k_is)
    (case a__law_is_integer => k_is)
    (case a__law_is_place => k_is)
    (case a__law_is_row => k_is)
    (case a__law_same => k_is)
    (case a__law_plus => k_is)
    (case a__law_back => k_is)
    (case a__law_row => k_is)
    (case a__law_add => k_is)
    (case a__law_scaled => k_is)
    (case a__law_times => k_is)
    (case a__law_mirror => k_is)
    (case a__law_moved => k_is)
    (case a__law_at => k_is)
    (case a__law_by_unit => k_is)
    (case a__law_zero => k_is)
    (case a__law_places => k_is)
    (case a__law_drawn => k_is)
    (case a__law_box => k_is)
    (case a__law_is_error => k_is)
    (case a__law_by => k_is)
    (case a__law_two_rows => k_is)
    (case a__law_sums => k_is)
    (case a__law_is_mixed => k_is)
    (case a__law_kept => k_is)
    (case a__law_number => k_is)
    (case a__law_single_asked => k_is)
    (case a__law_two_asked => k_is)
    (case a__law_product_asked => k_is)
    (case a_law => k_is)
    (case a_te => k_is)
    (case xl_M => k_is)
    (case in_M => k_is)
    (case z_len => k_is)
    (case z_int => k_is)
    (case z_str => k_is)
    (case z_bool => k_is)
    (case z_list => k_is)
    (case z_tuple => k_is)
    (case z_range => k_is)
    (case z_enumerate => k_is)
    (case z_isinstance => k_is)
    (case z_sorted => k_is)
    (case z_abs => k_is)
    (case z_any => k_is)
    (case z_min => k_is)
    (case z_max => k_is)
    (case z_sum => k_is)
    (case z_zip => k_is)
    (case z_ValueError => k_is)
    (case l_places_length => k_is)
    (case co_places_length => k_is)
    (case k_places_length => k_is)
    (case l_same_lengths => k_is)
    (case co_same_lengths => k_is)
    (case k_same_lengths => k_is)
    (case l_same_dimension => k_is)
    (case lt_same_dimension => first | rfl | k_is)
    (case lu_same_dimension => first | rfl | k_is)
    (case co_same_dimension => k_is)
    (case k_same_dimension => k_is)
    (case l_row_of => k_is)
    (case co_row_of => k_is)
    (case k_row_of => k_is)
    (case l_gather => k_is)
    (case co_gather => k_is)
    (case k_gather => k_is)
    (case l_reach => k_is)
    (case co_reach => k_is)
    (case k_reach => k_is)
    (case l_key_base => k_is)
    (case co_key_base => k_is)
    (case k_key_base => k_is)
    (case l_key_of => k_is)
    (case co_key_of => k_is)
    (case k_key_of => k_is)
    (case l_place_of => k_is)
    (case co_place_of => k_is)
    (case k_place_of => k_is)
    (case l_keyed => k_is)
    (case co_keyed => k_is)
    (case k_keyed => k_is)
    (case l_unkeyed => k_is)
    (case co_unkeyed => k_is)
    (case k_unkeyed => k_is)
    (case l_add => k_is)
    (case co_add => k_is)
    (case k_add => k_is)
    (case l_multiply => k_is)
    (case co_multiply => k_is)
    (case k_multiply => k_is)
    (case l_mirror => k_is)
    (case co_mirror => k_is)
    (case k_mirror => k_is)
    (case l_cross_table => k_is)
    (case co_cross_table => k_is)
    (case k_cross_table => k_is)
    (case l_own_table => k_is)
    (case co_own_table => k_is)
    (case k_own_table => k_is)
    (case l_look => k_is)
    (case co_look => k_is)
    (case k_look => k_is)
    (case l_middle => k_is)
    (case co_middle => k_is)
    (case k_middle => k_is)
    (case l_total => k_is)
    (case co_total => k_is)
    (case k_total => k_is)
    (case l__law_cell => k_is)
    (case co__law_cell => k_is)
    (case k__law_cell => k_is)
    (case l__law_draws => k_is)
    (case co__law_draws => k_is)
    (case k__law_draws => k_is)
    (case l__law_is_integer => k_is)
    (case co__law_is_integer => k_is)
    (case k__law_is_integer => k_is)
    (case l__law_is_place => k_is)
    (case co__law_is_place => k_is)
    (case k__law_is_place => k_is)
    (case l__law_is_row => k_is)
    (case co__law_is_row => k_is)
    (case k__law_is_row => k_is)
    (case l__law_same => k_is)
    (case co__law_same => k_is)
    (case k__law_same => k_is)
    (case l__law_plus => k_is)
    (case co__law_plus => k_is)
    (case k__law_plus => k_is)
    (case l__law_back => k_is)
    (case co__law_back => k_is)
    (case k__law_back => k_is)
    (case l__law_row => k_is)
    (case co__law_row => k_is)
    (case k__law_row => k_is)
    (case l__law_add => k_is)
    (case co__law_add => k_is)
    (case k__law_add => k_is)
    (case l__law_scaled => k_is)
    (case co__law_scaled => k_is)
    (case k__law_scaled => k_is)
    (case l__law_times => k_is)
    (case co__law_times => k_is)
    (case k__law_times => k_is)
    (case l__law_mirror => k_is)
    (case co__law_mirror => k_is)
    (case k__law_mirror => k_is)
    (case l__law_moved => k_is)
    (case co__law_moved => k_is)
    (case k__law_moved => k_is)
    (case l__law_at => k_is)
    (case co__law_at => k_is)
    (case k__law_at => k_is)
    (case l__law_by_unit => k_is)
    (case co__law_by_unit => k_is)
    (case k__law_by_unit => k_is)
    (case l__law_zero => k_is)
    (case co__law_zero => k_is)
    (case k__law_zero => k_is)
    (case l__law_places => k_is)
    (case co__law_places => k_is)
    (case k__law_places => k_is)
    (case l__law_drawn => k_is)
    (case co__law_drawn => k_is)
    (case k__law_drawn => k_is)
    (case l__law_box => k_is)
    (case co__law_box => k_is)
    (case k__law_box => k_is)
    (case l__law_is_error => k_is)
    (case co__law_is_error => k_is)
    (case k__law_is_error => k_is)
    (case l__law_by => k_is)
    (case co__law_by => k_is)
    (case k__law_by => k_is)
    (case l__law_two_rows => k_is)
    (case co__law_two_rows => k_is)
    (case k__law_two_rows => k_is)
    (case l__law_sums => k_is)
    (case co__law_sums => k_is)
    (case k__law_sums => k_is)
    (case l__law_is_mixed => k_is)
    (case co__law_is_mixed => k_is)
    (case k__law_is_mixed => k_is)
    (case l__law_kept => k_is)
    (case co__law_kept => k_is)
    (case k__law_kept => k_is)
    (case l__law_number => k_is)
    (case co__law_number => k_is)
    (case k__law_number => k_is)
    (case l__law_single_asked => k_is)
    (case co__law_single_asked => k_is)
    (case k__law_single_asked => k_is)
    (case l__law_two_asked => k_is)
    (case co__law_two_asked => k_is)
    (case k__law_two_asked => k_is)
    (case l__law_product_asked => k_is)
    (case co__law_product_asked => k_is)
    (case k__law_product_asked => k_is)
    (case l_law => k_is)
    (case co_law => k_is)
    (case k_law => k_is)
    (case l_te => k_is)
    (case co_te => k_is)
    (case k_te => k_is)
    (case vb_M => decide +kernel)
    (case sa_M => k_is)
    (case ex_M => k_is)
    (case ty_M => k_is)
    (case kc_M => k_is)
    (case ga_M => k_is)
    (case gg_M => k_is)
    (case hd_M => k_is)
    (case ha_M => k_is)
    (case mr_M => k_is)
    (case rd_M => k_is)
    (case fn_M => k_is)
    (case nw_M => k_is)
    (case ni_M => k_is)
    (case hn => k_is)
    (case ht => k_is)
    (case ti_te => k_is)
    (case xM => first | rfl | k_is)
    (case kBM => first | rfl | k_is)
    (case kVM => first | rfl | k_is)
    (case k1 => first | rfl | k_is)
    (case k2 => first | rfl | k_is)
    (case k3 => first | rfl | k_is)
    (case k4 => first | rfl | k_is)

