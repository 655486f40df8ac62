import PyProof.Rows.All
import Wide.All
import OpenK.AllK
import Wide.FinOn
import KE.KStateDown
import HandS.ForExc
import HandS.More
import HandS.Defaults
import HandS.Head0
import KE.HD3
import HandS.Head1
import HandS.Head2
import HandS.HeadEnd
import HandS.HeadHook1
import HandS.HeadHook2
import HandS.HeadWalk
import HandS.HeadNt
import HandS.Property
import HandS.Gcd
import HandS.Wide
import HandS.MakeKw
import HandS.Comp
import HandS.Text
import HandS.FStr
import HandS.StrMore
import HandS.Flow
import HandS.IsInst
import HandS.EndBits
import HandS.RaiseMore
import HandS.SlotsOwn
import HandS.OwnEq
import HandS.ClsMeth
import HandS.CallRecv
import HandS.MakeKwOnly
import HandS.TupLe
import KE.KCallOwn
import KE.KOpsOwn
import HandS.ExcInit
import HandS.ExcField
import HandS.ExcOwn
import HandS.ExcIs
import HandS.TryMany
import KE.KExcIs
import HandS.HotCalls
import HandS.Iter
import HandS.Codes
import KE.IntTextLaws
import PyProof.Rows.ReprOcc
import PyProof.Rows.SortStrRead
import HandS.NoneIn
import HandS.Walk
import HandS.ExcCtx
import HandS.ExcInitHot
import KE.KTryMore
import HandS.Lambda
import HandS.EndTab
import HandS.HeadHook4
import HandS.NestedK
import KE.KExcInit
import HandS.ExcValue
import HandS.Style
import PySem.Challenge.RW_delaynets_k04_numbers_refused
set_option Elab.async false
set_option linter.all false
set_option maxRecDepth 100000
set_option maxHeartbeats 0
/-! A head's facts by names: every fact a test of the written part, every def by its own path. -/
namespace Hk
open PySem PySem.Spec PyProof.Rows L2
abbrev Fr := PySem.W.Frag
abbrev Tst := Fr → Bool
/-- a def of the text: the path to its function object, its text, its defaults -/
structure Dx where
  ad : Fr → Addr
  nm : Str
  ql : Str
  st : Stmt
  df : List He.Dv := []
abbrev Seen : Type := Option (Str × Str × Arguments × FuncBody × Scope × Addr × List (Str × Addr) × Addr)
def seenAt (K : Fr) (a : Addr) : Seen :=
  match K.lookup a with
  | some ⟨_, _, .func g, _⟩ => some (g.name, g.qualname, g.params, g.body, g.scope, g.globals, g.closure, g.builtins)
  | _ => none
def Dx.due (d : Dx) : Seen := some (d.nm, d.ql, defArgs d.st, .stmts (defBody d.st), defScope d.st, mainGlobals, [], builtinsNs)
def Dx.vs (K : Fr) (d : Dx) : List V := d.df.map (He.Dv.v K)
def Dx.okb (K : Fr) (d : Dx) : Bool :=
  PySem.W.keepIn K (.ref (d.ad K)) &&
    (match K.lookup (d.ad K) with
    | some ⟨_, _, .func g, _⟩ => PySem.W.codeIn K g.code d.ql && He.dflB K g.defaults (d.vs K)
    | _ => false)
/-- the def d stands at its address as fd -/
abbrev DAt (K : Fr) (d : Dx) (fd : FuncData) : Prop := FunD K d.nm d.ql (defArgs d.st) (defBody d.st) (defScope d.st) (d.vs K) [] (d.ad K) fd
theorem Dx.at_of {K : Fr} {d : Dx} (e : seenAt K (d.ad K) = d.due) (c : d.okb K = true) : ∃ fd, DAt K d fd := by
  obtain ⟨kp, c2⟩ := He.ba c
  unfold seenAt at e
  cases q : K.lookup (d.ad K) with
  | none =>
    rw [q] at c2
    exact nomatch c2
  | some ob =>
    obtain ⟨oc, od, dt, osl⟩ := ob
    rw [q] at c2 e
    cases dt with
    | func g =>
      obtain ⟨m1, m2, m3, m4, m5, m6, m7, m8, m9, m10, m11, m12, m13, m14, m15⟩ := g
      have e2 : (some (m1, m2, m3, m4, m5, m6, m7, m15) : Seen) = some (d.nm, d.ql, defArgs d.st, .stmts (defBody d.st), defScope d.st, mainGlobals, [], builtinsNs) := e
      simp only [Option.some.injEq, Prod.mk.injEq] at e2
      obtain ⟨u1, u2, u3, u4, u5, u6, u7, u8⟩ := e2
      subst u1 u2 u3 u4 u5 u6 u7 u8
      obtain ⟨v1, v2⟩ := He.ba (show (PySem.W.codeIn K m13 d.ql && He.dflB K m8 (d.vs K)) = true from c2)
      exact ⟨_, ⟨oc, od, m8, m9, m10, m11, m12, m13, m14, osl, rfl, q, v1, He.dflB_ok v2, .inl rfl⟩, kp⟩
    | _ => exact nomatch c2
abbrev Al2 : Type := Bool × List Seen
def look (fa : List Tst) (fn : List Dx) (K : Fr) : Al2 := ((fa.all fun f => f K) && fn.all fun d => d.okb K, fn.map fun d => seenAt K (d.ad K))
def due (fn : List Dx) : Al2 := (true, fn.map Dx.due)
def Says (fa : List Tst) (fn : List Dx) (K : Fr) : Prop := look fa fn K = due fn
def lookG (n : Nat) (fa : List Tst) (fn : List Dx) (g : Addr → Option Obj) : Al2 := look fa fn (He.frG g (cStatics :: He.asD g n))
def hook (n : Nat) (fa : List Tst) (fn : List Dx) : PySem.W.Hook where
  α := Al2
  obs := fun s => lookG n fa fn s.heap.get?
  val := fun _ => due fn
  says := fun _ h => ∃ K : Fr, K.In h ∧ Says fa fn K
  of := fun _ _ e => ⟨_, He.frG_in, e⟩
  keeps := fun _ _ _ ⟨K, hK, c⟩ k => ⟨K, PySem.W.Frag.In.keeps hK k, c⟩
theorem lookG_eq {n : Nat} {fa : List Tst} {fn : List Dx} {g : Addr → Option Obj} {s : Shared} (h : ∀ a, g a = s.heap.get? a) : lookG n fa fn g = (hook n fa fn).obs s := by
  have e : g = s.heap.get? := funext h
  subst e
  rfl
section
variable {fa : List Tst} {fn : List Dx} {K : Fr}
theorem Says.tst (c : Says fa fn K) (i : Nat) {f : Tst} (h : fa[i]? = some f := by rfl) : f K = true := by
  have c0 := congrArg Prod.fst c
  have c1 := (He.ba (show ((fa.all fun f => f K) && fn.all fun d => d.okb K) = true from c0)).1
  exact List.all_eq_true.mp c1 f (List.mem_of_getElem? h)
theorem Says.dat (c : Says fa fn K) (i : Nat) {d : Dx} (h : fn[i]? = some d := by rfl) : ∃ fd, DAt K d fd := by
  have c0 := congrArg Prod.fst c
  have c2 := (He.ba (show ((fa.all fun f => f K) && fn.all fun d => d.okb K) = true from c0)).2
  have e : (fn.map fun d => seenAt K (d.ad K)) = fn.map Dx.due := congrArg Prod.snd c
  have e2 : (fn.map fun d => seenAt K (d.ad K))[i]? = (fn.map Dx.due)[i]? := by rw [e]
  rw [List.getElem?_map, List.getElem?_map, h] at e2
  exact Dx.at_of (Option.some.inj e2) (List.all_eq_true.mp c2 d (List.mem_of_getElem? h))
end
/-! ### tests -/
def tGlo (x : Str) : Tst := (He.Fa.glo x).ok
def tFree (x : Str) : Tst := (He.Fa.free x).ok
def tInt (x : Str) (i : Int) : Tst := (He.Fa.int x i).ok
def tStr (x z : Str) : Tst := (He.Fa.str x z).ok
def tCls (x : Str) : Tst := (He.Fa.cls x).ok
def tNoat (x f : Str) : Tst := (He.Fa.noat x f).ok
def tMeth (x m : Str) : Tst := (He.Fa.meth x m).ok
def tMkr (x : Str) : Tst := (He.Fa.mkr x).ok
/-- the name is a built-in function (brought in from a module) -/
def tBlt (x : Str) (id : String) : Tst := fun K => He.eqO (PySem.W.nsIn K mainGlobals x) (some (some (.builtin id)))
/-- the getter of the property f of the class x -/
def getAd (x f : Str) (K : Fr) : Addr := match PySem.W.recIn K (He.ma K (He.ga K x) f) "property" with
  | some (.ref g :: _) => g
  | _ => 0
def tProp (x f : Str) : Tst := fun K =>
  He.eqO (PySem.W.findIn K (.ref (He.ga K x)) f) (some (some (.ref (He.ma K (He.ga K x) f)))) &&
  (He.eqO (PySem.W.specialIn K (.ref (He.ma K (He.ga K x) f)) "__get__") (some (some (.builtin "property.__get__"))) &&
  (decide (PySem.W.takesIn K (.ref (He.ma K (He.ga K x) f)) = some true) &&
  (match PySem.W.recIn K (He.ma K (He.ga K x) f) "property" with
  | some (.ref _ :: _) => true
  | _ => false)))
theorem prop_ok {K : Fr} {x f : Str} (c : tProp x f K = true) : PropOf K (He.ga K x) f (He.ma K (He.ga K x) f) (getAd x f K) := by
  obtain ⟨c1, c⟩ := He.ba c
  obtain ⟨c2, c⟩ := He.ba c
  obtain ⟨c3, c4⟩ := He.ba c
  refine ⟨He.eqO_ok c1, He.eqO_ok c2, of_decide_eq_true c3, ?_⟩
  unfold getAd
  cases e : PySem.W.recIn K (He.ma K (He.ga K x) f) "property" with
  | none =>
    rw [e] at c4
    exact nomatch c4
  | some l =>
    rw [e] at c4
    cases l with
    | nil => exact nomatch c4
    | cons v r =>
      cases v with
      | ref g => exact ⟨r, rfl⟩
      | _ => exact nomatch c4
theorem blt_ok {K : Fr} {h : Heap} {mg : Str → Option Value} (X : K.In h) (G : h.Ns mainGlobals mg) {x : Str} {id : String} (c : tBlt x id K = true) : mg x = some (.builtin id) := PySem.W.mg_of X G (He.eqO_ok c)
/-- where a global def stands; a class's method -/
def gAd (x : Str) (K : Fr) : Addr := He.ga K x
def mAd (x m : Str) (K : Fr) : Addr := He.ma K (He.ga K x) m
end Hk
namespace Hk
open PySem PySem.Spec PyProof.Rows L2
/-- the function inside the static method m of the class x -/
def statAd (x m : Str) (K : Fr) : Addr := He5.wf K (He.ga K x) "staticmethod" m
def tStat (x m : Str) : Tst := fun K => He5.wrapB K (He.ga K x) "staticmethod" "staticmethod.__get__" m &&
  (PySem.W.readsIn K (He.ga K x) (.type "type") && (He.eqO (PySem.W.specialIn K (.ref (He.ga K x)) "__getattribute__") (some (some (.builtin "type.__getattribute__"))) && PySem.W.keepIn K (.ref (statAd x m K))))
/-- == is the class's own, != object's -/
def tNe (x : Str) : Tst := fun K => He.eqO (PySem.W.findIn K (.ref (He.ga K x)) "__ne__") (some (some (.builtin "object.__ne__"))) && decide (PySem.W.subIn K (.ref (He.ga K x)) (.type "object") = some true)
/-- what isinstance asks of an instance of the class x -/
def tIns (x : Str) : Tst := fun K => He.eqO (PySem.W.findIn K (.ref (He.ga K x)) "__class__") (some (some (.builtin "object.__class__"))) &&
  (He.eqO (PySem.W.specialIn K (.builtin "object.__class__") "__get__") (some (some (.builtin "getset_descriptor.__get__"))) && (decide (PySem.W.takesIn K (.builtin "object.__class__") = some true) && decide (PySem.W.mroIn K (He.ga K x) (.type "object") = some true)))
/-- isinstance of the built-in type t against the class x; of the class y against x -/
def tKit (t : String) (x : Str) (b : Bool) : Tst := fun K => decide (PySem.W.kitOne K (.type t) (.ref (He.ga K x)) = some b)
def tKitO (y x : Str) (b : Bool) : Tst := fun K => decide (PySem.W.kitOne K (.ref (He.ga K y)) (.ref (He.ga K x)) = some b)
def tKitB (y : Str) (t : String) (b : Bool) : Tst := fun K => decide (PySem.W.kitOne K (.ref (He.ga K y)) (.type t) = some b)
/-- a comparison of an instance of x with a value of the type t begins with the instance -/
def tFst (x : Str) (t : String) : Tst := fun K => PySem.W.notFirst K (He.ga K x) (.type t)
def tFstO (x : Str) : Tst := fun K => PySem.W.notFirst K (He.ga K x) (.ref (He.ga K x))
theorem ins_ok {K : Fr} {x : Str} (c : tIns x K = true) {H : Hp} {a dx : Addr} {fs : List (Str × V)} (e : H a = some (.ins (He.ga K x) dx fs)) (cl : Cls K (He.ga K x)) : TyOf K H (.ref a) (.ref (He.ga K x)) := by
  obtain ⟨c1, c⟩ := He.ba c
  obtain ⟨c2, c⟩ := He.ba c
  obtain ⟨c3, c4⟩ := He.ba c
  exact .ins e cl (He.eqO_ok c1) (He.eqO_ok c2) (of_decide_eq_true c3) (of_decide_eq_true c4)
def clsMk (x : Str) : Tst := fun K => tCls x K && tMkr x K
end Hk
namespace Hk
open PySem PySem.Spec PyProof.Rows L2
section
variable {P : Program} {w : World} {K : Fr} {mg : Str → Option Value} {base : Heap}
/-- the global name x stands for a def at ad that keeps the promise sp (nothing is raised), at level k -/
def Cal (P : Program) (w : World) (K : Fr) (mg : Str → Option Value) (base : Heap) (k : Nat) (x : Str) (ad : Addr) (ps : List Str) (sp : Sp) : Prop :=
  ∃ fd : FuncData, FnOk P w K mg base CX0 k ad fd ps sp ∧ Binds K fd ps [] ∧ PySem.W.keepIn K (.ref ad) = true ∧ mg x = some (.ref ad)
theorem Cal.mono {j k : Nat} {x : Str} {ad : Addr} {ps : List Str} {sp : Sp} (c : Cal P w K mg base j x ad ps sp) (h : j ≤ k) : Cal P w K mg base k x ad ps sp := by
  obtain ⟨fd, F, r⟩ := c
  exact ⟨fd, F.mono h, r⟩
theorem Cal.imp {k : Nat} {x : Str} {ad : Addr} {ps : List Str} {sp sp' : Sp} (c : Cal P w K mg base k x ad ps sp) (h : ∀ vs H Q E, sp' vs H Q E → sp vs H Q E) : Cal P w K mg base k x ad ps sp' := by
  obtain ⟨fd, F, r⟩ := c
  exact ⟨fd, F.imp h, r⟩
theorem pe_c {X : Cx} {k : Nat} {x : Str} {ad : Addr} {ps : List Str} {sp : Sp} {e : Expr} {es : List Expr} {t : TA} {p pos : Pos} (c : Cal X.prog X.w X.K X.mg X.base k x ad ps sp) (hr : Room k X.A) (ha : PA X (e :: es) t) (hg : Gl X x := by rfl)
    (hdb : (x == ("__debug__" : Str)) = false := by decide) (he : starEach (e :: es) X.env = (false, eval e X.env) :: starEach es X.env := by rfl) (hpl : (backTo pos (starEach es X.env)).any (·.1) = false := by rfl) :
    PE X (.Call (.Name x p) (e :: es) [] pos) (tCall sp [] E0 t) := by
  obtain ⟨fd, F, b, kp, m⟩ := c
  exact pe_call F hr hg m kp b .nil pass0 ha hdb he hpl
/-- the body of a def: its reading -/
abbrev Body (P : Program) (w : World) (K : Fr) (mg : Str → Option Value) (base : Heap) (k : Nat) (d : Dx) (N ps : List Str) (sp : Sp) : Prop :=
  ∀ (cdv : Value) (A : Around) (outer : List Env) (s : Shared) (H : Hp) (vs : List V) (Q : VK) (E : XK), Room k (A.deeper (envOfC d.ql (defScope d.st) s.heap.objs.size (d.ad K) cdv)) → sp vs H Q E →
      ∃ t, PSs (cxOf CX0 P w K mg base N d.ql (defScope d.st) (d.ad K) cdv A outer s H E).nox (defBody d.st) t ∧ t { nx := fun _ H' => Q .non H', rt := Q } (start N vs) H
theorem ok_of {k : Nat} {d : Dx} {N ps : List Str} {sp : Sp} {fd : FuncData} (D : DAt K d fd) (S : FnScope N ps (defScope d.st)) (len : ∀ vs H Q E, sp vs H Q E → vs.length = ps.length) (hb : Body P w K mg base k d N ps sp) :
    FnOk P w K mg base CX0 (k + 1) (d.ad K) fd ps sp := by
  refine FunD.ok D S len fun cdv A outer s H vs Q E hr h => ?_
  obtain ⟨t, h1, h2⟩ := hb cdv A outer s H vs Q E hr h
  exact ⟨t, h1.nox, h2⟩
theorem cal_of {k : Nat} {d : Dx} {N ps : List Str} {sp : Sp} {x : Str} (D : ∃ fd, DAt K d fd) (hv : d.df = []) (S : FnScope N ps (defScope d.st)) (hm : mg x = some (.ref (d.ad K)))
    (hbi : ∀ (kV doc pm : Value) (an : Option Addr) (cdv ct : Value) (us : List Value), us.length = ps.length → bindArgs (PySem.W.fnOf d.nm d.ql (defArgs d.st) (defBody d.st) (defScope d.st) .none kV doc pm an cdv ct) ⟨us, []⟩ = pure (ps.zip us))
    (len : ∀ vs H Q E, sp vs H Q E → vs.length = ps.length) (hb : Body P w K mg base k d N ps sp) : Cal P w K mg base (k + 1) x (d.ad K) ps sp := by
  obtain ⟨fd, D⟩ := D
  have e : d.vs K = [] := by
    unfold Dx.vs
    rw [hv]
    rfl
  have D' : FunD K d.nm d.ql (defArgs d.st) (defBody d.st) (defScope d.st) [] [] (d.ad K) fd := by
    rw [← e]
    exact D
  exact ⟨fd, ok_of D S len hb, FunD.bindsN D' hbi, D.kp, hm⟩
end
end Hk
namespace Hk
open PySem PySem.Spec PyProof.Rows L2
theorem bo_int : bootBuiltins "int" = some (.type "int") := by decide +kernel
theorem bo_str : bootBuiltins "str" = some (.type "str") := by decide +kernel
theorem bo_len : bootBuiltins "len" = some (.builtin "len") := by decide +kernel
theorem bo_min : bootBuiltins "min" = some (.builtin "min") := by decide +kernel
theorem bo_max : bootBuiltins "max" = some (.builtin "max") := by decide +kernel
theorem bo_abs : bootBuiltins "abs" = some (.builtin "abs") := by decide +kernel
theorem bo_repr : bootBuiltins "repr" = some (.builtin "repr") := by decide +kernel
theorem bo_isinstance : bootBuiltins "isinstance" = some (.builtin "isinstance") := by decide +kernel
theorem bo_all : bootBuiltins "all" = some (.builtin "all") := by decide +kernel
theorem bo_any : bootBuiltins "any" = some (.builtin "any") := by decide +kernel
theorem bo_range : bootBuiltins "range" = some (.type "range") := by decide +kernel
theorem bo_bool : bootBuiltins "bool" = some (.type "bool") := by decide +kernel
end Hk

/-! Defs below which nothing is being shown (no repr runs around them): so repr of made data has its rule. -/
namespace Hk
open PySem PySem.Spec PyProof.Rows L2
abbrev Calm (A : Around) : Prop := A.guards = some []
/-- a def's promise where no repr runs around the call; nothing is raised -/
structure FnG (P : Program) (w : World) (K : Fr) (mg : Str → Option Value) (base : Heap) (k : Nat) (f : Addr) (fd : FuncData) (ps : List Str) (sp : Sp) : Prop where
  len : ∀ vs H Q E, sp vs H Q E → vs.length = ps.length
  run : ∀ (A : Around) (out : List Env) (s : Shared) (H : Hp) (args : Args) (us : List Value) (vs : List V) (Q : VK), Room k A → Calm A → Env0 P w K mg base A out s H → BindsTo s fd args (ps.zip us) → Vals vs us → sp vs H Q E0 →
    codeAny (model P w) A (.call (.ref f) args) (CR CX0 out P w H s Q E0) s
section
variable {P : Program} {w : World} {K : Fr} {mg : Str → Option Value} {base : Heap}
theorem FnG.mono {j k : Nat} {f : Addr} {fd : FuncData} {ps : List Str} {sp : Sp} (F : FnG P w K mg base j f fd ps sp) (h : j ≤ k) : FnG P w K mg base k f fd ps sp :=
  ⟨F.len, fun A out s H args us vs Q r => F.run A out s H args us vs Q (r.mono h)⟩
theorem FnG.of {k : Nat} {f : Addr} {fd : FuncData} {ps : List Str} {sp : Sp} (F : FnOk P w K mg base CX0 k f fd ps sp) : FnG P w K mg base k f fd ps sp :=
  ⟨F.len, fun A out s H args us vs Q r _ e b v h => F.run A out s H args us vs Q E0 r e b v h⟩
theorem FnG.imp {k : Nat} {f : Addr} {fd : FuncData} {ps : List Str} {sp sp' : Sp} (F : FnG P w K mg base k f fd ps sp) (h : ∀ vs H Q E, sp' vs H Q E → sp vs H Q E) : FnG P w K mg base k f fd ps sp' :=
  ⟨fun vs H Q E q => F.len vs H Q E (h _ _ _ _ q), fun A out s H args us vs Q r g e b v q => F.run A out s H args us vs Q r g e b v (h _ _ _ _ q)⟩
/-- such a def is called from a body -/
theorem call_g {X : Cx} {pins : List (Addr × Obj)} {σ : L2.St} {H : Hp} {s : Shared} {Q : VK} {us : List Value} {vs : List V} {k : Nat} {f : Addr} {fd : FuncData} {ps : List Str} {sp : Sp} (F : FnG X.prog X.w X.K X.mg X.base k f fd ps sp)
    (hr : Room k X.A) (hc : Calm X.A) (hb : Binds X.K fd ps []) (I : Inv X pins σ H s) (r : Vals vs us) (h : sp vs H Q E0) : wpAny (model X.prog X.w) X.A (call (.ref f) us) (EP X pins σ Q) X.xe s := by
  have ln : us.length = ps.length := r.length.symm.trans (F.len _ _ _ _ h)
  have bd : BindsTo s fd ⟨us, []⟩ (ps.zip us) := by
    have := hb s us I.kIn (by rw [List.append_nil]; exact ln)
    rwa [List.append_nil] at this
  refine wpAny_call (codeAny_mono (F.run X.A X.stack s H ⟨us, []⟩ us vs Q hr hc I.env0 bd r h) fun z s' hq => ?_)
  rcases z with e | fl
  · exact (show False from hq).elim
  · cases fl with
    | ret u => exact I.after hq
    | _ => exact (show False from hq).elim
/-- the global name x: a def at ad that keeps sp -/
def CalG (P : Program) (w : World) (K : Fr) (mg : Str → Option Value) (base : Heap) (k : Nat) (x : Str) (ad : Addr) (ps : List Str) (sp : Sp) : Prop :=
  ∃ fd : FuncData, FnG P w K mg base k ad fd ps sp ∧ Binds K fd ps [] ∧ PySem.W.keepIn K (.ref ad) = true ∧ mg x = some (.ref ad)
theorem Cal.g {k : Nat} {x : Str} {ad : Addr} {ps : List Str} {sp : Sp} (c : Cal P w K mg base k x ad ps sp) : CalG P w K mg base k x ad ps sp := by
  obtain ⟨fd, F, r⟩ := c
  exact ⟨fd, .of F, r⟩
theorem CalG.mono {j k : Nat} {x : Str} {ad : Addr} {ps : List Str} {sp : Sp} (c : CalG P w K mg base j x ad ps sp) (h : j ≤ k) : CalG P w K mg base k x ad ps sp := by
  obtain ⟨fd, F, r⟩ := c
  exact ⟨fd, F.mono h, r⟩
/-- its reading -/
def tG (sp : Sp) (t : TA) : TE := fun σ H Q => t σ H fun vs H1 => sp vs H1 Q E0
theorem pe_g {X : Cx} {k : Nat} {x : Str} {ad : Addr} {ps : List Str} {sp : Sp} {e : Expr} {es : List Expr} {t : TA} {p pos : Pos} (c : CalG X.prog X.w X.K X.mg X.base k x ad ps sp) (hr : Room k X.A) (hc : Calm X.A) (ha : PA X (e :: es) t) (hg : Gl X x := by rfl)
    (hdb : (x == ("__debug__" : Str)) = false := by decide) (he : starEach (e :: es) X.env = (false, eval e X.env) :: starEach es X.env := by rfl) (hpl : (backTo pos (starEach es X.env)).any (·.1) = false := by rfl) :
    PE X (.Call (.Name x p) (e :: es) [] pos) (tG sp t) := by
  obtain ⟨fd, F, b, kp, m⟩ := c
  refine ⟨fun pins s σ H Q I h => wpAny_Call_Name_kw (ld_glob I hg m ?_ hdb)⟩
  refine PySem.W.callWith_K (h₀ := X.base) I.ok.mod.kin kp (thn (ha.run pos pins s σ H _ I h) fun us s1 ⟨vs, H1, J, r, q⟩ => ⟨J.kIn, ?_⟩) he hpl
  exact call_g F hr hc b J r q
abbrev BodyG (P : Program) (w : World) (K : Fr) (mg : Str → Option Value) (base : Heap) (k : Nat) (d : Dx) (N ps : List Str) (sp : Sp) : Prop :=
  ∀ (cdv : Value) (A : Around) (outer : List Env) (s : Shared) (H : Hp) (vs : List V) (Q : VK) (E : XK), Room k (A.deeper (envOfC d.ql (defScope d.st) s.heap.objs.size (d.ad K) cdv)) → Calm A → sp vs H Q E →
      ∃ t, PSs (cxOf CX0 P w K mg base N d.ql (defScope d.st) (d.ad K) cdv A outer s H E).nox (defBody d.st) t ∧ t { nx := fun _ H' => Q .non H', rt := Q } (start N vs) H
/-- such a def, by its body -/
theorem okg_of {k : Nat} {d : Dx} {N ps : List Str} {sp : Sp} {fd : FuncData} (D : DAt K d fd) (S : FnScope N ps (defScope d.st)) (len : ∀ vs H Q E, sp vs H Q E → vs.length = ps.length) (hb : BodyG P w K mg base k d N ps sp) :
    FnG P w K mg base (k + 1) (d.ad K) fd ps sp := by
  obtain ⟨oc, od, dV, kV, doc, pm, an, cdv, ct, osl, rfl, lk, hcd, _, _⟩ := D.ex
  refine ⟨len, fun A out s H args us vs Q hr hc e0 hbd r hsp => ?_⟩
  have old : ∀ b o, base.get? b = some o → s.heap.get? b = some o := fun b o z => (e0.bs b o z).1
  have KX : K.In s.heap := e0.mod.kin.keeps old
  have kd : ∀ y ∈ ps.zip us, (defScope d.st).names.lookup y.1 = some .local ∨ ((defScope d.st).names.lookup y.1 = some .cell ∧ ((cellsFrom (s.heap.objs.size + 1) (defScope d.st).names []).lookup y.1).isSome = true) := by
    rintro ⟨n, v⟩ hy
    have q := S.par n (List.of_mem_zip hy).1
    exact q.imp id fun q => ⟨q, PySem.W.cellsFrom_some _ _ _ (.inl q)⟩
  refine codeAny_call_function hr.depth (KX _ _ lk) rfl S.co S.gen rfl (PySem.W.codeRec_of KX hcd) (hbd _ _ _ _ ?_)
  refine wpAny_newFunctionEnv_cells S.kind kd fun env he s1 x => ?_
  subst he
  refine ⟨(e0.mod.nolimit.keeps old).keeps x.toInCall.keep, codeAny_func ?_⟩
  obtain ⟨t, ht, hq⟩ := hb cdv A out s H vs Q E0 (hr.deeper _) hc hsp
  have I : Inv (cxOf CX0 P w K mg base N d.ql (defScope d.st) (d.ad K) cdv A out s H E0) [] (start N vs) H s1 := inv_start S hr.hd e0 (len _ _ _ _ hsp) r x
  refine wpAny_mono (ht.nox.run [] s1 (start N vs) H _ I hq) (fun fl s' hs => ?_) fun e s' hs => hs
  cases fl with
  | next =>
    obtain ⟨σ', H', J, q⟩ := hs
    exact ⟨V.non, H', J.os, J.bare, J.base, J.hok, rfl, q⟩
  | ret u =>
    obtain ⟨v, σ', H', J, rv, q⟩ := hs
    exact ⟨v, H', J.os, J.bare, J.base, J.hok, rv, q⟩
  | brk =>
    obtain ⟨σ', H', J, q⟩ := hs
    exact False.elim q
  | cont =>
    obtain ⟨σ', H', J, q⟩ := hs
    exact False.elim q
theorem calg_of {k : Nat} {d : Dx} {N ps : List Str} {sp : Sp} {x : Str} (D : ∃ fd, DAt K d fd) (hv : d.df = []) (S : FnScope N ps (defScope d.st)) (hm : mg x = some (.ref (d.ad K)))
    (hbi : ∀ (kV doc pm : Value) (an : Option Addr) (cdv ct : Value) (us : List Value), us.length = ps.length → bindArgs (PySem.W.fnOf d.nm d.ql (defArgs d.st) (defBody d.st) (defScope d.st) .none kV doc pm an cdv ct) ⟨us, []⟩ = pure (ps.zip us))
    (len : ∀ vs H Q E, sp vs H Q E → vs.length = ps.length) (hb : BodyG P w K mg base k d N ps sp) : CalG P w K mg base (k + 1) x (d.ad K) ps sp := by
  obtain ⟨fd, D⟩ := D
  have e : d.vs K = [] := by
    unfold Dx.vs
    rw [hv]
    rfl
  have D' : FunD K d.nm d.ql (defArgs d.st) (defBody d.st) (defScope d.st) [] [] (d.ad K) fd := by
    rw [← e]
    exact D
  exact ⟨fd, okg_of D S len hb, FunD.bindsN D' hbi, D.kp, hm⟩
/-- the law's own end: such a def is called with the script -/
theorem end_g {l : PySem.W.OpenLaw} {q : Program} {loose : List Str} {XP : (Str → Option Value) → Heap → Prop} {YP : World → Heap → Prop} {d : DefRec} {k : Nat} {x : Str} (hn : l.most = some 63) (hdf : d.params.defaults = []) (hr : Room k callerA)
    (F : ∀ (w : World) (mg : Str → Option Value) (fa : Addr) (h : Heap), YP w h → h.Ns mainGlobals mg → mg d.name = some (.ref fa) →
      ∃ (K : Fr) (fd : FuncData) (sp : Sp), K.In h ∧ (∀ (s : Shared) (u : Value), BindsTo s fd ⟨[u], []⟩ [(x, u)]) ∧
        (∀ (H : Hp) (a : Addr) (ns : List Int), ns.length ≤ 63 → (∀ n ∈ ns, Builtin.Int.intBits n ≤ 1048576) → SqL K H a (ns.map V.int) → sp [.ref a] H (fun v _ => v = .bl true) E0) ∧
        ∀ base : Heap, K.In base → base.Ns mainGlobals mg → FnG l.prog w K mg base k fa fd [x] sp) :
    PySem.W.WalkO q loose XP YP l.row.toRowW d [] (fun f vs => PySem.call f vs) := by
  refine Att.attach_callB hn hdf fun w s₀ s₁ mg mb fa o pm cd doc a vs ns G Y ho hd hcd hmg hobj hints hlen hbits hg => ?_
  obtain ⟨K, fd, sp, KX, hbi, hsp, hF⟩ := F w mg fa _ Y G.T.g hmg
  have rv := vals_ints hints
  have sz : vs.length ≤ sizeLine := by
    have := hints.length
    have e : 63 ≤ sizeLine := by decide
    omega
  have szn : (ns.map V.int).length ≤ sizeLine := by
    rw [rv.length]
    exact sz
  -- an abstract heap in which the script alone may be tracked
  obtain ⟨H, hO, hS, hok, hA, hK⟩ : ∃ H : Hp, Only H ∧ SqL K H a (ns.map V.int) ∧ HOk l.prog w H s₁.heap ∧ (∀ b, H b ≠ none → b = a) ∧ (H a ≠ none → K.lookup a = none) := by
    cases hk : K.lookup a with
    | some ob =>
      have e := KX a ob hk
      rw [hobj] at e
      cases e
      refine ⟨fun _ => none, fun _ => .inl rfl, .inr ⟨_, vs.toArray, _, hk, rfl, rfl, rfl, ?_, ?_⟩, fun b u z => (nomatch z), fun b z => absurd rfl z, fun z => absurd rfl z⟩
      · rw [List.size_toArray]
        exact sz
      · simpa using rv
    | none =>
      have at_ : ∀ {b : Addr} {u : HO}, (if b = a then some (HO.frz { cls := .type "list", data := .seq vs.toArray } (.lst (ns.map V.int))) else none) = some u → b = a ∧ u = HO.frz { cls := .type "list", data := .seq vs.toArray } (.lst (ns.map V.int)) := fun {b u} z => by
        by_cases hb : b = a
        · rw [if_pos hb] at z
          exact ⟨hb, (Option.some.inj z).symm⟩
        · rw [if_neg hb] at z
          exact nomatch z
      refine ⟨fun b => if b = a then some (.frz { cls := .type "list", data := .seq vs.toArray } (.lst (ns.map V.int))) else none, fun b => ?_, .inl (.inr ⟨_, if_pos rfl⟩), fun b u z => ?_, fun b z => ?_, fun _ => rfl⟩
      · by_cases hb : b = a
        · exact .inr ⟨_, _, if_pos hb⟩
        · exact .inl (if_neg hb)
      · obtain ⟨e1, e2⟩ := at_ z
        subst e1 e2
        exact ⟨hobj, szn, vs, _, rv, hobj⟩
      · by_cases hb : b = a
        · exact hb
        · exact absurd (if_neg hb) z
  have old : ∀ {b : Addr} {ob : Obj}, s₁.heap.get? b = some ob → H b = none → (hidT s₁.heap H).get? b = some ob := fun e n => hidT_get e n
  have only_a : ∀ b, b ≠ a → H b = none := fun b hb => by
    cases z : H b with
    | none => rfl
    | some u => exact absurd (hA b (by rw [z]; exact fun y => nomatch y)) hb
  have dict_out : ∀ {b : Addr} {ob : Obj} {es : Array DictEntry} {ep : Nat}, s₁.heap.get? b = some ob → ob.data = .dict es ep → H b = none := fun {b ob es ep} e dd => only_a b fun z => by
    subst z
    rw [hobj] at e
    cases e
    exact nomatch dd
  have ns_ : ∀ {b : Addr} {m : Str → Option Value}, s₁.heap.Ns b m → (hidT s₁.heap H).Ns b m := fun {b m} ⟨ob, es, ep, e, dd, r⟩ => ⟨ob, es, ep, old e (dict_out e dd), dd, r⟩
  have K_ : K.In (hidT s₁.heap H) := fun b ob e => old (KX b ob e) (by
    cases z : H b with
    | none => rfl
    | some u =>
      have eb := hA b (by rw [z]; exact fun y => nomatch y)
      subst eb
      have := hK (by rw [z]; exact fun y => nomatch y)
      rw [this] at e
      exact nomatch e)
  obtain ⟨mc, l1, l2⟩ := G.T.nolimit
  have e0 : Env0 l.prog w K mg (hidT s₁.heap H) callerA [] s₁ H :=
    { frames := rfl, mod := ⟨K_, ns_ G.T.g, ⟨mb, ns_ G.T.b, G.T.builtins⟩, ⟨mc, ns_ l1, l2⟩⟩, bs := fun b ob e => of_hidT e, bsz := Nat.le_of_eq (hidT_size _ _), funs := trivial, frf := fun b hb => absurd hb (List.not_mem_nil), hok := hok, bare := .of_eq hg }
  refine codeAny_mono ((hF _ K_ (ns_ G.T.g)).run callerA [] s₁ H ⟨[.ref a], []⟩ [.ref a] [.ref a] (fun v _ => v = .bl true) hr rfl e0 (hbi s₁ (.ref a)) (.cons rfl .nil) (hsp H a ns hlen hbits hS)) fun r s' h => ?_
  cases r with
  | error e => exact (show False from h).elim
  | ok fl =>
    cases fl with
    | ret u =>
      obtain ⟨v, H', os, bare, un, hok', r', ev⟩ := h
      have ev' : v = .bl true := ev
      subst ev'
      cases r'
      refine ⟨rfl, OldK.of_keep fun b ob e => ?_, os, bare⟩
      rcases hO b with z | ⟨o1, xs, z⟩
      · exact un.keep b ob e z (List.not_mem_nil) (List.not_mem_nil)
      · obtain ⟨e1, _⟩ := hok b _ z
        obtain ⟨e2, _⟩ := hok' b _ (un.frzs b o1 _ z)
        rw [e] at e1
        cases e1
        exact e2
    | _ => exact (show False from h).elim
end
end Hk

/-! repr of data; str, repr, == of own instances by their own methods; static methods. -/
namespace Hk
open PySem PySem.Spec PyProof.Rows L2
mutual
theorem Dp.noDict {K : Fr} {H : Hp} : ∀ (d : PyData) (v : V), Dp K H v d → d.hasDict = false
  | .none, _, _ => by simp [PyData.hasDict]
  | .bool _, _, _ => by simp [PyData.hasDict]
  | .int _, _, _ => by simp [PyData.hasDict]
  | .str _, _, _ => by simp [PyData.hasDict]
  | .list ds, _, h => by
    cases h with
    | lst _ ha =>
      simp only [PyData.hasDict]
      exact Dp.noDictAll ds _ ha
  | .tuple ds, _, h => by
    cases h with
    | tup _ ha =>
      simp only [PyData.hasDict]
      exact Dp.noDictAll ds _ ha
  | .dict _, _, h => by cases h
theorem Dp.noDictAll {K : Fr} {H : Hp} : ∀ (ds : List PyData) (vs : List V), DpAll K H vs ds → PyData.hasDictAll ds = false
  | [], _, _ => by simp [PyData.hasDictAll]
  | d :: ds, _, h => by
    cases h with
    | cons h1 h2 =>
      simp only [PyData.hasDictAll, Bool.or_eq_false_iff]
      exact ⟨Dp.noDict d _ h1, Dp.noDictAll ds _ h2⟩
end
/-- repr(x), x data: none, a truth, an int, a text, lists and tuples of such -/
def rRepr (K : Fr) : List V → Hp → VK → Prop := fun xs H Q => ∃ x d, xs = [x] ∧ Dp K H x d ∧ d.showable = true ∧ d.depth ≤ 60 ∧ d.shown.length ≤ sizeLine ∧ Q (.str d.shown) H
section
variable {X : Cx}
theorem call_reprD {k : Nat} (hc : Calm X.A) (hr : Room k X.A) : CallR X (.builtin "repr") (rRepr X.K) := by
  intro pins s σ H xs us Q I r h
  obtain ⟨x, d, rfl, hd, hs, hdp, hz, q⟩ := h
  obtain ⟨u, rfl, ru⟩ := r.one
  cases hd with
  | non =>
    cases ru
    rw [PyData.shown_none] at q
    exact PySem.P.repr_of_none ⟨.str _, H, I.tok _, ⟨_, rfl⟩, q⟩
  | bl b =>
    cases ru
    rw [PyData.shown_bool] at q
    refine PySem.P.repr_of_bool ⟨.str _, H, I.tok _, ⟨_, rfl⟩, ?_⟩
    cases b <;> exact q
  | int i =>
    obtain ⟨t, rfl⟩ := ru
    rw [PyData.shown_int] at q
    refine PySem.P.repr_of_int ?_ ⟨.str _, H, I.tok _, ⟨_, rfl⟩, q⟩
    simpa [PyData.showable] using hs
  | str y =>
    obtain ⟨t, rfl⟩ := ru
    rw [PyData.shown_str] at q hz
    exact PySem.P.repr_of_str ⟨.str _, H, I.tok _, ⟨_, rfl⟩, q⟩ hz
  | @lst a ys ds h1 h2 =>
    have e : u = Value.ref a := ru
    subst e
    have nd := Dp.noDict _ _ (Dp.lst h1 h2)
    obtain ⟨as, hr'⟩ := Dp.reads I (.list ds) _ _ (Dp.lst h1 h2) rfl
    refine PySem.repr_of_reads' hr' hs (fun z => by rw [nd] at z; exact nomatch z) hc ?_ (fun b o z => z) (fun h' u tk kp => ⟨.str _, H, I.kept kp, ⟨_, rfl⟩, q⟩) hz
    have := hr.units
    omega
  | @tup a ys ds h1 h2 =>
    have e : u = Value.ref a := ru
    subst e
    have nd := Dp.noDict _ _ (Dp.tup h1 h2)
    obtain ⟨as, hr'⟩ := Dp.reads I (.tuple ds) _ _ (Dp.tup h1 h2) rfl
    refine PySem.repr_of_reads' hr' hs (fun z => by rw [nd] at z; exact nomatch z) hc ?_ (fun b o z => z) (fun h' u tk kp => ⟨.str _, H, I.kept kp, ⟨_, rfl⟩, q⟩) hz
    have := hr.units
    omega
/-! ### own methods that the interpreter calls -/
theorem own_run {A' : Around} {pins : List (Addr × Obj)} {σ : L2.St} {H : Hp} {s : Shared} {Q : VK} {E' : Value → Shared → Prop} {us : List Value} {vs : List V} {k : Nat} {f : Addr} {fd : FuncData} {ps : List Str} {sp : Sp} (F : FnOk X.prog X.w X.K X.mg X.base CX0 k f fd ps sp)
    (hr : Room k A') (e0 : Env0 X.prog X.w X.K X.mg X.base A' X.stack s H) (hb : Binds X.K fd ps []) (I : Inv X pins σ H s) (r : Vals vs us) (h : sp vs H Q E0) : wpAny (model X.prog X.w) A' (call (.ref f) us) (EP X pins σ Q) E' s := by
  have ln : us.length = ps.length := r.length.symm.trans (F.len _ _ _ _ h)
  have bd : BindsTo s fd ⟨us, []⟩ (ps.zip us) := by
    have := hb s us I.kIn (by rw [List.append_nil]; exact ln)
    rwa [List.append_nil] at this
  refine wpAny_call (codeAny_mono (F.run A' X.stack s H ⟨us, []⟩ us vs Q E0 hr e0 bd r h) fun z s' hq => ?_)
  rcases z with e | fl
  · exact (show False from hq).elim
  · cases fl with
    | ret u => exact I.after hq
    | _ => exact (show False from hq).elim
/-- the class at C has its own def at f for the name m -/
structure Own (K : Fr) (C : Addr) (m : Str) (f : Addr) : Prop where
  at_ : PySem.W.findIn K (.ref C) m = some (some (.ref f))
  fn : PySem.W.isFn K (.ref f) = true
def rText (C : Addr) (sp : Sp) : List V → Hp → VK → Prop := fun xs H Q => ∃ a dx fs, xs = [.ref a] ∧ H a = some (.ins C dx fs) ∧ sp [.ref a] H (fun z H' => ∃ y, z = .str y ∧ Q z H') E0
section
variable {k : Nat} {C f : Addr} {fd : FuncData} {ps : List Str} {sp : Sp}
theorem call_strO (O : Own X.K C "__str__" f) (F : FnOk X.prog X.w X.K X.mg X.base CX0 k f fd ps sp) (hb : Binds X.K fd ps []) (hr : Room (k + 2) X.A) : CallR X (.type "str") (rText C sp) := by
  intro pins s σ H xs us Q I r h
  obtain ⟨a, dx, fs, rfl, ha, q⟩ := h
  obtain ⟨u, rfl, ru⟩ := r.one
  cases (show u = Value.ref a from ru)
  obtain ⟨mA, M, _⟩ := ins_get I.hok ha
  obtain ⟨od, J, _⟩ := M.look
  have r2 : Room k X.A.in1.in1 := (show Room (k + 1) X.A.in1 from Room.in1 hr).in1
  refine PySem.W.kso_call r2.units0 I.kIn J O.at_ O.fn (wpAny_mono (own_run (vs := [.ref a]) F r2 I.env0.in1.in1 hb I (.cons rfl .nil) q) (fun v s' z => ?_) fun _ _ z => z)
  obtain ⟨z', H', I', rz, y, ey, qz⟩ := z
  subst ey
  obtain ⟨t, e⟩ := (show ∃ t, v = Value.str y t from rz)
  cases e
  exact ⟨.str y, H', I', ⟨t, rfl⟩, qz⟩
theorem call_reprO (O : Own X.K C "__repr__" f) (F : FnOk X.prog X.w X.K X.mg X.base CX0 k f fd ps sp) (hb : Binds X.K fd ps []) (hr : Room (k + 1) X.A) : CallR X (.builtin "repr") (rText C sp) := by
  intro pins s σ H xs us Q I r h
  obtain ⟨a, dx, fs, rfl, ha, q⟩ := h
  obtain ⟨u, rfl, ru⟩ := r.one
  cases (show u = Value.ref a from ru)
  obtain ⟨mA, M, _⟩ := ins_get I.hok ha
  obtain ⟨od, J, _⟩ := M.look
  have r2 : Room k X.A.in1 := Room.in1 hr
  obtain ⟨m, hF⟩ := I.fr
  refine PySem.W.repr_K r2.units0 hF I.ok.mod.kin J O.at_ O.fn (wpAny_mono (own_run (vs := [.ref a]) F r2 I.env0.in1 hb I (.cons rfl .nil) q) (fun v s' z => ?_) fun _ _ z => z)
  obtain ⟨z', H', I', rz, y, ey, qz⟩ := z
  subst ey
  obtain ⟨t, e⟩ := (show ∃ t, v = Value.str y t from rz)
  cases e
  exact ⟨.str y, H', I', ⟨t, rfl⟩, qz⟩
/-- the type of what is compared -/
inductive TyL (K : Fr) (H : Hp) : V → Value → Prop where
  | non : TyL K H .non (.type "NoneType")
  | bl (b : Bool) : TyL K H (.bl b) (.type "bool")
  | int (i : Int) : TyL K H (.int i) (.type "int")
  | str (y : Str) : TyL K H (.str y) (.type "str")
  | lst {a : Addr} {xs : List V} (h : H a = some (.lst xs)) : TyL K H (.ref a) (.type "list")
  | tup {a : Addr} {xs : List V} (h : H a = some (.tup xs)) : TyL K H (.ref a) (.type "tuple")
  | ins {a C dx : Addr} {fs : List (Str × V)} (h : H a = some (.ins C dx fs)) : TyL K H (.ref a) (.ref C)
theorem typeOf_obj {M : Model} {h : Heap} {a : Addr} {o : Obj} {t : Value} (e : h.get? a = some o) (c : o.cls = t) : PySem.W.Looks M h (typeOf (.ref a)) t := by
  intro A Q E s kp q
  refine wpAny_typeOf_ref (kp _ _ e) ?_
  rw [c]
  exact q
theorem TyL.looks {pins : List (Addr × Obj)} {σ : L2.St} {H : Hp} {s : Shared} {y : V} {u t : Value} {M : Model} (I : Inv X pins σ H s) (ry : RelV y u) (ty : TyL X.K H y t) : PySem.W.Looks M s.heap (typeOf u) t := by
  cases ty with
  | non => cases ry; exact PySem.W.Looks.of_pure rfl
  | bl b => cases ry; exact PySem.W.Looks.of_pure rfl
  | int i =>
    obtain ⟨t, rfl⟩ := ry
    exact PySem.W.Looks.of_pure rfl
  | str z =>
    obtain ⟨t, rfl⟩ := ry
    exact PySem.W.Looks.of_pure rfl
  | @lst a xs h =>
    cases (show u = Value.ref a from ry)
    obtain ⟨_, its, n, _, e⟩ := (show ObjOk X.prog X.w H s.heap a (.lst xs) from I.hok a _ h)
    exact typeOf_obj e rfl
  | @tup a xs h =>
    cases (show u = Value.ref a from ry)
    obtain ⟨_, its, _, o, e, c, _⟩ := (show ObjOk X.prog X.w H s.heap a (.tup xs) from I.hok a _ h)
    exact typeOf_obj e c
  | @ins a C dx fs h =>
    cases (show u = Value.ref a from ry)
    obtain ⟨mA, M, _⟩ := ins_get I.hok h
    obtain ⟨od, J, _⟩ := M.look
    exact J.type
def rEqO (K : Fr) (C : Addr) (sp : Sp) : R2 := fun x y H Q => ∃ a dx fs t, x = .ref a ∧ H a = some (.ins C dx fs) ∧ TyL K H y t ∧ PySem.W.notFirst K C t = true ∧ sp [x, y] H (fun z H' => ∃ b, z = .bl b ∧ Q z H') E0
theorem op_eqO (O : Own X.K C "__eq__" f) (F : FnOk X.prog X.w X.K X.mg X.base CX0 k f fd ps sp) (hb : Binds X.K fd ps []) (hr : Room k X.A) : OpR X (compareOp .Eq) (rEqO X.K C sp) := by
  intro pins s σ H x y v u Q I rx ry h
  obtain ⟨a, dx, fs, t, rfl, ha, ty, hn, q⟩ := h
  cases (show v = Value.ref a from rx)
  obtain ⟨mA, M, _⟩ := ins_get I.hok ha
  obtain ⟨od, J, _⟩ := M.look
  obtain ⟨m, hF⟩ := I.fr
  show wpAny _ _ (richCompare .Eq (.ref a) u) _ _ _
  refine PySem.W.cmp_K (op := .Eq) hr.units0 hF I.ok.mod.kin J (ty.looks I ry) hn O.at_ O.fn (wpAny_mono (own_run (vs := [.ref a, y]) F hr I.env0 hb I (.cons rfl (.cons ry .nil)) q) (fun w s' z => ?_) fun _ _ z => z)
  obtain ⟨z', H', I', rz, b, eb, qz⟩ := z
  subst eb
  cases rz
  exact ⟨.bl b, H', I', rfl, qz⟩
end
end
end Hk
namespace Hk
open PySem PySem.Spec PyProof.Rows L2
/-! ### != where the class has == alone -/
section
variable {prog : Program} {w : World} {A : Around} {E : Value → Shared → Prop} {s : Shared} {K : Fr} {x C f : Addr} {ox : Obj} {od : Option Obj}
theorem ne_dflt {b tb : Value} {Q : Value → Shared → Prop} (hu : A.units + 2 < cLine) (Y : K.In s.heap) (I : PySem.W.InstAt s.heap x ox C od) (hb : PySem.W.Looks (model prog w) s.heap (typeOf b) tb) (hn : PySem.W.notFirst K C tb = true)
    (hne : PySem.W.findIn K (.ref C) "__ne__" = some (some (.builtin "object.__ne__"))) (he : PySem.W.findIn K (.ref C) "__eq__" = some (some (.ref f))) (hf : PySem.W.isFn K (.ref f) = true) (hob : PySem.W.subIn K (.ref C) (.type "object") = some true)
    (h : wpAny (model prog w) A.in1 (call (.ref f) [.ref x, b]) (fun v s' => ∃ r, v = .bool r ∧ Q (.bool (!r)) s') E s) : wpAny (model prog w) A (richCompare .NotEq (.ref x) b) Q E s := by
  have slot := PySem.F.slot_object_ne
  have body : wpAny (model prog w) A.in1 (Builtin.«object.__ne__» ⟨[.ref x, b], []⟩) (fun fin s' => ∃ v, fin = .done (.ret v) ∧ v ≠ .notImplemented ∧ Q v s') E s := by
    unfold Builtin.«object.__ne__»
    repeat (first
      | with_reducible refine wpAny_cRoomFor (show A.units + 1 < cLine by omega) ?_
      | (refine wpAny_bind (m := callSpecialIfBound? (.ref x) (Str.ofString "__eq__") [b]) (PySem.W.ifBound_K Y I he hf (wpAny_mono h (fun r s' hr => ?_) fun _ _ e => e))
         obtain ⟨b, rfl, hq⟩ := hr)
      | exact ⟨_, rfl, (fun z => nomatch z), hq⟩
      | (refine wpAny_bind (m := truthy (.bool _)) (wpAny_truthy_bool ?_))
      | wp_step)
  have called : wpAny (model prog w) A (call (.builtin "object.__ne__") [.ref x, b]) (fun v s' => v ≠ .notImplemented ∧ Q v s') E s := by
    refine wpAny_call (codeAny_call_builtin slot.plain PySem.F.cmpEntry_ne (PySem.W.check_slot PySem.F.cmpKind_ne PySem.F.cmpSplit_ne (I.type.andThen (PySem.W.looks_subIn Y hob)) (PySem.F.cmpArgs_ne _ _) ?_))
    exact wpAny_mono body (fun fin s' hv => by obtain ⟨v, rfl, q⟩ := hv; exact q) fun _ _ z => z
  have one : wpAny (model prog w) A (tryCompare (.ref x) (cmpInfo .NotEq).2.1 b) (fun r s' => ∃ v, r = some v ∧ Q v s') E s := by
    unfold tryCompare
    refine wpAny_bind ?_
    simp only [callSpecialIfBound?, bindSpecialIfBound?]
    refine wpAny_holding (wpAny_bind (wpAny_bind (wpAny_bind (I.type.here ((PySem.W.looks_findIn Y hne).here ?_)))))
    simp only [slot.bind]
    refine wpAny_bind (wpAny_askSetting (wpAny_ite ?_))
    split
    · refine wpAny_bind (wpAny_pure (wpAny_pure ?_))
      refine wpAny_bind (wpAny_mono called (fun v s' hv => wpAny_pure ?_) fun _ _ z => z)
      obtain ⟨h1, h2⟩ := hv
      cases v <;> first | exact absurd rfl h1 | exact wpAny_pure ⟨_, rfl, h2⟩
    · refine wpAny_tryCatch (wpAny_bind (wpAny_pure (wpAny_pure ?_)))
      refine wpAny_bind (wpAny_mono called (fun v s' hv => wpAny_pure ?_) fun _ _ z => z)
      obtain ⟨h1, h2⟩ := hv
      cases v <;> first | exact absurd rfl h1 | exact wpAny_pure ⟨_, rfl, h2⟩
  unfold richCompare
  simp only [oneThing_ref]
  refine wpAny_holding (wpAny_bind (wpAny_cRoomFor (by omega) ?_))
  refine wpAny_bind (I.type.here (wpAny_bind (hb.here ?_)))
  have nosub : ((Value.ref C != tb) = true) → PySem.W.subIn K tb (.ref C) = some false := fun q => by
    rcases Bool.or_eq_true_iff.mp hn with e | e
    · rw [beq_iff_eq.mp e] at q
      simp at q
    · exact beq_iff_eq.mp e
  split
  · rename_i q
    refine wpAny_bind ((PySem.W.looks_subIn Y (nosub q)).here ?_)
    simp only [Bool.false_eq_true, if_false]
    refine wpAny_bind (wpAny_mono one (fun r s' z => ?_) fun _ _ e => e)
    obtain ⟨v, rfl, hv⟩ := z
    exact wpAny_pure hv
  · refine wpAny_bind (wpAny_pure ?_)
    simp only [Bool.false_eq_true, if_false]
    refine wpAny_bind (wpAny_mono one (fun r s' z => ?_) fun _ _ e => e)
    obtain ⟨v, rfl, hv⟩ := z
    exact wpAny_pure hv
end
section
variable {X : Cx} {k : Nat} {C f : Addr} {fd : FuncData} {ps : List Str} {sp : Sp}
/-- the class has its own ==, and != of object -/
structure NeOf (K : Fr) (C : Addr) : Prop where
  ne : PySem.W.findIn K (.ref C) "__ne__" = some (some (.builtin "object.__ne__"))
  ob : PySem.W.subIn K (.ref C) (.type "object") = some true
def rNeO (K : Fr) (C : Addr) (sp : Sp) : R2 := fun x y H Q => ∃ a dx fs t, x = .ref a ∧ H a = some (.ins C dx fs) ∧ TyL K H y t ∧ PySem.W.notFirst K C t = true ∧ sp [x, y] H (fun z H' => ∃ b, z = .bl b ∧ Q (.bl (!b)) H') E0
theorem op_neO (O : Own X.K C "__eq__" f) (N : NeOf X.K C) (F : FnOk X.prog X.w X.K X.mg X.base CX0 k f fd ps sp) (hb : Binds X.K fd ps []) (hr : Room (k + 1) X.A) : OpR X (compareOp .NotEq) (rNeO X.K C sp) := by
  intro pins s σ H x y v u Q I rx ry h
  obtain ⟨a, dx, fs, t, rfl, ha, ty, hn, q⟩ := h
  cases (show v = Value.ref a from rx)
  obtain ⟨mA, M, _⟩ := ins_get I.hok ha
  obtain ⟨od, J, _⟩ := M.look
  have r2 : Room k X.A.in1 := Room.in1 hr
  show wpAny _ _ (richCompare .NotEq (.ref a) u) _ _ _
  refine ne_dflt (by have := hr.units; omega) I.kIn J (ty.looks I ry) hn N.ne O.at_ O.fn N.ob (wpAny_mono (own_run (vs := [.ref a, y]) F r2 I.env0.in1 hb I (.cons rfl (.cons ry .nil)) q) (fun w s' z => ?_) fun _ _ z => z)
  obtain ⟨z', H', I', rz, b, eb, qz⟩ := z
  subst eb
  cases rz
  exact ⟨b, rfl, .bl (!b), H', I', rfl, qz⟩
end
/-! ### a static method, called off its class by one keyword or more -/
structure Stat (K : Fr) (C : Addr) (mc : Value) (m : Str) (p g : Addr) : Prop where
  rd : ClX.CRead K C mc
  at_ : PySem.W.findCls K (.ref C) mc m = some (.get (.builtin "staticmethod.__get__") (.ref p) .none (.ref C))
  rc : ∃ rest, PySem.W.recIn K p "staticmethod" = some (.ref g :: rest)
  kp : PySem.W.keepIn K (.ref g) = true
def tStatK (C : Addr) (sp : Sp) (ta : TE) (tk : TA) : TE := fun σ H Q => ta σ H fun x H1 => x = .ref C ∧ tk σ H1 fun vs H2 => sp vs H2 Q E0
section
variable {X : Cx} {k : Nat} {C p g : Addr} {mc : Value} {m : Str} {fd : FuncData} {ps : List Str} {sp : Sp} {o : Expr} {kws : List Keyword} {ta : TE} {tk : TA} {pos apos : Pos} {pl : Sem Bool}
theorem pe_statK (he : PE X o ta) (S : Stat X.K C mc m p g) (F : FnOk X.prog X.w X.K X.mg X.base CX0 k g fd ps sp) (hr : Room k X.A)
    (hbk : ∀ (s : Shared) (ws : List Value), X.K.In s.heap → ws.length = ps.length → BindsTo s fd ⟨[], ps.zip ws⟩ (ps.zip ws)) (hk : PK X kws tk)
    (hall : (backToKw pos (keywordEach kws X.env)).all (·.1.isSome) = true := by rfl) (hks : (backToKw pos (keywordEach kws X.env)).filterMap (·.1) = ps := by rfl)
    (hpl : ((backTo pos (starEach [] X.env)).any (·.1) || (backToKw pos (keywordEach kws X.env)).any (·.1.isNone)) = false := by rfl)
    (ht : eval (.Call (.Attribute o m apos) [] kws pos) X.env = (do
      let ov ← eval o X.env
      standAt apos.atName
      let (f, first) ← holding [ov] (getMethod ov m pl)
      callWith pos f first (backTo pos (starEach [] X.env)) (backToKw pos (keywordEach kws X.env))) := by rfl) :
    PE X (.Call (.Attribute o m apos) [] kws pos) (tStatK C sp ta tk) := by
  refine ⟨fun pins s σ H Q I h => PySem.W.methodCall_KW (pl := pl) (thn (he.run pins s σ H _ I h) fun u s1 hu => ?_) ht⟩
  obtain ⟨x, H1, I1, rx, ex, q⟩ := hu
  subst ex
  obtain rfl : u = Value.ref C := rx
  obtain ⟨rest, hp⟩ := S.rc
  refine PySem.W.method_cls I1.kIn S.rd.ga (PySem.W.cls_bind I1.kIn S.rd.rd S.at_ (wpAny_call (PySem.W.sm_get (s := { s1 with toks := s1.toks + 1 }) I1.kIn hp (PySem.W.handed_on rfl ?_))))
  refine PySem.W.callWith_KW0 (h₀ := X.base) I1.ok.mod.kin S.kp hall (thn (hk.run pos pins _ σ H1 _ (I1.tok _) q) fun ws s2 hw => ?_) hpl
  obtain ⟨vs, H2, I2, rv, q2⟩ := hw
  have ln : ws.length = ps.length := rv.length.symm.trans (F.len _ _ _ _ q2)
  refine ⟨I2.kIn, ?_⟩
  rw [hks]
  refine wpAny_call (codeAny_mono (F.run X.A X.stack s2 H2 ⟨[], ps.zip ws⟩ ws vs Q E0 hr I2.env0 (hbk s2 ws I2.kIn ln) rv q2) fun z s' hq => ?_)
  rcases z with e | fl
  · exact (show False from hq).elim
  · cases fl with
    | ret u => exact I2.after hq
    | _ => exact (show False from hq).elim
end
end Hk
namespace Hk
open PySem PySem.Spec PyProof.Rows L2
theorem ne_ok {K : Fr} {x : Str} (c : tNe x K = true) : NeOf K (He.ga K x) := by
  obtain ⟨c1, c2⟩ := He.ba c
  exact ⟨He.eqO_ok c1, of_decide_eq_true c2⟩
theorem own_ok {K : Fr} {x m : Str} (c : tMeth x m K = true) : Own K (He.ga K x) m (mAd x m K) := by
  have h := He.meth_ok c
  exact ⟨h.at_, h.fn⟩
theorem stat_ok {K : Fr} {x m : Str} (c : tStat x m K = true) : Stat K (He.ga K x) (.type "type") m (He.ma K (He.ga K x) m) (statAd x m K) := by
  obtain ⟨c1, c⟩ := He.ba c
  obtain ⟨c2, c⟩ := He.ba c
  obtain ⟨c3, c4⟩ := He.ba c
  obtain ⟨h1, h2⟩ := He5.wrapB_ok c1
  exact ⟨⟨c2, He.eqO_ok c3⟩, h1, h2, c4⟩
end Hk

/-! Operators of an own class: with its own, with an int on either side; neg, abs; += without an own one. -/
namespace Hk
open PySem PySem.Spec PyProof.Rows L2
section
variable {prog : Program} {w : World} {A : Around} {E : Value → Shared → Prop} {s : Shared} {K : Fr} {x C f g : Addr} {ox : Obj} {od : Option Obj}
/-- an int's own operator declines an instance -/
def Declines (id : String) : Prop := ∀ (prog : Program) (w : World) (A : Around) (E : Value → Shared → Prop) (s : Shared) (i : Int) (t : Tok) (x C dx : Addr) (Q : Value → Shared → Prop), s.heap.get? x = some (PySem.W.instObj C dx) → Q .notImplemented s →
  wpAny (model prog w) A (call (.builtin id) [.int i t, .ref x]) Q E s
theorem decl_add : Declines "int.__add__" := by
  intro prog w A E s i t x C dx Q ho q
  refine wpAny_call (codeAny_call_builtin F.slot_int_add.plain F.entry_int_add (F.slot_int_add.check _ _ _ _ _ _ _ _ (typeIs_int s i t) (F.args_int_add_2 _ _) ?_))
  unfold Builtin.«int.__add__» Builtin.Int.intBinary
  refine wpAny_bind (m := slotArgs "__add__" 1 _) (wpAny_pure ?_)
  refine wpAny_bind (m := Builtin.Int.intOfSelf _) (wpAny_pure ?_)
  refine wpAny_bind (m := asInt? _) (wpAny_bind (wpAny_load ho (wpAny_pure ?_)))
  refine wpAny_bind (wpAny_rule (wpAny_pure ?_))
  exact q
theorem decl_sub : Declines "int.__sub__" := by
  intro prog w A E s i t x C dx Q ho q
  refine wpAny_call (codeAny_call_builtin F.slot_int_sub.plain F.entry_int_sub (F.slot_int_sub.check _ _ _ _ _ _ _ _ (typeIs_int s i t) (F.args_int_sub_2 _ _) ?_))
  unfold Builtin.«int.__sub__» Builtin.Int.intBinary
  refine wpAny_bind (m := slotArgs "__sub__" 1 _) (wpAny_pure ?_)
  refine wpAny_bind (m := Builtin.Int.intOfSelf _) (wpAny_pure ?_)
  refine wpAny_bind (m := asInt? _) (wpAny_bind (wpAny_load ho (wpAny_pure ?_)))
  refine wpAny_bind (wpAny_rule (wpAny_pure ?_))
  exact q
theorem decl_mul : Declines "int.__mul__" := by
  intro prog w A E s i t x C dx Q ho q
  refine wpAny_call (codeAny_call_builtin F.slot_int_mul.plain F.entry_int_mul (F.slot_int_mul.check _ _ _ _ _ _ _ _ (typeIs_int s i t) (F.args_int_mul_2 _ _) ?_))
  unfold Builtin.«int.__mul__» Builtin.Int.intBinary
  refine wpAny_bind (m := slotArgs "__mul__" 1 _) (wpAny_pure ?_)
  refine wpAny_bind (m := Builtin.Int.intOfSelf _) (wpAny_pure ?_)
  refine wpAny_bind (m := asInt? _) (wpAny_bind (wpAny_load ho (wpAny_pure ?_)))
  refine wpAny_bind (wpAny_rule (wpAny_pure ?_))
  exact q
/-- int op instance: the class's reflected operator -/
theorem rbin_own {op : Operator} {id : String} {i : Int} {t : Tok} {dx : Addr} {Q : Value → Shared → Prop} (Y : K.In s.heap) (I : PySem.W.InstAt s.heap x (PySem.W.instObj C dx) C od) (hc : PySem.W.selfFirst K C = true)
    (fT : fillsNumberSlot (.type "int") op.info.2 = pure true) (slot : Slot "int" (PySem.dunder op.info.2) id) (dec : Declines id) (hs : PySem.W.findIn K (.ref C) (PySem.dunder op.info.2) = some (some (.ref f)))
    (hsub : PySem.W.subIn K (.ref C) (.type "int") = some false) (hr : PySem.W.findIn K (.ref C) (dunderR op.info.2) = some (some (.ref g))) (hg : PySem.W.isFn K (.ref g) = true)
    (h : wpAny (model prog w) A (call (.ref g) [.ref x, .int i t]) (PySem.W.CmpBack Q) E s) : wpAny (model prog w) A (binaryOp op (.int i t) (.ref x)) Q E s := by
  obtain ⟨cd, rest, hcd, hm⟩ := PySem.W.ksp_first hc
  rcases hi : op.info with ⟨sym, nm⟩
  rw [hi] at fT slot hs hr
  dsimp only at fT slot hs hr
  simp only [binaryOp, hi]
  refine wpAny_holding ?_
  simp only [binaryOp1]
  refine wpAny_bind (wpAny_bind (wpAny_typeOf (typeIs_int s i t) ?_))
  refine wpAny_bind (I.type.here (wpAny_bind (wpAny_of_eq fT ?_)))
  have hne : (Value.type "int" == Value.ref C) = false := Bool.eq_false_iff.mpr fun q => nomatch beq_iff_eq.mp q
  simp only [hne, Bool.false_eq_true, if_false]
  refine wpAny_bind ((PySem.W.fills_K Y hcd hm hs).here ?_)
  simp only [Bool.and_self, if_true]
  refine wpAny_bind ((PySem.W.looks_subIn Y hsub).here ?_)
  have hpy : numberSlotInPython (.type "int") nm = pure false := rfl
  simp only [Bool.false_eq_true, if_false, pure_bind, Bool.not_false, Bool.and_self, if_true, hpy]
  refine wpAny_bind (wpAny_tryMethod_declines (typeIs_int s i t) slot (dec _ _ _ _ _ _ _ _ _ _ _ I.at_ ⟨rfl, ?_⟩))
  refine wpAny_bind ?_
  unfold tryMethod
  refine wpAny_bind (PySem.W.special_fn Y I hr (beq_iff_eq.mp hg) (wpAny_mono h (fun v s' hv => ?_) fun _ _ e => e))
  cases v <;> first | exact hv.elim | exact wpAny_pure (wpAny_bind (wpAny_rule (wpAny_pure (wpAny_pure hv))))
/-- the class names no operator in place -/
theorem noInplace {M : Model} {h : Heap} {nm : String} {cd : ClassData} {add : Bool} (Y : K.In h) (hc : PySem.W.clsIn K C = some cd) (hm : cd.mro = [.ref C, .type "object"]) (h1 : PySem.W.findIn K (.ref C) (dunderI nm) = some none)
    (h2 : PySem.W.findIn K (.type "object") (dunderI nm) = some none) : PySem.W.Looks M h (fillsInplaceSlot (.ref C) nm add) false := by
  intro A' Q E' s' k q
  have Lm := ((PySem.W.looks_clsIn (M := M) Y hc).andThen (f := fun cd => pure cd.mro) .now).keeps k
  obtain ⟨hh, gg, d, tt, os⟩ := s'
  have Y' : K.In hh := Y.keeps k
  have L1 : PySem.W.Looks M hh (typeLookup (.ref C) (dunderI nm)) none := PySem.W.looks_findIn Y' h1
  have L2 : PySem.W.Looks M hh (typeLookup (.type "object") (dunderI nm)) none := PySem.W.looks_findIn Y' h2
  unfold fillsInplaceSlot
  refine wpAny_bind (Lm.at ?_)
  rw [hm, List.anyM_cons, List.anyM_cons, List.anyM_nil]
  refine wpAny_bind (wpAny_bind (L1.at (wpAny_pure ?_)))
  refine wpAny_bind (wpAny_bind (L2.at (wpAny_pure ?_)))
  exact wpAny_pure q
/-- what the class must have for an operator, with its own and with ints -/
structure BinF (K : Fr) (C : Addr) (nm : String) (f : Addr) : Prop where
  self : PySem.W.selfFirst K C = true
  at_ : PySem.W.findIn K (.ref C) (PySem.dunder nm) = some (some (.ref f))
  fn : PySem.W.isFn K (.ref f) = true
  rr : ∃ rc, PySem.W.findIn K (.ref C) (dunderR nm) = some rc ∧ (rc = none ∨ ∃ g : Addr, rc = some (.ref g))
  i1 : ∃ fo, PySem.W.findIn K (.type "int") (PySem.dunder nm) = some fo
  i2 : ∃ ro, PySem.W.findIn K (.type "int") (dunderR nm) = some ro
  sub : PySem.W.subIn K (.type "int") (.ref C) = some false
/-- the operator's first part: with its own, with an int -/
theorem bin1_own {nm : String} {b : Value} {Q : Value → Shared → Prop} (Y : K.In s.heap) (I : PySem.W.InstAt s.heap x ox C od) (B : BinF K C nm f) (hb : PySem.W.Looks (model prog w) s.heap (typeOf b) (.ref C))
    (h : wpAny (model prog w) A (call (.ref f) [.ref x, b]) (PySem.W.CmpBack Q) E s) : wpAny (model prog w) A (binaryOp1 nm (.ref x) b) (fun r s' => ∃ v, r = some v ∧ Q v s') E s := by
  obtain ⟨cd, rest, hcd, hm⟩ := PySem.W.ksp_first B.self
  unfold binaryOp1
  refine wpAny_bind (I.type.here (wpAny_bind (hb.here (wpAny_bind ((PySem.W.fills_K Y hcd hm B.at_).here ?_)))))
  simp only [beq_self_eq_true, if_true]
  refine wpAny_bind (wpAny_pure ?_)
  simp only [Bool.and_false, Bool.false_eq_true, if_false, Bool.false_and]
  refine wpAny_bind (wpAny_pure ?_)
  simp only [Bool.false_eq_true, if_false]
  refine wpAny_bind (wpAny_mono (PySem.W.ksp_try Y I B.at_ B.fn h) (fun r s' hr => ?_) fun _ _ e => e)
  obtain ⟨v, rfl, hq⟩ := hr
  exact wpAny_pure ⟨v, rfl, hq⟩
theorem bin1_int {nm : String} {i : Int} {t : Tok} {Q : Value → Shared → Prop} (Y : K.In s.heap) (I : PySem.W.InstAt s.heap x ox C od) (B : BinF K C nm f)
    (h : wpAny (model prog w) A (call (.ref f) [.ref x, .int i t]) (PySem.W.CmpBack Q) E s) : wpAny (model prog w) A (binaryOp1 nm (.ref x) (.int i t)) (fun r s' => ∃ v, r = some v ∧ Q v s') E s := by
  obtain ⟨cd, rest, hcd, hm⟩ := PySem.W.ksp_first B.self
  have one := PySem.W.ksp_try Y I B.at_ B.fn h
  obtain ⟨rc, hr, hp⟩ := B.rr
  obtain ⟨fo, h1⟩ := B.i1
  obtain ⟨ro, h2⟩ := B.i2
  obtain ⟨hh, gg, d, tt, os⟩ := s
  have L1 : PySem.W.Looks (model prog w) hh (typeOf (.ref x)) (.ref C) := I.type
  have L2 : PySem.W.Looks (model prog w) hh (typeOf (.int i t)) (.type "int") := PySem.W.Looks.of_pure rfl
  have L3 : PySem.W.Looks (model prog w) hh (fillsNumberSlot (.ref C) nm) true := PySem.W.fills_K Y hcd hm B.at_
  have L4 : PySem.W.Looks (model prog w) hh (fillsNumberSlot (.type "int") nm) ((fo.isSome && !isSeqSlot fo) || (ro.isSome && !isSeqSlot ro)) := PySem.W.ksp_fillsT Y h1 h2
  have L5 : PySem.W.Looks (model prog w) hh (isSubtype (.type "int") (.ref C)) false := PySem.W.looks_subIn Y B.sub
  have L6 : PySem.W.Looks (model prog w) hh (numberSlotInPython (.ref C) nm) true := PySem.W.ksp_inPy Y B.at_ hr hp
  have L7 : PySem.W.Looks (model prog w) hh (numberSlotInPython (.type "int") nm) false := PySem.W.Looks.of_pure rfl
  have L8 : PySem.W.Looks (model prog w) hh (typeLookup (.type "int") (dunderR nm)) ro := PySem.W.looks_findIn Y h2
  generalize ((fo.isSome && !isSeqSlot fo) || (ro.isSome && !isSeqSlot ro)) = right at L4
  have hne : (Value.ref C == Value.type "int") = false := Bool.eq_false_iff.mpr fun q => nomatch beq_iff_eq.mp q
  unfold binaryOp1
  refine wpAny_bind (L1.at (wpAny_bind (L2.at (wpAny_bind (L3.at ?_)))))
  simp only [hne, Bool.false_eq_true, if_false]
  cases right with
  | false =>
    ksp_lk
    refine wpAny_mono one (fun r s' hr' => ?_) fun _ _ e => e
    obtain ⟨v, rfl, hq⟩ := hr'
    ksp_lk
    exact ⟨v, rfl, hq⟩
  | true =>
    ksp_lk
    refine wpAny_mono one (fun r s' hr' => ?_) fun _ _ e => e
    obtain ⟨v, rfl, hq⟩ := hr'
    ksp_lk
    exact ⟨v, rfl, hq⟩
theorem bin_of1 {op : Operator} {a b : Value} {Q : Value → Shared → Prop} (h : wpAny (model prog w) A (binaryOp1 op.info.2 a b) (fun r s' => ∃ v, r = some v ∧ Q v s') E s) : wpAny (model prog w) A (binaryOp op a b) Q E s := by
  rcases hi : op.info with ⟨sym, nm⟩
  rw [hi] at h
  simp only [binaryOp, hi]
  refine wpAny_holding (wpAny_bind (wpAny_mono h (fun r s' hr => ?_) fun _ _ e => e))
  obtain ⟨v, rfl, hq⟩ := hr
  exact wpAny_pure hq
/-- op= by the plain operator -/
theorem ip_of1 {op : Operator} {cd : ClassData} {b : Value} {Q : Value → Shared → Prop} (Y : K.In s.heap) (I : PySem.W.InstAt s.heap x ox C od) (hc : PySem.W.clsIn K C = some cd) (hm : cd.mro = [.ref C, .type "object"])
    (h1 : PySem.W.findIn K (.ref C) (dunderI op.info.2) = some none) (h2 : PySem.W.findIn K (.type "object") (dunderI op.info.2) = some none)
    (h : wpAny (model prog w) A (binaryOp1 op.info.2 (.ref x) b) (fun r s' => ∃ v, r = some v ∧ Q v s') E s) : wpAny (model prog w) A (inplaceOp op (.ref x) b) Q E s := by
  unfold inplaceOp
  refine wpAny_holding (wpAny_bind (I.type.here (wpAny_bind ((noInplace Y hc hm h1 h2).here ?_))))
  simp only [Bool.false_eq_true, if_false]
  refine wpAny_bind (wpAny_mono h (fun r s' hr => ?_) fun _ _ e => e)
  obtain ⟨v, rfl, hq⟩ := hr
  exact wpAny_pure hq
end
end Hk
namespace Hk
open PySem PySem.Spec PyProof.Rows L2
theorem backC {Q : Value → Shared → Prop} {z : V} {u : Value} {s' : Shared} (r : RelV z u) (h : Q u s') : PySem.W.CmpBack Q u s' := by
  cases z with
  | non => cases r; exact h
  | bl b => cases r; exact h
  | int i => obtain ⟨t, rfl⟩ := r; exact h
  | str y => obtain ⟨t, rfl⟩ := r; exact h
  | byt y => obtain ⟨t, rfl⟩ := r; exact h
  | flt y => obtain ⟨t, rfl⟩ := r; exact h
  | ref a => cases r; exact h
  | ty n => cases r; exact h
/-- x op y: x of the class at C, y another or an int: the def's promise -/
def rBinO (C : Addr) (sp : Sp) : R2 := fun x y H Q => ∃ a dx fs, x = .ref a ∧ H a = some (.ins C dx fs) ∧ ((∃ i, y = .int i) ∨ ∃ b dy gs, y = .ref b ∧ H b = some (.ins C dy gs)) ∧ sp [x, y] H Q E0
/-- i op y, i an int -/
def rRbinO (C : Addr) (sp : Sp) : R2 := fun x y H Q => ∃ i b dy gs, x = .int i ∧ y = .ref b ∧ H b = some (.ins C dy gs) ∧ sp [y, x] H Q E0
def rUnO (C : Addr) (sp : Sp) : V → Hp → VK → Prop := fun x H Q => ∃ a dx fs, x = .ref a ∧ H a = some (.ins C dx fs) ∧ sp [x] H Q E0
/-- the class's mro is itself and object, it names no op= -/
structure NoIp (K : Fr) (C : Addr) (nm : String) : Prop where
  mro : ∃ cd, PySem.W.clsIn K C = some cd ∧ cd.mro = [.ref C, .type "object"]
  no : PySem.W.findIn K (.ref C) (dunderI nm) = some none
  noO : PySem.W.findIn K (.type "object") (dunderI nm) = some none
/-- the reflected one -/
structure RbinF (K : Fr) (C : Addr) (nm : String) (g : Addr) : Prop where
  at_ : PySem.W.findIn K (.ref C) (dunderR nm) = some (some (.ref g))
  fn : PySem.W.isFn K (.ref g) = true
  sub : PySem.W.subIn K (.ref C) (.type "int") = some false
section
variable {X : Cx} {k : Nat} {C f g : Addr} {fd : FuncData} {ps : List Str} {sp : Sp} {op : Operator}
theorem bin1_run {pins : List (Addr × Obj)} {s : Shared} {σ : L2.St} {H : Hp} {x y : V} {v u : Value} {Q : VK} (B : BinF X.K C op.info.2 f) (F : FnOk X.prog X.w X.K X.mg X.base CX0 k f fd ps sp) (hb : Binds X.K fd ps []) (hr : Room k X.A)
    (I : Inv X pins σ H s) (rx : RelV x v) (ry : RelV y u) (h : rBinO C sp x y H Q) :
    wpAny (model X.prog X.w) X.A (binaryOp1 op.info.2 v u) (fun r s' => ∃ w, r = some w ∧ EP X pins σ Q w s') X.xe s := by
  obtain ⟨a, dx, fs, rfl, ha, hy, q⟩ := h
  cases (show v = Value.ref a from rx)
  obtain ⟨mA, M, _⟩ := ins_get I.hok ha
  obtain ⟨od, J, _⟩ := M.look
  have run : wpAny (model X.prog X.w) X.A (call (.ref f) [.ref a, u]) (PySem.W.CmpBack (EP X pins σ Q)) X.xe s :=
    wpAny_mono (own_run (vs := [.ref a, y]) F hr I.env0 hb I (.cons rfl (.cons ry .nil)) q) (fun w s' z => by
      obtain ⟨z', H', I', rz, qz⟩ := id z
      exact backC rz z) fun _ _ z => z
  rcases hy with ⟨i, rfl⟩ | ⟨b, dy, gs, rfl, hb2⟩
  · obtain ⟨t, rfl⟩ := (show ∃ t, u = Value.int i t from ry)
    exact bin1_int I.kIn J B run
  · exact bin1_own I.kIn J B (TyL.looks I ry (.ins hb2)) run
theorem op_binO (B : BinF X.K C op.info.2 f) (F : FnOk X.prog X.w X.K X.mg X.base CX0 k f fd ps sp) (hb : Binds X.K fd ps []) (hr : Room k X.A) : OpR X (binaryOp op) (rBinO C sp) :=
  fun pins s σ H x y v u Q I rx ry h => bin_of1 (bin1_run B F hb hr I rx ry h)
theorem ip_binO (B : BinF X.K C op.info.2 f) (N : NoIp X.K C op.info.2) (F : FnOk X.prog X.w X.K X.mg X.base CX0 k f fd ps sp) (hb : Binds X.K fd ps []) (hr : Room k X.A) : PIp X op (rBinO C sp) := by
  intro pins s σ H x y v u Q I rx ry h
  obtain ⟨a, dx, fs, ex, ha, _⟩ := id h
  subst ex
  obtain ⟨mA, M, _⟩ := ins_get I.hok ha
  obtain ⟨od, J, _⟩ := M.look
  obtain ⟨cd, m1, m2⟩ := N.mro
  have e : v = Value.ref a := rx
  subst e
  exact ip_of1 I.kIn J m1 m2 N.no N.noO (bin1_run B F hb hr I rx ry h)
theorem op_rbinO {bi : String} (B : BinF X.K C op.info.2 f) (R : RbinF X.K C op.info.2 g) (fT : fillsNumberSlot (.type "int") op.info.2 = pure true) (slot : Slot "int" (PySem.dunder op.info.2) bi) (dec : Declines bi)
    (F : FnOk X.prog X.w X.K X.mg X.base CX0 k g fd ps sp) (hb : Binds X.K fd ps []) (hr : Room k X.A) : OpR X (binaryOp op) (rRbinO C sp) := by
  intro pins s σ H x y v u Q I rx ry h
  obtain ⟨i, b, dy, gs, rfl, rfl, ha, q⟩ := h
  obtain ⟨t, rfl⟩ := (show ∃ t, v = Value.int i t from rx)
  cases (show u = Value.ref b from ry)
  obtain ⟨mA, M, _⟩ := ins_get I.hok ha
  obtain ⟨od, J, _⟩ := M.look
  exact rbin_own I.kIn J B.self fT slot dec B.at_ R.sub R.at_ R.fn (wpAny_mono (own_run (vs := [.ref b, .int i]) F hr I.env0 hb I (.cons rfl (.cons rx .nil)) q) (fun w s' z => by
      obtain ⟨z', H', I', rz, qz⟩ := id z
      exact backC rz z) fun _ _ z => z)
theorem op_negO (O : Own X.K C "__neg__" f) (F : FnOk X.prog X.w X.K X.mg X.base CX0 k f fd ps sp) (hb : Binds X.K fd ps []) (hr : Room k X.A) : UnR X (unaryOp .USub) (rUnO C sp) := by
  intro pins s σ H x v Q I rx h
  obtain ⟨a, dx, fs, rfl, ha, q⟩ := h
  cases (show v = Value.ref a from rx)
  obtain ⟨mA, M, _⟩ := ins_get I.hok ha
  obtain ⟨od, J, _⟩ := M.look
  obtain ⟨m, hF⟩ := I.fr
  exact PySem.W.ksp_neg hF I.ok.mod.kin J O.at_ O.fn (own_run (vs := [.ref a]) F hr I.env0 hb I (.cons rfl .nil) q)
theorem call_absO (O : Own X.K C "__abs__" f) (F : FnOk X.prog X.w X.K X.mg X.base CX0 k f fd ps sp) (hb : Binds X.K fd ps []) (hr : Room (k + 1) X.A) : CallR X (.builtin "abs") (fun xs H Q => ∃ x, xs = [x] ∧ rUnO C sp x H Q) := by
  intro pins s σ H xs us Q I r h
  obtain ⟨x, rfl, a, dx, fs, rfl, ha, q⟩ := h
  obtain ⟨u, rfl, ru⟩ := r.one
  cases (show u = Value.ref a from ru)
  obtain ⟨mA, M, _⟩ := ins_get I.hok ha
  obtain ⟨od, J, _⟩ := M.look
  have r2 : Room k X.A.in1 := Room.in1 hr
  refine Calls.call_function_entry kind_abs plain_abs entry_abs (args_abs _) ?_
  unfold Builtin.«abs»
  refine wpAny_bind (m := oneArg "abs" _) (wpAny_pure ?_)
  refine wpAny_bind (m := callSpecial? (.ref a) (Str.ofString "__abs__")) (PySem.W.special_fn I.kIn J O.at_ (beq_iff_eq.mp O.fn) (wpAny_mono (own_run (vs := [.ref a]) F r2 I.env0.in1 hb I (.cons rfl .nil) q) (fun v s' z => ?_) fun _ _ z => z))
  exact wpAny_pure ⟨_, rfl, z⟩
end
/-! ### their facts -/
def tBin (x : Str) (nm : String) : Tst := fun K => PySem.W.selfFirst K (He.ga K x) && (tMeth x (PySem.dunder nm) K && ((match PySem.W.findIn K (.ref (He.ga K x)) (dunderR nm) with
    | some none => true
    | some (some (.ref _)) => true
    | _ => false) && ((PySem.W.findIn K (.type "int") (PySem.dunder nm)).isSome && ((PySem.W.findIn K (.type "int") (dunderR nm)).isSome && decide (PySem.W.subIn K (.type "int") (.ref (He.ga K x)) = some false)))))
def tRbin (x : Str) (nm : String) : Tst := fun K => tMeth x (dunderR nm) K && decide (PySem.W.subIn K (.ref (He.ga K x)) (.type "int") = some false)
def tNoIp (x : Str) (nm : String) : Tst := fun K => (match PySem.W.clsIn K (He.ga K x) with
    | some cd => decide (cd.mro = [.ref (He.ga K x), .type "object"])
    | none => false) && (He.eqO (PySem.W.findIn K (.ref (He.ga K x)) (dunderI nm)) (some none) && He.eqO (PySem.W.findIn K (.type "object") (dunderI nm)) (some none))
theorem bin_ok {K : Fr} {x : Str} {nm : String} (c : tBin x nm K = true) : BinF K (He.ga K x) nm (mAd x (PySem.dunder nm) K) := by
  obtain ⟨c1, c⟩ := He.ba c
  obtain ⟨c2, c⟩ := He.ba c
  obtain ⟨c3, c⟩ := He.ba c
  obtain ⟨c4, c⟩ := He.ba c
  obtain ⟨c5, c6⟩ := He.ba c
  have m := He.meth_ok c2
  refine ⟨c1, m.at_, m.fn, ?_, Option.isSome_iff_exists.mp c4, Option.isSome_iff_exists.mp c5, of_decide_eq_true c6⟩
  cases e : PySem.W.findIn K (.ref (He.ga K x)) (dunderR nm) with
  | none =>
    rw [e] at c3
    exact nomatch c3
  | some o =>
    rw [e] at c3
    cases o with
    | none => exact ⟨none, rfl, .inl rfl⟩
    | some v =>
      cases v with
      | ref g => exact ⟨_, rfl, .inr ⟨g, rfl⟩⟩
      | _ => exact nomatch c3
theorem rbin_ok {K : Fr} {x : Str} {nm : String} (c : tRbin x nm K = true) : RbinF K (He.ga K x) nm (mAd x (dunderR nm) K) := by
  obtain ⟨c1, c2⟩ := He.ba c
  have m := He.meth_ok c1
  exact ⟨m.at_, m.fn, of_decide_eq_true c2⟩
theorem noip_ok {K : Fr} {x : Str} {nm : String} (c : tNoIp x nm K = true) : NoIp K (He.ga K x) nm := by
  obtain ⟨c1, c⟩ := He.ba c
  obtain ⟨c2, c3⟩ := He.ba c
  refine ⟨?_, He.eqO_ok c2, He.eqO_ok c3⟩
  cases e : PySem.W.clsIn K (He.ga K x) with
  | none =>
    rw [e] at c1
    exact nomatch c1
  | some cd =>
    rw [e] at c1
    exact ⟨cd, rfl, of_decide_eq_true c1⟩
end Hk

/-! A method called by one keyword or more. -/
namespace Hk
open PySem PySem.Spec PyProof.Rows L2
def tMethK (C : Addr) (m : Str) (sp : Sp) (ta : TE) (tk : TA) : TE := fun σ H Q => ta σ H fun x H1 => ∃ a dx fs, x = .ref a ∧ H1 a = some (.ins C dx fs) ∧ fs.lookup m = none ∧ tk σ H1 fun vs H2 => sp (x :: vs) H2 Q E0
section
variable {X : Cx} {k : Nat} {C p f : Addr} {m : Str} {fd : FuncData} {p1 : Str} {ps : List Str} {sp : Sp} {o : Expr} {kws : List Keyword} {ta : TE} {tk : TA} {pos apos : Pos} {pl : Sem Bool}
theorem pe_methK (he : PE X o ta) (c : Cls X.K C) (hm : Meth X.K C m f) (F : FnOk X.prog X.w X.K X.mg X.base CX0 k f fd (p1 :: ps) sp) (hr : Room k X.A)
    (hbk : ∀ (s : Shared) (v : Value) (ws : List Value), X.K.In s.heap → ws.length = ps.length → BindsTo s fd ⟨[v], ps.zip ws⟩ ((p1 :: ps).zip (v :: ws))) (hk : PK X kws tk)
    (hall : (backToKw pos (keywordEach kws X.env)).all (·.1.isSome) = true := by rfl) (hks : (backToKw pos (keywordEach kws X.env)).filterMap (·.1) = ps := by rfl)
    (hpl : ((backTo pos (starEach [] X.env)).any (·.1) || (backToKw pos (keywordEach kws X.env)).any (·.1.isNone)) = false := by rfl)
    (ht : eval (.Call (.Attribute o m apos) [] kws pos) X.env = (do
      let ov ← eval o X.env
      standAt apos.atName
      let (f, first) ← holding [ov] (getMethod ov m pl)
      callWith pos f first (backTo pos (starEach [] X.env)) (backToKw pos (keywordEach kws X.env))) := by rfl) :
    PE X (.Call (.Attribute o m apos) [] kws pos) (tMethK C m sp ta tk) := by
  refine ⟨fun pins s σ H Q I h => PySem.W.methodCall_KW (pl := pl) (thn (he.run pins s σ H _ I h) fun u s1 hu => ?_) ht⟩
  obtain ⟨x, H1, I1, rx, a, dx, fs, ex, ea, l, q⟩ := hu
  subst ex
  obtain rfl : u = Value.ref a := rx
  refine getmeth_ok I1 ea c hm l ?_
  refine PySem.W.callWith_KW0 (first := [.ref a]) (h₀ := X.base) I.ok.mod.kin hm.kp hall (thn (hk.run pos pins s1 σ H1 _ I1 q) fun ws s2 hw => ?_) hpl
  obtain ⟨vs, H2, I2, rv, q2⟩ := hw
  have rv2 : Vals (.ref a :: vs) (.ref a :: ws) := .cons rfl rv
  have ln : ws.length = ps.length := by
    have h1 := rv2.length
    have h2 := F.len _ _ _ _ q2
    simp only [List.length_cons] at h1 h2
    omega
  refine ⟨I2.kIn, ?_⟩
  rw [hks]
  refine wpAny_call (codeAny_mono (F.run X.A X.stack s2 H2 ⟨[.ref a], ps.zip ws⟩ (.ref a :: ws) (.ref a :: vs) Q E0 hr I2.env0 (hbk s2 _ ws I2.kIn ln) rv2 q2) fun z s' hq => ?_)
  rcases z with e | fl
  · exact (show False from hq).elim
  · cases fl with
    | ret u => exact I2.after hq
    | _ => exact (show False from hq).elim
end
end Hk

/-! Exceptions of own classes: tests of the written part, defs that raise, what a suite asks of what it caught. -/
namespace Hk
open PySem PySem.Spec PyProof.Rows L2
/-! ### tests -/
def oexB (K : Fr) (C : Addr) : Bool := (match K.lookup C with
  | some ⟨.type "type", _, .cls cd, sl⟩ => (match cd.mro, sl.toList with
    | .ref C' :: bm, [_, _, _, _, some (.builtin n), _] => C' == C && (n == "ValueError.__new__" && (!cd.hasDel && (cd.hasDict && PySem.HandSPX.refsVE bm)))
    | _, _ => false)
  | _ => false) && (He.eqO (PySem.W.findIn K (.ref C) "__setattr__") (some (some (.builtin "object.__setattr__"))) && (decide (PySem.W.subIn K (.ref C) (.type "BaseException") = some true) && (decide (PySem.W.typeIn K (.ref C) = some (.type "type")) && PySem.W.keepIn K (.ref C))))
theorem oexB_ok {K : Fr} {C : Addr} (q : oexB K C = true) : OexC K C := by
  obtain ⟨q, c⟩ := He.ba q
  obtain ⟨c1, c⟩ := He.ba c
  obtain ⟨c2, c⟩ := He.ba c
  obtain ⟨c3, c4⟩ := He.ba c
  refine ⟨?_, He.eqO_ok c1, of_decide_eq_true c2, of_decide_eq_true c3, c4⟩
  split at q
  · rename_i dd cd sl ho
    split at q
    · rename_i C' bm k0 k1 k2 k3 n k5 hm hs
      simp only [Bool.and_eq_true, beq_iff_eq, Bool.not_eq_true'] at q
      obtain ⟨rfl, rfl, hdel, hdct, hv⟩ := q
      obtain ⟨nm, bs, mro, ns, qn, hd, sn, sub, ab, col, del⟩ := cd
      dsimp only at hm hdel hdct
      subst hm hdel hdct
      have hsl : sl = #[k0, k1, k2, k3, some (.builtin "ValueError.__new__"), k5] := by
        obtain ⟨l⟩ := sl
        simp only at hs
        rw [hs]
      subst hsl
      exact ⟨nm, qn, ns, bs, bm, sn, sub, ab, col, dd, k0, k1, k2, k3, k5, ho, hv⟩
    · cases q
  · cases q
def tOex (x : Str) : Tst := fun K => oexB K (He.ga K x)
def tXfc (x : Str) : Tst := fun K => xfB K (He.ga K x)
def tNof (x f : Str) : Tst := fun K => He.eqO (PySem.W.findIn K (.ref (He.ga K x)) f) (some none)
/-- its own __init__ stands at the address of the method -/
def tInit (x : Str) : Tst := fun K => tMeth x "__init__" K && decide (PySem.W.typeIn K (.ref (mAd x "__init__" K)) = some (.type "function"))
def excB (K : Fr) (D : Addr) : Bool := He.eqO (PySem.W.findIn K (.ref D) "__getattribute__") (some (some (.builtin "BaseException.__getattribute__"))) && (He.eqO (PySem.W.findIn K (.ref D) "__getattr__") (some none) && (decide (PySem.W.subIn K (.ref D) (.type "BaseException") = some true) && (PySem.W.hasDictIn K D &&
  (He.eqO (PySem.W.findIn K (.ref D) "__class__") (some (some (.builtin "object.__class__"))) && (He.eqO (PySem.W.specialIn K (.builtin "object.__class__") "__get__") (some (some (.builtin "getset_descriptor.__get__"))) && (decide (PySem.W.takesIn K (.builtin "object.__class__") = some true) && decide (PySem.W.mroIn K D (.type "object") = some true)))))))
theorem excB_ok {K : Fr} {D : Addr} (c : excB K D = true) : ExcC K D := by
  obtain ⟨c1, c⟩ := He.ba c
  obtain ⟨c2, c⟩ := He.ba c
  obtain ⟨c3, c⟩ := He.ba c
  obtain ⟨c4, c⟩ := He.ba c
  obtain ⟨c5, c⟩ := He.ba c
  obtain ⟨c6, c⟩ := He.ba c
  obtain ⟨c7, c8⟩ := He.ba c
  exact ⟨He.eqO_ok c1, He.eqO_ok c2, of_decide_eq_true c3, c4, He.eqO_ok c5, He.eqO_ok c6, of_decide_eq_true c7, of_decide_eq_true c8⟩
def tExc (x : Str) : Tst := fun K => excB K (He.ga K x)
/-- except: an error of the class x against the class y -/
def tExm (x y : Str) (b : Bool) : Tst := fun K => decide (PySem.W.exmOne K (.ref (He.ga K x)) (.ref (He.ga K y)) = some b)
/-! ### what a suite asks -/
def tXfX (K : PySem.W.Frag) (a : Addr) (cls : Value) (d : Option Addr) (f : Str) (te : TE) : TE := fun σ H Q => te σ H fun x H1 => x = .ref a ∧ ∃ (C dd : Addr) (fs : List (Str × V)) (v : V), cls = .ref C ∧ XfC K C ∧ PySem.W.findIn K (.ref C) f = some none ∧ d = some dd ∧ H1 dd = some (.xd fs) ∧ fs.lookup f = some v ∧ Q v H1
theorem pe_xfX {X : Cx} {a : Addr} {oe : Obj} {cls : Value} {d : Option Addr} {pn : List (Addr × Obj)} {e : Expr} {te : TE} {pos : Pos} {n : Str} (hz : Zc cls d oe) (hf : ∃ vs, oe.data = .fields vs) (he : PE (X.suite a ((a, oe) :: pn)) e te)
    (hb : attributeBase e n X.env (eval e X.env) = eval e X.env := by rfl) : PE (X.suite a ((a, oe) :: pn)) (.Attribute e n pos) (tXfX X.K a cls d n te) := by
  refine ⟨fun pins s σ H Q I h => ?_⟩
  refine attr_of hb (thn (he.run pins s σ H _ I h) fun u s1 hh => ?_)
  obtain ⟨x, H1, I1, rx, ex, C, dd, fs, v, ec, T, hno, ed, ea, l, q⟩ := hh
  subst ex
  obtain rfl : u = Value.ref a := rx
  subst ec
  subst ed
  obtain ⟨ha, _⟩ := I1.pin (a, oe) (List.mem_append_left _ List.mem_cons_self)
  obtain ⟨vs, hd⟩ := hf
  obtain ⟨mz, ns, rel⟩ : ObjOk X.prog X.w H1 s1.heap dd (.xd fs) := I1.hok dd _ ea
  obtain ⟨od, ho, hl⟩ := lookIn_ns ns
  have rn := rel n
  rw [l] at rn
  obtain ⟨val, ev, rv⟩ := RelO.some_of rn
  have J : PySem.W.InstAt s1.heap a oe C (some od) := ⟨ha, hz.1, by unfold PySem.W.notCls; rw [hd] <;> rfl, by rw [hz.2]; exact ho⟩
  have own := PySem.W.findObj_own T.hdC hno rfl ((hl n).trans (congrArg some ev))
  exact HandSPX.exc_get I1.kIn J T.ga T.gg T.exC own (handed_of rv) ⟨v, H1, I1.tok _, rv, q⟩
/-- isinstance(e, c), e what the suite holds, of the class cls, its dict d -/
def rIsX (K : PySem.W.Frag) (a : Addr) (cls : Value) (d : Option Addr) : List V → Hp → VK → Prop := fun xs H Q => ∃ (D : Addr) (c : V) (cv : Value) (b : Bool), cls = .ref D ∧ ExcC K D ∧ (d = none ∨ ∃ dd fs, d = some dd ∧ H dd = some (.xd fs)) ∧ xs = [.ref a, c] ∧ (∀ u, RelV c u → u = cv) ∧ PySem.W.kitOne K (.ref D) cv = some b ∧ Q (.bl b) H
theorem call_isX {X : Cx} {a : Addr} {cls : Value} {d : Option Addr} {oe : Obj} {pn : List (Addr × Obj)} (hz : Zc cls d oe) (hf : ∃ vs, oe.data = .fields vs) : CallR (X.suite a ((a, oe) :: pn)) (.builtin "isinstance") (rIsX X.K a cls d) := by
  intro pins s σ H xs us Q I r h
  obtain ⟨D, c, cv, b, ec, C, hd, rfl, hcv, e, q⟩ := h
  subst ec
  cases r with
  | cons rx rr =>
    cases rr with
    | cons rt rr =>
      cases rr
      cases rx
      have ec := hcv _ rt
      subst ec
      obtain ⟨hget, _⟩ := I.pin (a, oe) (List.mem_append.mpr (.inl List.mem_cons_self))
      obtain ⟨vs, hv⟩ := hf
      obtain ⟨cdD, hcD, _⟩ := PySem.W.any_some C.hd
      have hcl : (PySem.W.clsIn X.K D).isSome = true := by rw [hcD]; rfl
      obtain ⟨od, J⟩ : ∃ od, PySem.W.InstAt s.heap a oe D od := by
        rcases hd with rfl | ⟨dd, fs, rfl, ea⟩
        · exact ⟨none, hget, hz.1, by unfold PySem.W.notCls; rw [hv] <;> rfl, by rw [hz.2]; trivial⟩
        · have hx : ObjOk X.prog X.w H s.heap dd (.xd fs) := I.hok dd _ ea
          obtain ⟨mA, hns, hr⟩ := hx
          obtain ⟨od, ho, hl⟩ := lookIn_ns hns
          exact ⟨some od, hget, hz.1, by unfold PySem.W.notCls; rw [hv] <;> rfl, by rw [hz.2]; exact ho⟩
      exact PySem.W.kia_one (PySem.W.kitx_exc hcl C.hg C.hk C.hs C.ha C.hn C.ht C.hm) I.kIn J e (fun z => nomatch z) fun tk => ⟨.bl b, H, I.kept (t' := tk) fun _ _ z => z, rfl, q⟩
/-! ### defs that raise -/
section
variable {P : Program} {w : World} {K : Fr} {mg : Str → Option Value} {base : Heap}
/-- as Cal, for a def that may raise (its promise says what) -/
def CalX (P : Program) (w : World) (K : Fr) (mg : Str → Option Value) (base : Heap) (k : Nat) (x : Str) (ad : Addr) (ps : List Str) (sp : Sp) : Prop :=
  ∃ fd : FuncData, FnOk P w K mg base (L2.CX P w) k ad fd ps sp ∧ Binds K fd ps [] ∧ PySem.W.keepIn K (.ref ad) = true ∧ mg x = some (.ref ad)
theorem pe_cx {X : Cx} {k : Nat} {x : Str} {ad : Addr} {ps : List Str} {sp : Sp} {W : WX} {e : Expr} {es : List Expr} {t : TA} {p pos : Pos} (c : CalX X.prog X.w X.K X.mg X.base k x ad ps sp) (tk : Takes X W) (hr : Room k X.A) (ha : PA X (e :: es) t) (hg : Gl X x := by rfl)
    (hdb : (x == ("__debug__" : Str)) = false := by decide) (he : starEach (e :: es) X.env = (false, eval e X.env) :: starEach es X.env := by rfl) (hpl : (backTo pos (starEach es X.env)).any (·.1) = false := by rfl) :
    PE X (.Call (.Name x p) (e :: es) [] pos) (tCallS sp (WE W) t) := by
  obtain ⟨fd, F, b, kp, m⟩ := c
  exact pe_callS F hr hg m kp b (fun σ => passAt tk σ) ha hdb he hpl
abbrev BodyX (P : Program) (w : World) (K : Fr) (mg : Str → Option Value) (base : Heap) (k : Nat) (d : Dx) (N ps : List Str) (sp : Sp) : Prop :=
  ∀ (cdv : Value) (A : Around) (outer : List Env) (s : Shared) (H : Hp) (vs : List V) (Q : VK) (E : XK), Room k (A.deeper (envOfC d.ql (defScope d.st) s.heap.objs.size (d.ad K) cdv)) → sp vs H Q E →
      ∃ t, PSs (cxOf (L2.CX P w) P w K mg base N d.ql (defScope d.st) (d.ad K) cdv A outer s H E) (defBody d.st) t ∧ t { nx := fun _ H' => Q .non H', rt := Q } (start N vs) H
theorem okx_of {k : Nat} {d : Dx} {N ps : List Str} {sp : Sp} {fd : FuncData} (D : DAt K d fd) (S : FnScope N ps (defScope d.st)) (len : ∀ vs H Q E, sp vs H Q E → vs.length = ps.length) (hb : BodyX P w K mg base k d N ps sp) :
    FnOk P w K mg base (L2.CX P w) (k + 1) (d.ad K) fd ps sp := FunD.ok D S len hb
end
end Hk

/-! Where an exception is handled: walks over lists and texts, comprehensions. -/
namespace Hk
open PySem PySem.Spec PyProof.Rows L2 HotX L2H
section
variable {prog : Program} {w : World} {A : Around} {E : Value → Shared → Prop} {s : Shared}
theorem list_end_hot {it l x1 : Addr} {i : Nat} {items} {Q : Option Value → Shared → Prop} (hot : HotAt A x1 s.heap) (ne : x1 ≠ it)
    (hit : s.heap.IsListIter it l i) (hl : s.heap.IsList l items) (hx : items[i]? = none)
    (hQ : ∀ h', (∀ b o, b ≠ it → s.heap.get? b = some o → h'.get? b = some o) → Q none { s with heap := h' }) : wpAny (model prog w) A (pyNext (.ref it)) Q E s := by
  obtain ⟨o, ho, hc, hd⟩ := id hit
  obtain ⟨ol, hol, _, nl, hdl⟩ := hl
  obtain ⟨hh, o1, vs1, h1, d1, c1⟩ := hot
  unfold pyNext
  refine wpAny_bind (wpAny_attempt (wpAny_callSpecial?_slot (name := Str.ofString "__next__") hit.typeIs slot_listiter_next
    (wpAny_call_entry slot_listiter_next hit.typeIs entry_listiter_next ?_ (args_listiter_next _))))
  show wpAny _ _ (field (.ref it) 0 >>= _) _ _ s
  refine wpAny_bind (wpAny_field ho hd (x := .ref l) rfl ?_)
  show wpAny _ _ (if (Value.ref l == Value.none) = true then _ else _) _ _ s
  rw [if_neg (show ¬ ((Value.ref l == Value.none) = true) from Bool.false_ne_true)]
  show wpAny _ _ (field (.ref it) 1 >>= _) _ _ s
  refine wpAny_bind (wpAny_field ho hd (x := .int i 0) rfl ?_)
  show wpAny _ _ (seqItems? (.ref l) >>= _) _ _ s
  refine wpAny_bind (wpAny_seqItems hol hdl ?_)
  simp only [Int.toNat_natCast, hx]
  refine wpAny_bind (wpAny_rule (wpAny_bind (wpAny_setField ho hd (by simp) ?_)))
  show wpAny _ _ (newExc (.type "StopIteration") [] >>= _) _ _ _
  refine wpAny_bind ?_
  simp only [newExc, newTuple]
  refine wpAny_bind (wpAny_newObj_type ?_ (by size_fits))
  refine wpAny_bind (m := firstArgMember _ _) (wpAny_of_eq (a := Value.none) (by first | rfl | (simp only [firstArgMember]; rfl)) ?_)
  refine wpAny_newObj_type ?_ (by size_fits)
  have g1 := fun {f : Obj → Obj} => (Heap.get?_update_other s.heap f (Ne.symm ne)).trans h1
  refine raiseNew_hot ⟨hh, o1, vs1, Heap.get?_push_of_some _ (Heap.get?_push_of_some _ g1), d1, c1⟩ (Nat.ne_of_lt (Heap.lt_size (Heap.get?_push_of_some _ g1))) (Heap.get?_push_size _ rfl) rfl (by first | (simp; done) | (simp; omega) | decide) ?_
  refine wpAny_bind (wpAny_isInstance (T := "StopIteration") (b := true) ⟨_, Heap.get?_update_self _ (Heap.get?_push_size _ rfl) rfl, rfl⟩ isSubtype_stop ?_)
  refine wpAny_pure (hQ _ fun b o hb e => ?_)
  have g2 := fun {f : Obj → Obj} => (Heap.get?_update_other s.heap f (Ne.symm hb)).trans e
  rw [Heap.get?_update_other _ _ (Nat.ne_of_gt (Heap.lt_size (Heap.get?_push_of_some _ g2)))]
  exact Heap.get?_push_of_some _ (Heap.get?_push_of_some _ g2)
theorem ascii_end_hot {it x1 : Addr} {x : Str} {t : Tok} {i : Nat} {Q : Option Value → Shared → Prop} (hot : HotAt A x1 s.heap) (ne : x1 ≠ it)
    (hit : s.heap.IsStrIter it "str_ascii_iterator" x t i) (hx : x.cps[i]? = none)
    (hQ : ∀ h', (∀ b o, b ≠ it → s.heap.get? b = some o → h'.get? b = some o) → Q none { s with heap := h' }) : wpAny (model prog w) A (pyNext (.ref it)) Q E s := by
  obtain ⟨o, ho, hc, hd⟩ := id hit
  obtain ⟨hh, o1, vs1, h1, d1, c1⟩ := hot
  unfold pyNext
  refine wpAny_bind (wpAny_attempt (wpAny_callSpecial?_slot (name := Str.ofString "__next__") hit.typeIs F.slot_str_ascii_iterator_next
    (wpAny_call_entry F.slot_str_ascii_iterator_next hit.typeIs F.entry_str_ascii_iterator_next ?_ (F.args_str_ascii_iterator_next_1 _))))
  show wpAny _ _ (field (.ref it) 0 >>= _) _ _ s
  refine wpAny_bind (wpAny_field ho hd (x := .str x t) rfl ?_)
  show wpAny _ _ (field (.ref it) 1 >>= _) _ _ s
  refine wpAny_bind (wpAny_field ho hd (x := .int i 0) rfl ?_)
  simp only [Int.toNat_natCast, hx]
  refine wpAny_bind (wpAny_rule (wpAny_bind (wpAny_setField ho hd (by simp) (wpAny_bind (wpAny_letGo ?_)))))
  show wpAny _ _ (newExc (.type "StopIteration") [] >>= _) _ _ _
  refine wpAny_bind ?_
  simp only [newExc, newTuple]
  refine wpAny_bind (wpAny_newObj_type ?_ (by size_fits))
  refine wpAny_bind (m := firstArgMember _ _) (wpAny_of_eq (a := Value.none) (by first | rfl | (simp only [firstArgMember]; rfl)) ?_)
  refine wpAny_newObj_type ?_ (by size_fits)
  have g1 := fun {f : Obj → Obj} => (Heap.get?_update_other s.heap f (Ne.symm ne)).trans h1
  refine raiseNew_hot ⟨hh, o1, vs1, Heap.get?_push_of_some _ (Heap.get?_push_of_some _ g1), d1, c1⟩ (Nat.ne_of_lt (Heap.lt_size (Heap.get?_push_of_some _ g1))) (Heap.get?_push_size _ rfl) rfl (by first | (simp; done) | (simp; omega) | decide) ?_
  refine wpAny_bind (wpAny_isInstance (T := "StopIteration") (b := true) ⟨_, Heap.get?_update_self _ (Heap.get?_push_size _ rfl) rfl, rfl⟩ isSubtype_stop ?_)
  refine wpAny_pure (hQ _ fun b o hb e => ?_)
  have g2 := fun {f : Obj → Obj} => (Heap.get?_update_other s.heap f (Ne.symm hb)).trans e
  rw [Heap.get?_update_other _ _ (Nat.ne_of_gt (Heap.lt_size (Heap.get?_push_of_some _ g2)))]
  exact Heap.get?_push_of_some _ (Heap.get?_push_of_some _ g2)
end
/-- a context that holds what is handled, and is apart from the iterator -/
theorem hot_at {X : Cx} {pins : List (Addr × Obj)} {σ : L2.St} {H : Hp} {s : Shared} {it : Addr} (c : HotC X) (I : Inv X pins σ H s) (f : FpOk X pins H it) : ∃ x1, HotAt X.A x1 s.heap ∧ x1 ≠ it := by
  obtain ⟨p, ⟨hh, v1, e1, c1⟩, hp⟩ := c
  exact ⟨p.1, ⟨hh, p.2, v1, (I.pin p (List.mem_append_left _ hp)).1, e1, c1⟩, f.2.2.2.2.2 p (List.mem_append_left _ hp)⟩
theorem turn_listH {P : Program} {w : World} {K : Fr} {tg : Expr} (a it : Addr) : TurnH P w K tg (Itl K a) [it] it (fun i h => h.IsListIter it a i) where
  mem := by simp
  obj := (turn_list (P := P) (w := w) (K := K) (tg := tg) a it).obj
  keep := (turn_list (P := P) (w := w) (K := K) (tg := tg) a it).keep
  item := by
    intro X hP hw hK hc i pins s σ H E I hf st hg
    subst hP hw hK
    obtain ⟨xs, x, hq, hx⟩ := hg
    obtain ⟨its, rv, p, hz⟩ := I.list hq
    obtain ⟨u, hu, ru⟩ := rv.get hx
    obtain ⟨f0, f1, f2, f3, f4, f5⟩ := hf it (by simp)
    refine wpAny_pyNext_list_item st p.isList (x := u) (by simpa using hu) fun h' st' sb => ?_
    have I1 : Inv X pins σ H { s with heap := h' } := I.turned (t' := s.toks) (fun b o hb e => (sb.2 b hb).trans e) f0 f1 f3 f4 f5
    obtain ⟨o, e, c, d⟩ := id st'
    exact ⟨u, rfl, go_of (s := { s with heap := h' }) e c d (by decide) ⟨x, H, I1, ru, ⟨rfl, fun ys hy => by rw [I.list_inj hy hq]; exact hx⟩, st', fun b hb => (hf b hb).1⟩⟩
  done := by
    intro X hP hw hK hc i pins s σ H E I hf st hg
    subst hP hw hK
    obtain ⟨xs, hq, hx⟩ := hg
    obtain ⟨its, rv, p, hz⟩ := I.list hq
    have f := hf it (by simp)
    obtain ⟨x1, hot, ne⟩ := hot_at hc I f
    obtain ⟨f0, f1, f2, f3, f4, f5⟩ := f
    have hl := rv.length
    exact list_end_hot hot ne st p.isList (by simp; omega) fun h' eb => ⟨rfl, I.turned (t' := s.toks) (fun b o hb e => eb b o hb e) f0 f1 f3 f4 f5⟩
  self := fun _ _ _ _ _ st h => wpAny_pyIter_listiter st h
theorem turn_strH {P : Program} {w : World} {K : Fr} {tg : Expr} (it : Addr) (x : Str) (t : Tok) : TurnH P w K tg (Its x) [it] it (fun i h => h.IsStrIter it "str_ascii_iterator" x t i) where
  mem := by simp
  obj := (turn_str (P := P) (w := w) (K := K) (tg := tg) it x t _ (.inl rfl)).obj
  keep := (turn_str (P := P) (w := w) (K := K) (tg := tg) it x t _ (.inl rfl)).keep
  item := by
    intro X hP hw hK hc i pins s σ H E I hf st hg
    subst hP hw hK
    obtain ⟨f0, f1, f2, f3, f4, f5⟩ := hf it (by simp)
    have hg' : i < x.cps.size := hg
    refine wpAny_pyNext_ascii_item st (c := x.cps[i]) (by simp [hg']) fun h' st' sb => ?_
    have I1 : Inv X pins σ H { s with heap := h', toks := s.toks + 1 } := I.turned (fun b o hb e => (sb.2 b hb).trans e) f0 f1 f3 f4 f5
    obtain ⟨oi, e, cc, dd⟩ := id st'
    exact ⟨_, rfl, go_of (s := { s with heap := h', toks := s.toks + 1 }) e cc dd (by decide) ⟨.str ⟨#[x.cps[i]]⟩, H, I1, ⟨_, rfl⟩, ⟨rfl, _, by simp [hg'], rfl⟩, st', fun b hb => (hf b hb).1⟩⟩
  done := by
    intro X hP hw hK hc i pins s σ H E I hf st hg
    subst hP hw hK
    have f := hf it (by simp)
    obtain ⟨x1, hot, ne⟩ := hot_at hc I f
    obtain ⟨f0, f1, f2, f3, f4, f5⟩ := f
    exact ascii_end_hot hot ne st (Array.getElem?_eq_none hg) fun h' eb => ⟨rfl, I.turned (t' := s.toks) (fun b o hb e => eb b o hb e) f0 f1 f3 f4 f5⟩
  self := fun A i s Q E st h => wpAny_pyIter_striter_ascii st h
end Hk

namespace Hk
open PySem PySem.Spec PyProof.Rows L2 HotX L2H
/-! ### iterables where an exception is handled -/
theorem pie_hot {X : Cx} {tg : Expr} {pins : List (Addr × Obj)} {σ : L2.St} {H : Hp} {s : Shared} {R : It → Hp → Prop} {J : It} {tn : Nat → Heap → Prop} {tk : Nat} (I : Inv X pins σ H s) (o : Obj)
    (T : TurnH X.prog X.w X.K tg J [s.heap.objs.size] s.heap.objs.size tn) (st : tn 0 (s.heap.push o)) (q : R J H) : PIEH X pins σ tg R (.ref s.heap.objs.size) { s with heap := s.heap.push o, toks := tk } := by
  refine ⟨s.heap.objs.size, [s.heap.objs.size], tn, J, H, rfl, I.kept fun b ob e => Heap.get?_push_of_some _ e, T, st, fun b hb => ?_, q⟩
  have e : b = s.heap.objs.size := by simpa using hb
  subst e
  exact I.fpOk (Nat.le_refl _) (I.hok.fresh (Nat.le_refl _))
theorem pih_list {X : Cx} {tg l : Expr} {tl : TE} (hl : PE X l tl) : PIH X tg l (iList X.K tl) := by
  refine ⟨fun pins s σ H R I h => thn (hl.run pins s σ H _ I h) fun v s1 hv => ?_⟩
  obtain ⟨x, H1, I1, r1, a, rfl, ⟨xs, hq⟩, q⟩ := hv
  cases r1
  obtain ⟨its, rv, p, hz⟩ := I1.list hq
  exact wpAny_pyIter_list p.isList (pie_hot (tk := s1.toks) I1 _ (turn_listH a _) ⟨_, Heap.get?_push_size _ rfl, rfl, rfl⟩ q)
/-- a text of ASCII signs -/
def iStrA (te : TE) : TI := fun σ H R => te σ H fun v H1 => ∃ x, v = .str x ∧ x.cps.all (· < 128) = true ∧ R (Its x) H1
theorem pih_str {X : Cx} {tg e : Expr} {te : TE} (he : PE X e te) : PIH X tg e (iStrA te) := by
  refine ⟨fun pins s σ H R I h => thn (he.run pins s σ H _ I h) fun v s1 hv => ?_⟩
  obtain ⟨y, H1, I1, r1, x, rfl, ha, q⟩ := hv
  obtain ⟨t, rfl⟩ := r1
  exact wpAny_pyIter_ascii ha (pie_hot (tk := s1.toks) I1 _ (turn_strH _ x t) ⟨_, Heap.get?_push_size _ rfl, rfl, rfl⟩ q)
/-! ### a list comprehension there -/
/-- the context of its block, which keeps what is pinned -/
abbrev blkP (X : Cx) (s : Shared) (H : Hp) (scope : Scope) (cenv : Env) (fp : List Addr) : Cx := { X.blk s H scope cenv fp with pn := X.pn }
theorem blkP_start {X : Cx} {pins : List (Addr × Obj)} {σ : L2.St} {H : Hp} {s : Shared} {scope : Scope} {own : List (Str × Nat)} {fp : List Addr} (I : Inv X pins σ H s) (ok : BlkOk X.N X.env.scope scope own) (hN : X.N.Nodup) (hfp : ∀ b ∈ fp, FpOk X pins H b ∧ b < s.heap.objs.size) :
    Inv (blkP X s H scope (compEnvC scope (cellsFrom (s.heap.objs.size + 1) scope.names (cloFrom X.env.cells scope.names [])) s.heap.objs.size X.env) fp) [] (wipe σ (own.map (·.2))) H { s with heap := pushCells (s.heap.push { cls := .type "dict", data := .dict #[] }) scope.names } := by
  have J := block_start I ok hN hfp
  have k := J.ok
  refine ⟨⟨k.mod, k.kind, k.glob, k.blt, k.above, k.inj, k.has, k.cab, k.hd, k.frames, k.stk, k.exf, k.bs, k.bsz, k.noex, k.exfs, k.funs, k.frf⟩, J.os, J.bare, J.base, J.loc, J.cell, J.free, J.freeC, fun p hp => ?_, J.hok, J.len⟩
  have hp : p ∈ X.pn := by simpa using hp
  obtain ⟨g, n, nl, nf, nc⟩ := I.pin p (List.mem_append_left _ hp)
  refine ⟨pushCells_keeps _ _ _ _ (Heap.get?_push_of_some _ g), n, Nat.ne_of_lt (Heap.lt_size g), fun z => ?_, nc⟩
  rcases List.mem_cons.mp (I.stkSub _ z) with y | y
  · exact nl y
  · exact nf y
theorem pe_lcH {X : Cx} {elt tg iter : Expr} {ifs : List Expr} {scope : Scope} {own : List (Str × Nat)} {pos : Pos} {wi : TI} {g : TG} {tt : TT} {te : TE} (hc : HotC X) (hN : X.N.Nodup) (hi : PIH X tg iter wi) (ok : BlkOk X.N X.env.scope scope own)
    (hg : ∀ (s : Shared) (H : Hp) (C : Addr) (cl : List (Str × Addr)) (fp : List Addr), PG (blkP X s H scope (compEnvC scope cl C X.env) fp) tg g) (ht : ∀ (s : Shared) (H : Hp) (C : Addr) (cl : List (Str × Addr)) (fp : List Addr), PTs (blkP X s H scope (compEnvC scope cl C X.env) fp) ifs tt)
    (he : ∀ (s : Shared) (H : Hp) (C : Addr) (cl : List (Str × Addr)) (fp : List Addr), PE (blkP X s H scope (compEnvC scope cl C X.env) fp) elt te) (hs : ∀ x, foldedSetIterable iter X.env x = pure x := by intro _; rfl) :
    PE X (.ListComp elt [⟨tg, iter, ifs, 0⟩] scope pos) (tLc wi g tt te (own.map (·.2))) := by
  refine ⟨fun pins s σ H Q I h => ?_⟩
  rw [eval_ListComp]
  have hfree : ∀ y ∈ scope.names, y.2 = .free → ∃ c, X.env.cells.lookup y.1 = some c := fun y hy e => (ok.free y hy e).elim (fun k => I.ok.has _ (.inl k)) fun k => I.ok.has _ (.inr k)
  refine wpAny_comprehension_free rfl hs (closure_ok hfree) ok.kind (fun y hy e => by rw [ok.uniq y hy, e]) (thn (hi.run pins s σ H _ I h) fun xv s1 hx => thn hx fun itv s2 h2 => ?_)
  obtain ⟨it, fp, tn, J, H2, rfl, I2, T, st2, f2, q⟩ := h2
  refine wpAny_newObj_type (newEnv_comp ?_) (by show 0 ≤ sizeLine; decide)
  generalize hD : s2.heap.objs.size = D
  have hDn : H2 D = none := I2.hok.fresh (Nat.le_of_eq hD)
  obtain ⟨W, ⟨m0, w0⟩, turn⟩ := q D hDn
  generalize hs3 : ({ s2 with heap := s2.heap.push { cls := .type "list", data := .seq ([] : List Value).toArray } } : Shared) = s3
  have h3 : s3.heap = s2.heap.push { cls := .type "list", data := .seq ([] : List Value).toArray } := by rw [← hs3]
  have I3 : Inv X pins σ (upd H2 D (.lst [])) s3 := by
    rw [← hs3]
    refine I2.laid (t' := s2.toks) (fun b o e => Heap.get?_push_of_some _ e) (Nat.le_of_eq hD) ⟨Nat.zero_le _, [], 0, .nil, ?_⟩
    rw [← hD]
    exact Heap.get?_push_size _ rfl
  have f3 : ∀ b ∈ fp, FpOk X pins (upd H2 D (.lst [])) b ∧ b < s3.heap.objs.size := fun b hb => by
    obtain ⟨o, e, _⟩ := T.obj _ _ st2 b hb
    have lt := Heap.lt_size e
    refine ⟨⟨?_, (f2 b hb).2⟩, by rw [h3, Heap.size_push]; exact Nat.lt_succ_of_lt lt⟩
    rw [upd_ne (by rw [← hD]; exact Nat.ne_of_lt lt)]
    exact (f2 b hb).1
  have st3 : tn 0 s3.heap := T.keep _ _ _ st2 fun b _ o e => by rw [h3]; exact Heap.get?_push_of_some _ e
  have I4 := blkP_start I3 ok hN f3
  have pg := hg s3 (upd H2 D (.lst [])) s3.heap.objs.size (cellsFrom (s3.heap.objs.size + 1) scope.names (cloFrom X.env.cells scope.names [])) fp
  have pt := ht s3 (upd H2 D (.lst [])) s3.heap.objs.size (cellsFrom (s3.heap.objs.size + 1) scope.names (cloFrom X.env.cells scope.names [])) fp
  have pe := he s3 (upd H2 D (.lst [])) s3.heap.objs.size (cellsFrom (s3.heap.objs.size + 1) scope.names (cloFrom X.env.cells scope.names [])) fp
  have nfp : ∀ b ∈ fp, (upd H2 D (.lst [])) b = none := fun b hb => (f3 b hb).1.1
  have cL : (compEnvC scope (cellsFrom (s3.heap.objs.size + 1) scope.names (cloFrom X.env.cells scope.names [])) s3.heap.objs.size X.env).locals = s3.heap.objs.size := rfl
  have st4 : tn 0 (pushCells (s3.heap.push { cls := .type "dict", data := .dict #[] }) scope.names) := T.keep _ _ _ st3 fun b _ o e => pushCells_keeps _ _ _ _ (Heap.get?_push_of_some _ e)
  show codeAny _ _ (.compStart (.ListComp elt [⟨tg, iter, ifs, 0⟩] scope pos) 0 (.ref it) (.ref D) (compEnvC scope (cellsFrom (s3.heap.objs.size + 1) scope.names (cloFrom X.env.cells scope.names [])) s3.heap.objs.size X.env)) (compPost (model X.prog X.w) X.A X.xe none (EP X pins σ Q) (.ref D) s3.heap.objs.size) { s3 with heap := pushCells (s3.heap.push { cls := .type "dict", data := .dict #[] }) scope.names }
  generalize hce : compEnvC scope (cellsFrom (s3.heap.objs.size + 1) scope.names (cloFrom X.env.cells scope.names [])) s3.heap.objs.size X.env = ce at I4 pg pt pe cL ⊢
  generalize upd H2 D (.lst []) = H3 at I3 I4 pg pt pe w0 nfp f3
  have hcB : HotC (blkP X s3 H3 scope ce fp) := hc
  have stat : ∀ {σ' : L2.St} {H' : Hp} {s' : Shared}, Inv (blkP X s3 H3 scope ce fp) [] σ' H' s' → (∀ b ∈ fp, H' b = none) → ∀ b ∈ fp, FpOk (blkP X s3 H3 scope ce fp) [] H' b := fun {σ' H' s'} I' hn b hb =>
    ⟨hn b hb, (I'.ok.exf b hb).1, I'.ok.exfs b hb, .inl hb, fun x c e => (I'.ok.exf b hb).2 x c e, fun p hp => (f3 b hb).1.2.2.2.2.2 p (List.mem_append_left _ (by simpa using hp))⟩
  generalize hs4 : ({ s3 with heap := pushCells (s3.heap.push { cls := .type "dict", data := .dict #[] }) scope.names } : Shared) = s4 at I4 ⊢
  have st4' : tn 0 s4.heap := by rw [← hs4]; exact st4
  have run : codeAny (model X.prog X.w) X.A (.compLoop (.ListComp elt [⟨tg, iter, ifs, 0⟩] scope pos) 0 (.ref it) (.ref D) ce) (compPost (model X.prog X.w) X.A X.xe none (EP X pins σ Q) (.ref D) s3.heap.objs.size) s4 := by
    refine compLoop_any (fun n s' => ∃ i H', Inv (blkP X s3 H3 scope ce fp) [] (wipe σ (own.map (·.2))) H' s' ∧ tn i s'.heap ∧ (∀ b ∈ fp, H' b = none) ∧ W i n H') ?_ m0 ⟨0, H3, I4, st4', nfp, w0⟩
    rintro n s5 ⟨i, H5, I5, st5, n5, w5⟩
    rcases turn i n H5 w5 with ⟨stop, qq⟩ | ⟨go, Nx, hNx, step⟩
    · refine thnF (T.done (blkP X s3 H3 scope ce fp) rfl rfl rfl hcB i [] s5 _ H5 (fun _ _ => False) I5 (stat I5 n5) st5 stop) fun r s6 hr => ?_
      obtain ⟨rfl, I6⟩ := hr
      have I7 : Inv X pins σ H5 s6 := I3.call' (ch := fp) I6.os I6.base I6.hok I6.bare fun b hb => ⟨(f3 b hb).1.2.2.2.1, (f3 b hb).1.2.1, (f3 b hb).1.2.2.2.2.1, (f3 b hb).1.2.2.2.2.2⟩
      have nC : H5 s3.heap.objs.size = none := by
        have z : H5 ce.locals = none := I6.free
        rw [cL] at z
        exact z
      obtain ⟨m, hn, _⟩ := I6.loc
      have hn : s6.heap.Ns ce.locals m := hn
      rw [cL] at hn
      obtain ⟨c0, c1, c2, c3, c4, c5⟩ := I3.fpOk (Nat.le_refl _) nC
      exact ⟨m, hn, fun h'' sb => ⟨.ref D, H5, I7.turned (t' := s6.toks) (fun b o hb e => (sb.2 b hb).trans e) c0 c1 c3 c4 c5, rfl, qq⟩⟩
    · refine thnF (T.item (blkP X s3 H3 scope ce fp) rfl rfl rfl hcB i [] s5 _ H5 (fun _ _ => False) I5 (stat I5 n5) st5 go) fun r s6 hr => ?_
      obtain ⟨u, rfl, h6⟩ := hr
      refine thnF h6 fun _ s7 h7 => ?_
      obtain ⟨x, H7, I7, r7, y7, st7, n7⟩ := h7
      have P7 := I7.pinned (stat I7 n7) (T.obj _ _ st7)
      refine thnF (pg.run _ s7 _ H7 x u _ P7 r7 (step x H7 y7)) fun _ s8 h8 => ?_
      obtain ⟨σ8, H8, I8, hw8, q8⟩ := h8
      refine thnF (pt.run _ s8 σ8 H8 _ I8 q8) fun b s9 h9 => ?_
      obtain ⟨H9, I9, q9⟩ := h9
      have again : ∀ {s' : Shared} {H' : Hp}, Inv (blkP X s3 H3 scope ce fp) ([] ++ pinsAt fp s7.heap) σ8 H' s' → Nx H' → ∃ m, m < n ∧ ∃ i H', Inv (blkP X s3 H3 scope ce fp) [] (wipe σ (own.map (·.2))) H' s' ∧ tn i s'.heap ∧ (∀ b ∈ fp, H' b = none) ∧ W i m H' := fun {s' H'} I' nx => by
        obtain ⟨m', hm, w'⟩ := hNx H' nx
        have keepP : ∀ b ∈ fp, ∀ o, s7.heap.get? b = some o → s'.heap.get? b = some o ∧ H' b = none := fun b hb o e =>
          let z := I'.pin (b, o) (List.mem_append_right _ (List.mem_append_right _ (mem_pinsAt hb e)))
          ⟨z.1, z.2.1⟩
        refine ⟨m', hm, i + 1, H', (I'.unpinned (pins := [])).weak (by rw [← hw8, wipe_length]) (fun j v e => ?_), T.keep _ _ _ st7 fun b hb o e => (keepP b hb o e).1, fun b hb => ?_, w'⟩
        · rw [← hw8] at e
          exact (wipe_some e).1
        · obtain ⟨o, e, _⟩ := T.obj _ _ st7 b hb
          exact (keepP b hb o e).2
      cases b with
      | false =>
        simp only [Bool.false_eq_true, if_false] at q9 ⊢
        exact again I9 q9
      | true =>
        simp only [if_true] at q9 ⊢
        refine thnF (pe.run _ s9 σ8 H9 _ I9 q9) fun z s10 h10 => ?_
        obtain ⟨yv, H10, I10, r10, acc, hD10, hz10, nx⟩ := h10
        exact app_ok (X := blkP X s3 H3 scope ce fp) I10 hD10 hz10 r10 fun s11 I11 => again I11 nx
  exact codeAny_compStart_list run (T.self X.A 0 _ _ _ st4' run)
end Hk

namespace Hk
open PySem PySem.Spec PyProof.Rows L2 HotX L2H
/-! ### all, any of a list of truths there -/
theorem walks_list_hot {prog : Program} {w : World} {A : Around} (it ax x1 : Addr) (hne : ax ≠ it) (hx : x1 ≠ it) (items : Array Value) :
    Walks prog w A it [it, ax, x1] [it] items.size (fun i v => items[i]? = some v) (fun i h => h.IsListIter it ax i ∧ (h.IsList ax items ∧ HotAt A x1 h)) where
  sub := fun b hb => by simp at hb; simp [hb]
  frame := fun _ _ _ st hk => by
    obtain ⟨s1, s2, hh, o, vs, e, d, c⟩ := st
    exact ⟨s1.at fun o e => hk it (by simp) o e, s2.at fun o e => hk ax (by simp) o e, hh, o, vs, hk x1 (by simp) o e, d, c⟩
  item := fun i s Q E hi st hQ => by
    obtain ⟨s1, s2, hh, o, vs, e, d, c⟩ := st
    refine wpAny_pyNext_list_item s1 s2 (x := items[i]) (by simp [hi]) fun h' hit' hs' => ?_
    exact hQ _ h' s.toks (by simp [hi]) ⟨hit', s2.extBut hs'.extBut hne, hh, o, vs, hs'.extBut x1 o hx e, d, c⟩ fun b o hb e => hs'.extBut b o (fun h => hb (by simp [h])) e
  done := fun s Q E st hQ => list_end_hot st.2.2 hx st.1 st.2.1 (by simp) fun h' he' => hQ h' s.toks fun b o hb e => he' b o (fun h => hb (by simp [h])) e
  self := fun _ _ _ _ st hQ => wpAny_pyIter_listiter st.1 hQ
section
variable {X : Cx}
theorem cr_allH (hc : HotC X) : CallR X (.builtin "all") (rAll X.K) := by
  intro pins s σ H vs us Q I r h
  obtain ⟨a, bs, rfl, hs, q⟩ := h
  obtain ⟨its, rv, hl, _⟩ := I.list hs
  rw [Vals.ref1 r]
  have hb := rv.bls
  obtain ⟨x1, hh, o1, v1, e1, d1, c1⟩ := hc.at I
  refine call_all_walk (iter_any hl.isList fun s₂ e2 st hne => ?_)
  subst e2
  have lx : x1 < s.heap.objs.size := Heap.lt_size e1
  refine ⟨_, _, _, _, _, _, _, rfl, walks_list_hot (A := X.A.in1) _ a x1 hne (Nat.ne_of_lt lx) its.toArray, ⟨st.1, st.2, hh, o1, v1, Heap.get?_push_of_some _ e1, d1, c1⟩, truth_bools hb, fun h' tk hk => ?_⟩
  refine ⟨.bl _, H, I.kept fun b o eo => hk b o (fun hmem => ?_) (Heap.get?_push_of_some _ eo), ?_, q⟩
  · have z : b = s.heap.objs.size := by simpa using hmem
    exact absurd (z ▸ Heap.lt_size eo) (Nat.lt_irrefl _)
  · show Value.bool _ = Value.bool _
    rw [← L2.all_range, hb, List.size_toArray, List.length_map]
theorem cr_anyH (hc : HotC X) : CallR X (.builtin "any") (rAny X.K) := by
  intro pins s σ H vs us Q I r h
  obtain ⟨a, bs, rfl, hs, q⟩ := h
  obtain ⟨its, rv, hl, _⟩ := I.list hs
  rw [Vals.ref1 r]
  have hb := rv.bls
  obtain ⟨x1, hh, o1, v1, e1, d1, c1⟩ := hc.at I
  refine call_any_walk (iter_any hl.isList fun s₂ e2 st hne => ?_)
  subst e2
  have lx : x1 < s.heap.objs.size := Heap.lt_size e1
  refine ⟨_, _, _, _, _, _, _, rfl, walks_list_hot (A := X.A.in1) _ a x1 hne (Nat.ne_of_lt lx) its.toArray, ⟨st.1, st.2, hh, o1, v1, Heap.get?_push_of_some _ e1, d1, c1⟩, truth_bools hb, fun h' tk hk => ?_⟩
  refine ⟨.bl _, H, I.kept fun b o eo => hk b o (fun hmem => ?_) (Heap.get?_push_of_some _ eo), ?_, q⟩
  · have z : b = s.heap.objs.size := by simpa using hmem
    exact absurd (z ▸ Heap.lt_size eo) (Nat.lt_irrefl _)
  · show Value.bool _ = Value.bool _
    rw [← L2.any_range, hb, List.size_toArray, List.length_map]
end
/-! ### defs called there that let nothing out -/
section
variable {P : Program} {w : World} {K : Fr} {mg : Str → Option Value} {base : Heap}
theorem hotC_cx {CX : CXT} {N : List Str} {qual : Str} {scope : Scope} {f : Addr} {cd : Value} {A : Around} {outer : List Env} {s : Shared} {H : Hp} {E : XK} {p : Addr × Obj} (h : Hot1 A p) : HotC (cxH CX P w K mg base N qual scope f cd A outer s H E p) := ⟨p, h, List.mem_cons_self⟩
abbrev BodyH (P : Program) (w : World) (K : Fr) (mg : Str → Option Value) (base : Heap) (k : Nat) (d : Dx) (N ps : List Str) (sp : Sp) : Prop :=
  ∀ (cdv : Value) (A : Around) (outer : List Env) (s : Shared) (H : Hp) (vs : List V) (Q : VK) (E : XK) (p : Addr × Obj), Hot1 A p → RoomH k (A.deeper (envOfC d.ql (defScope d.st) s.heap.objs.size (d.ad K) cdv)) → sp vs H Q E →
      ∃ t, PSs (cxH CX0 P w K mg base N d.ql (defScope d.st) (d.ad K) cdv A outer s H E p) (defBody d.st) t ∧ t { nx := fun _ H' => Q .non H', rt := Q } (L2.start N vs) H
theorem okh_of {k : Nat} {d : Dx} {N ps : List Str} {sp : Sp} {fd : FuncData} (D : DAt K d fd) (S : FnScope N ps (defScope d.st)) (len : ∀ vs H Q E, sp vs H Q E → vs.length = ps.length) (hb : BodyH P w K mg base k d N ps sp) :
    FnH P w K mg base CX0 (k + 1) (d.ad K) fd ps sp := by
  obtain ⟨oc, od, dV, kV, doc, pm, an, cdv, ct, osl, rfl, lk, hcd, _, _⟩ := D.ex
  exact fn_ofH lk hcd S len fun A outer s H vs Q E p hot hr h => hb cdv A outer s H vs Q E p hot hr h
def CalH (P : Program) (w : World) (K : Fr) (mg : Str → Option Value) (base : Heap) (k : Nat) (x : Str) (ad : Addr) (ps : List Str) (sp : Sp) : Prop :=
  ∃ fd : FuncData, FnH P w K mg base CX0 k ad fd ps sp ∧ Binds K fd ps [] ∧ PySem.W.keepIn K (.ref ad) = true ∧ mg x = some (.ref ad)
theorem pe_ch {X : Cx} {k : Nat} {x : Str} {ad : Addr} {ps : List Str} {sp : Sp} {e : Expr} {es : List Expr} {t : TA} {p pos : Pos} (c : CalH X.prog X.w X.K X.mg X.base k x ad ps sp) (hr : RoomH k X.A) (hc : HotC X) (ha : PA X (e :: es) t) (hg : Gl X x := by rfl)
    (hdb : (x == ("__debug__" : Str)) = false := by decide) (he : starEach (e :: es) X.env = (false, eval e X.env) :: starEach es X.env := by rfl) (hpl : (backTo pos (starEach es X.env)).any (·.1) = false := by rfl) :
    PE X (.Call (.Name x p) (e :: es) [] pos) (tCallS sp (fun _ => E0) t) := by
  obtain ⟨fd, F, b, kp, m⟩ := c
  exact pe_callH F hr hc hg m kp b (fun σ _ _ _ _ _ _ z => (show False from z).elim) ha hdb he hpl
theorem calh_of {k : Nat} {d : Dx} {N ps : List Str} {sp : Sp} {x : Str} (D : ∃ fd, DAt K d fd) (hv : d.df = []) (S : FnScope N ps (defScope d.st)) (hm : mg x = some (.ref (d.ad K)))
    (hbi : ∀ (kV doc pm : Value) (an : Option Addr) (cdv ct : Value) (us : List Value), us.length = ps.length → bindArgs (PySem.W.fnOf d.nm d.ql (defArgs d.st) (defBody d.st) (defScope d.st) .none kV doc pm an cdv ct) ⟨us, []⟩ = pure (ps.zip us))
    (len : ∀ vs H Q E, sp vs H Q E → vs.length = ps.length) (hb : BodyH P w K mg base k d N ps sp) : CalH P w K mg base (k + 1) x (d.ad K) ps sp := by
  obtain ⟨fd, D⟩ := D
  have e : d.vs K = [] := by
    unfold Dx.vs
    rw [hv]
    rfl
  have D' : FunD K d.nm d.ql (defArgs d.st) (defBody d.st) (defScope d.st) [] [] (d.ad K) fd := by
    rw [← e]
    exact D
  exact ⟨fd, okh_of D S len hb, FunD.bindsN D' hbi, D.kp, hm⟩
end
/-! ### str and repr of own instances there -/
section
variable {X : Cx} {k : Nat} {C f : Addr} {fd : FuncData} {ps : List Str} {sp : Sp}
theorem own_runH {A' : Around} {pins : List (Addr × Obj)} {σ : L2.St} {H : Hp} {s : Shared} {Q : VK} {E' : Value → Shared → Prop} {us : List Value} {vs : List V} {p : Addr × Obj} (F : FnH X.prog X.w X.K X.mg X.base CX0 k f fd ps sp)
    (hr : RoomH k A') (hot : Hot1 A' p) (hp : p ∈ X.pn) (e0 : Env0 X.prog X.w X.K X.mg X.base A' X.stack s H) (hb : Binds X.K fd ps []) (I : Inv X pins σ H s) (r : Vals vs us) (h : sp vs H Q E0) : wpAny (model X.prog X.w) A' (call (.ref f) us) (EP X pins σ Q) E' s := by
  have ln : us.length = ps.length := r.length.symm.trans (F.len _ _ _ _ h)
  have bd : BindsTo s fd ⟨us, []⟩ (ps.zip us) := by
    have := hb s us I.kIn (by rw [List.append_nil]; exact ln)
    rwa [List.append_nil] at this
  obtain ⟨g1, g2, g3, g4, g5⟩ := I.pin p (List.mem_append_left _ hp)
  refine wpAny_call (codeAny_mono (F.run A' X.stack s H ⟨us, []⟩ us vs Q E0 p hr hot ⟨g1, g2, fun hm => (List.mem_cons.mp (I.stkSub p.1 hm)).elim g3 g4, g5⟩ e0 bd r h) fun z s' hq => ?_)
  rcases z with e | fl
  · exact (show False from hq).elim
  · cases fl with
    | ret u => exact I.after hq
    | _ => exact (show False from hq).elim
theorem call_strOH (O : Own X.K C "__str__" f) (F : FnH X.prog X.w X.K X.mg X.base CX0 k f fd ps sp) (hb : Binds X.K fd ps []) (hr : RoomH (k + 1) X.A) (hc : HotC X) : CallR X (.type "str") (rText C sp) := by
  intro pins s σ H xs us Q I r h
  obtain ⟨a, dx, fs, rfl, ha, q⟩ := h
  obtain ⟨u, rfl, ru⟩ := r.one
  cases (show u = Value.ref a from ru)
  obtain ⟨mA, M, _⟩ := ins_get I.hok ha
  obtain ⟨od, J, _⟩ := M.look
  obtain ⟨p, hot, hp⟩ := hc
  have r2 : RoomH k X.A.in1.in1 := ⟨by have := hr.dp; show X.A.depth + 3 * k + 5 < _; omega, by have := hr.un; show X.A.units + 1 + 1 + 16 * k + 200 < _; omega⟩
  refine PySem.W.kso_call (by have := hr.un; show X.A.units + 1 + 1 < _; omega) I.kIn J O.at_ O.fn (wpAny_mono (own_runH (vs := [.ref a]) F r2 hot hp I.env0.in1.in1 hb I (.cons rfl .nil) q) (fun v s' z => ?_) fun _ _ z => z)
  obtain ⟨z', H', I', rz, y, ey, qz⟩ := z
  subst ey
  obtain ⟨t, e⟩ := (show ∃ t, v = Value.str y t from rz)
  cases e
  exact ⟨.str y, H', I', ⟨t, rfl⟩, qz⟩
theorem call_reprOH (O : Own X.K C "__repr__" f) (F : FnH X.prog X.w X.K X.mg X.base CX0 k f fd ps sp) (hb : Binds X.K fd ps []) (hr : RoomH (k + 1) X.A) (hc : HotC X) : CallR X (.builtin "repr") (rText C sp) := by
  intro pins s σ H xs us Q I r h
  obtain ⟨a, dx, fs, rfl, ha, q⟩ := h
  obtain ⟨u, rfl, ru⟩ := r.one
  cases (show u = Value.ref a from ru)
  obtain ⟨mA, M, _⟩ := ins_get I.hok ha
  obtain ⟨od, J, _⟩ := M.look
  obtain ⟨p, hot, hp⟩ := hc
  have r2 : RoomH k X.A.in1 := ⟨by have := hr.dp; show X.A.depth + 3 * k + 5 < _; omega, by have := hr.un; show X.A.units + 1 + 16 * k + 200 < _; omega⟩
  obtain ⟨m, hF⟩ := I.fr
  refine PySem.W.repr_K (by have := hr.un; show X.A.units + 1 < _; omega) hF I.ok.mod.kin J O.at_ O.fn (wpAny_mono (own_runH (vs := [.ref a]) F r2 hot hp I.env0.in1 hb I (.cons rfl .nil) q) (fun v s' z => ?_) fun _ _ z => z)
  obtain ⟨z', H', I', rz, y, ey, qz⟩ := z
  subst ey
  obtain ⟨t, e⟩ := (show ∃ t, v = Value.str y t from rz)
  cases e
  exact ⟨.str y, H', I', ⟨t, rfl⟩, qz⟩
end
end Hk

/-! Fractions in lowest terms, over Int. -/
namespace NumM
def sg (b : Int) : Int := if b < 0 then -1 else 1
def gd (h b : Int) : Int := ((Nat.gcd h.natAbs b.natAbs : Nat) : Int)
def lowT (h b : Int) : Int := sg b * h / gd h b
def lowB (h b : Int) : Int := sg b * b / gd h b
theorem gd_pos {h b : Int} (hb : b ≠ 0) : 0 < gd h b := by
  have : 0 < Nat.gcd h.natAbs b.natAbs := Nat.gcd_pos_of_pos_right _ (by omega)
  unfold gd; omega
theorem gd_dvd_l (h b : Int) : gd h b ∣ h := by
  unfold gd
  exact Int.ofNat_dvd_left.mpr (Nat.gcd_dvd_left _ _)
theorem gd_dvd_r (h b : Int) : gd h b ∣ b := by
  unfold gd
  exact Int.ofNat_dvd_left.mpr (Nat.gcd_dvd_right _ _)
theorem gd_le {h b : Int} (hb : b ≠ 0) : (gd h b).natAbs ≤ b.natAbs := by
  have := Nat.gcd_le_right h.natAbs (show 0 < b.natAbs by omega)
  unfold gd; omega
theorem sg_sq (b : Int) : sg b * sg b = 1 := by unfold sg; split <;> rfl
theorem sg_mul {b : Int} (hb : b ≠ 0) : 0 < sg b * b := by unfold sg; split <;> omega
theorem natAbs_sg (b x : Int) : (sg b * x).natAbs = x.natAbs := by unfold sg; split <;> simp
theorem lowT_mul {h b : Int} : lowT h b * gd h b = sg b * h := by
  unfold lowT
  exact Int.ediv_mul_cancel (Int.dvd_mul_of_dvd_right (gd_dvd_l h b))
theorem lowB_mul {h b : Int} : lowB h b * gd h b = sg b * b := by
  unfold lowB
  exact Int.ediv_mul_cancel (Int.dvd_mul_of_dvd_right (gd_dvd_r h b))
theorem low_pos {h b : Int} (hb : b ≠ 0) : 0 < lowB h b := by
  have h1 := gd_pos (h := h) hb
  have h2 := sg_mul hb
  rw [← lowB_mul (h := h)] at h2
  exact Int.pos_of_mul_pos_left h2 (by omega)
theorem low_cop {h b : Int} (hb : b ≠ 0) : Nat.gcd (lowT h b).natAbs (lowB h b).natAbs = 1 := by
  have hp := gd_pos (h := h) hb
  have e1 : (lowT h b).natAbs * (gd h b).natAbs = h.natAbs := by rw [← Int.natAbs_mul, lowT_mul, natAbs_sg]
  have e2 : (lowB h b).natAbs * (gd h b).natAbs = b.natAbs := by rw [← Int.natAbs_mul, lowB_mul, natAbs_sg]
  have g : Nat.gcd ((lowT h b).natAbs * (gd h b).natAbs) ((lowB h b).natAbs * (gd h b).natAbs) = (gd h b).natAbs := by
    rw [e1, e2]; unfold gd; simp
  rw [Nat.gcd_mul_right] at g
  have hp' : 0 < (gd h b).natAbs := by omega
  exact Nat.eq_of_mul_eq_mul_right hp' (by rw [g, Nat.one_mul])
theorem low_eq {h b : Int} (hb : b ≠ 0) : lowT h b * b = h * lowB h b := by
  have hp := gd_pos (h := h) hb
  have e1 := lowT_mul (h := h) (b := b)
  have e2 := lowB_mul (h := h) (b := b)
  have : (lowT h b * b) * gd h b = (h * lowB h b) * gd h b := by
    calc (lowT h b * b) * gd h b = (lowT h b * gd h b) * b := by rw [Int.mul_right_comm]
      _ = (sg b * h) * b := by rw [e1]
      _ = h * (sg b * b) := by rw [Int.mul_comm (sg b) h, Int.mul_assoc]
      _ = h * (lowB h b * gd h b) := by rw [e2]
      _ = (h * lowB h b) * gd h b := by rw [Int.mul_assoc]
  exact Int.eq_of_mul_eq_mul_right (by omega) this
theorem uniq {t b u c : Int} (hb : 0 < b) (hc : 0 < c) (h1 : Nat.gcd t.natAbs b.natAbs = 1) (h2 : Nat.gcd u.natAbs c.natAbs = 1) (e : t * c = u * b) : t = u ∧ b = c := by
  have en : t.natAbs * c.natAbs = u.natAbs * b.natAbs := by rw [← Int.natAbs_mul, ← Int.natAbs_mul, e]
  have d1 : b.natAbs ∣ c.natAbs := by
    have : b.natAbs ∣ t.natAbs * c.natAbs := ⟨u.natAbs, by rw [en, Nat.mul_comm]⟩
    exact Nat.Coprime.dvd_of_dvd_mul_left (show Nat.Coprime b.natAbs t.natAbs by unfold Nat.Coprime; rw [Nat.gcd_comm]; exact h1) this
  have d2 : c.natAbs ∣ b.natAbs := by
    have : c.natAbs ∣ u.natAbs * b.natAbs := ⟨t.natAbs, by rw [← en, Nat.mul_comm]⟩
    exact Nat.Coprime.dvd_of_dvd_mul_left (show Nat.Coprime c.natAbs u.natAbs by unfold Nat.Coprime; rw [Nat.gcd_comm]; exact h2) this
  have ebc : b.natAbs = c.natAbs := Nat.dvd_antisymm d1 d2
  have bc : b = c := by omega
  subst bc
  exact ⟨Int.eq_of_mul_eq_mul_right (by omega) e, rfl⟩
theorem low_of {h b t c : Int} (hb : b ≠ 0) (hc : 0 < c) (h1 : Nat.gcd t.natAbs c.natAbs = 1) (e : t * b = h * c) : lowT h b = t ∧ lowB h b = c := by
  have l := low_eq (h := h) hb
  refine uniq (low_pos hb) hc (low_cop hb) h1 ?_
  have : (lowT h b * c) * b = (t * lowB h b) * b := by
    calc (lowT h b * c) * b = (lowT h b * b) * c := by rw [Int.mul_right_comm]
      _ = h * lowB h b * c := by rw [l]
      _ = (h * c) * lowB h b := by rw [Int.mul_right_comm]
      _ = (t * b) * lowB h b := by rw [e]
      _ = (t * lowB h b) * b := by rw [Int.mul_right_comm]
  exact Int.eq_of_mul_eq_mul_right hb this
theorem low_red {t b : Int} (hb : 0 < b) (h1 : Nat.gcd t.natAbs b.natAbs = 1) : lowT t b = t ∧ lowB t b = b := low_of (by omega) hb h1 rfl
theorem low_mul {h b m : Int} (hb : b ≠ 0) (hm : m ≠ 0) : lowT (h * m) (b * m) = lowT h b ∧ lowB (h * m) (b * m) = lowB h b := by
  refine low_of (Int.mul_ne_zero hb hm) (low_pos hb) (low_cop hb) ?_
  rw [← Int.mul_assoc, low_eq hb, Int.mul_right_comm]
theorem natAbs_le_of_mul {x g y : Int} (hg : 0 < g) (e : x * g = y) : x.natAbs ≤ y.natAbs := by
  rw [← e, Int.natAbs_mul]
  exact Nat.le_mul_of_pos_right _ (by omega)
theorem lowT_le {h b : Int} (hb : b ≠ 0) : (lowT h b).natAbs ≤ h.natAbs := by
  have := natAbs_le_of_mul (gd_pos (h := h) hb) (lowT_mul (h := h) (b := b))
  rwa [natAbs_sg] at this
theorem lowB_le {h b : Int} (hb : b ≠ 0) : (lowB h b).natAbs ≤ b.natAbs := by
  have := natAbs_le_of_mul (gd_pos (h := h) hb) (lowB_mul (h := h) (b := b))
  rwa [natAbs_sg] at this
/-- what __init__ divides by -/
def shr (h b : Int) : Int := if b < 0 then -(gd h b) else gd h b
theorem shr_eq (h b : Int) : shr h b = sg b * gd h b := by unfold shr sg; split <;> simp
theorem fdiv_of {x y z : Int} (hy : y ≠ 0) (e : x = z * y) : x.fdiv y = z := by
  rw [e]
  exact Int.mul_fdiv_cancel _ hy
theorem init_top {h b : Int} (hb : b ≠ 0) : h.fdiv (shr h b) = lowT h b := by
  have hp := gd_pos (h := h) hb
  refine fdiv_of (by rw [shr_eq]; unfold sg; split <;> omega) ?_
  rw [shr_eq, Int.mul_comm (sg b), ← Int.mul_assoc, lowT_mul, Int.mul_right_comm, sg_sq, Int.one_mul]
theorem init_bot {h b : Int} (hb : b ≠ 0) : b.fdiv (shr h b) = lowB h b := by
  have hp := gd_pos (h := h) hb
  refine fdiv_of (by rw [shr_eq]; unfold sg; split <;> omega) ?_
  rw [shr_eq, Int.mul_comm (sg b), ← Int.mul_assoc, lowB_mul, Int.mul_right_comm, sg_sq, Int.one_mul]
theorem shr_ne {h b : Int} (hb : b ≠ 0) : shr h b ≠ 0 := by
  have hp := gd_pos (h := h) hb
  rw [shr_eq]; unfold sg; split <;> omega
theorem shr_le {h b : Int} (hb : b ≠ 0) : (shr h b).natAbs ≤ b.natAbs := by
  rw [shr_eq, natAbs_sg]; exact gd_le hb
end NumM

/-! The texts of ints and fractions, as lists of codes. -/
namespace NumT
open PySem PySem.Spec PyProof.Rows L2 SX
open TL (numL)
def iL (z : Int) : List Nat := if z < 0 then 45 :: numL z.natAbs else numL z.natAbs
theorem toS (z : Int) : ((toString z : String) : Str) = S (iL z) := by
  unfold iL
  by_cases h : z < 0
  · rw [if_pos h]
    obtain ⟨n, rfl⟩ : ∃ n : Nat, z = -((n : Nat) : Int) := ⟨z.natAbs, by omega⟩
    have hn : 0 < n := by omega
    obtain ⟨m, rfl⟩ : ∃ m, n = m + 1 := ⟨n - 1, by omega⟩
    have e : (toString (-(((m + 1 : Nat)) : Int)) : String) = "-" ++ toString (((m + 1 : Nat) : Nat) : Int) := rfl
    have e2 : ((-(((m + 1 : Nat)) : Int)).natAbs) = m + 1 := by omega
    rw [e2]
    show Str.ofString (toString (-(((m + 1 : Nat)) : Int))) = _
    rw [e]
    have e3 := TL.tl_num (m + 1)
    refine TL.ext_tl ?_
    show (Str.ofString ("-" ++ toString (((m + 1 : Nat)) : Int))).cps.toList = _
    have e4 : (Str.ofString ("-" ++ toString (((m + 1 : Nat)) : Int))).cps.toList = 45 :: (Str.ofString (toString (((m + 1 : Nat)) : Int))).cps.toList := by
      simp [Str.ofString]
      rfl
    rw [e4]
    exact congrArg (45 :: ·) e3
  · rw [if_neg h]
    obtain ⟨n, rfl⟩ : ∃ n : Nat, z = ((n : Nat) : Int) := ⟨z.natAbs, by omega⟩
    exact num_S n
theorem iL_free {z : Int} : 47 ∉ iL z := by
  unfold iL
  split
  · intro h
    rcases List.mem_cons.mp h with h | h
    · cases h
    · exact TL.numL_free (by decide) h
  · exact TL.numL_free (by decide)
theorem numL_all (n : Nat) : NumText.AllDigits (numL n) := TL.numL_digits n
theorem pre_one {c d : Nat} {r : List Nat} : TL.pre [c] (d :: r) = decide (c = d) := by
  by_cases h : c = d
  · rw [decide_eq_true h]
    subst h
    simp [TL.pre]
  · rw [decide_eq_false h]
    have h2 : ¬ d = c := fun e => h e.symm
    simp [TL.pre, h, h2]
theorem par_none (c : Nat) : ∀ (a acc : List Nat), c ∉ a → TL.par [c] acc a = none
  | [], _, _ => rfl
  | d :: r, acc, h => by
    have hd : ¬ c = d := fun e => h (by rw [e]; exact List.mem_cons_self)
    show (if TL.pre [c] (d :: r) = true then _ else _) = _
    rw [pre_one, decide_eq_false hd, if_neg Bool.false_ne_true]
    exact par_none c r _ fun z => h (List.mem_cons_of_mem _ z)
theorem par_some (c : Nat) (q : List Nat) : ∀ (a acc : List Nat), c ∉ a → TL.par [c] acc (a ++ c :: q) = some (acc ++ a, q)
  | [], acc, _ => by
    show (if TL.pre [c] (c :: q) = true then _ else _) = _
    rw [pre_one, decide_eq_true rfl, if_pos rfl]
    simp
  | d :: r, acc, h => by
    have hd : ¬ c = d := fun e => h (by rw [e]; exact List.mem_cons_self)
    rw [List.cons_append]
    show (if TL.pre [c] (d :: (r ++ c :: q)) = true then _ else TL.par [c] (acc ++ [d]) (r ++ c :: q)) = _
    rw [pre_one, decide_eq_false hd, if_neg Bool.false_ne_true, par_some c q r _ fun z => h (List.mem_cons_of_mem _ z)]
    simp
theorem part_none {a : List Nat} (h : 47 ∉ a) : Txt.partition (S a) (S [47]) = (S a, S [], S []) := partition_none (by simp) (par_none 47 a [] h)
theorem part_some {a q : List Nat} (h : 47 ∉ a) : Txt.partition (S (a ++ 47 :: q)) (S [47]) = (S a, S [47], S q) := partition_some (by simp) (par_some 47 q a [] h)
theorem slash_S : ("/" : Str) = S [47] := by decide +kernel
theorem minus_S : ("-" : Str) = S [45] := by decide +kernel
/-- digits, and at least one -/
def dig (a : List Nat) : Bool := !a.isEmpty && a.all (fun c => decide (48 ≤ c) && decide (c ≤ 57))
theorem ascii_S (a : List Nat) : Txt.isascii (S a) = a.all (fun c => decide (c < 128)) := by
  show (S a).cps.all (· < 128) = _
  rw [← Array.all_toList]
theorem digit_S {a : List Nat} (h : a.all (fun c => decide (c < 128)) = true) : Txt.isdigit (S a) = dig a := by
  have e : Txt.isdigit (S a) = (decide ((S a).length > 0) && (S a).cps.all Unicode.isDigit) := rfl
  rw [e, ← Array.all_toList, S_len]
  show (decide (a.length > 0) && a.all Unicode.isDigit) = _
  unfold dig
  have e1 : decide (a.length > 0) = !a.isEmpty := by cases a <;> simp
  rw [e1]
  congr 1
  have hall : ∀ c ∈ a, c < 128 := fun c hc => of_decide_eq_true (List.all_eq_true.mp h c hc)
  clear h e e1
  induction a with
  | nil => rfl
  | cons c r ih =>
    have k : ∀ n : _root_.Fin 128, Unicode.isDigit n.val = (decide (48 ≤ n.val) && decide (n.val ≤ 57)) := by decide +kernel
    rw [List.all_cons, List.all_cons, ih fun d hd => hall d (List.mem_cons_of_mem _ hd), k ⟨c, hall c List.mem_cons_self⟩]
/-- isascii and isdigit together -/
theorem both_S (a : List Nat) : (Txt.isascii (S a) && Txt.isdigit (S a)) = dig a := by
  rw [ascii_S]
  cases h : a.all (fun c => decide (c < 128)) with
  | true => rw [Bool.true_and]; exact digit_S h
  | false =>
    rw [Bool.false_and]
    cases q : dig a with
    | false => rfl
    | true =>
      unfold dig at q
      have q2 := (Bool.and_eq_true_iff.mp q).2
      have : a.all (fun c => decide (c < 128)) = true := List.all_eq_true.mpr fun c hc => by
        have z := List.all_eq_true.mp q2 c hc
        rw [Bool.and_eq_true, decide_eq_true_eq, decide_eq_true_eq] at z
        exact decide_eq_true (by omega)
      rw [this] at h
      exact nomatch h
theorem dig_num (n : Nat) : dig (numL n) = true := by
  unfold dig
  have h1 := TL.numL_ne n
  have h2 := numL_all n
  rw [Bool.and_eq_true]
  refine ⟨by cases e : numL n with
    | nil => exact absurd e h1
    | cons => rfl, List.all_eq_true.mpr fun c hc => ?_⟩
  have := h2 c hc
  rw [Bool.and_eq_true, decide_eq_true_eq, decide_eq_true_eq]
  exact this
theorem dig_all {a : List Nat} (h : dig a = true) : NumText.AllDigits a ∧ a ≠ [] := by
  unfold dig at h
  obtain ⟨h1, h2⟩ := Bool.and_eq_true_iff.mp h
  refine ⟨fun c hc => ?_, by rintro rfl; exact nomatch h1⟩
  have z := List.all_eq_true.mp h2 c hc
  rw [Bool.and_eq_true, decide_eq_true_eq, decide_eq_true_eq] at z
  exact z
/-- removeprefix('-') -/
def unsig : List Nat → List Nat
  | 45 :: r => r
  | a => a
theorem rmp_S (a : List Nat) (ha : a ≠ [45]) : Txt.removeprefix (S a) (S [45]) = S (unsig a) := by
  rw [StrLaws.removeprefix_eq]
  have e : ∀ l : List Nat, Builtin.Str.subAt (S l) (S [45]) 0 = (match l with
    | c :: _ => decide (45 = c)
    | [] => false) := fun l => by
    rw [StrLaws.subAt_eq]
    cases l with
    | nil => decide +kernel
    | cons c r =>
      show (((c :: r).drop 0).take 1 == [45]) = _
      simp [eq_comm]
      try rfl
  cases a with
  | nil => decide +kernel
  | cons c r =>
    rw [e (c :: r)]
    have hl : decide (0 + (S [45]).length ≤ (S (c :: r)).length) = true := by
      rw [S_len, S_len]
      simp
    rw [hl, Bool.true_and]
    by_cases h : 45 = c
    · subst h
      show (if decide ((45 : Nat) = 45) = true then _ else _) = _
      rw [if_pos (by decide)]
      refine TL.ext_tl ?_
      show (((45 :: r).drop (S [45]).length).take ((S (45 :: r)).length - (S [45]).length)) = r
      rw [S_len, S_len]
      simp
    · have hu : unsig (c :: r) = c :: r := by
        unfold unsig
        split
        · rename_i z
          have := (List.cons.inj z).1
          exact absurd this.symm h
        · rfl
      show (if decide (45 = c) = true then _ else _) = _
      rw [decide_eq_false h, if_neg Bool.false_ne_true, hu]
theorem unsig_i (z : Int) : unsig (iL z) = numL z.natAbs := by
  unfold iL
  split
  · rfl
  · have h := numL_all z.natAbs
    cases e : numL z.natAbs with
    | nil => rfl
    | cons c r =>
      have := h c (by rw [e]; exact List.mem_cons_self)
      unfold unsig
      split
      · rename_i z
        have := (List.cons.inj z).1
        omega
      · rfl
theorem iL_ne45 (z : Int) : iL z ≠ [45] := fun h => by
  have e := unsig_i z
  rw [h] at e
  exact TL.numL_ne _ e.symm
theorem num_len {n : Nat} (h : n < 2 ^ 1000) : (numL n).length ≤ 302 := TL.numL_len (by decide) (Nat.lt_of_lt_of_le h (by decide +kernel))
theorem i_len {z : Int} (h : z.natAbs < 2 ^ 1000) : (iL z).length ≤ 303 := by
  unfold iL
  have := num_len h
  split
  · rw [List.length_cons]; omega
  · omega
theorem int_i {z : Int} (h : z.natAbs < 2 ^ 1000) : intText? (S (iL z)) = some z := by
  have hl := num_len h
  unfold iL
  split
  · rename_i hz
    have e := PySem.intText_neg (x := S (45 :: numL z.natAbs)) (cs := numL z.natAbs) rfl (numL_all _) (TL.numL_ne _) (by rw [S_len, List.length_cons]; omega)
    rw [TL.numL_val] at e
    rw [e]
    congr 1
    omega
  · rename_i hz
    have e := PySem.intText_digits (x := S (numL z.natAbs)) (numL_all _) (TL.numL_ne _) (by rw [S_len]; omega)
    have e2 : (S (numL z.natAbs)).cps.toList = numL z.natAbs := rfl
    rw [e2, TL.numL_val] at e
    rw [e]
    congr 1
    omega
/-- the text of a fraction -/
def fL (t b : Int) : List Nat := if b = 1 then iL t else iL t ++ 47 :: iL b
theorem iL_inj {x y : Int} (h : iL x = iL y) : x = y := by
  have hu := congrArg unsig h
  rw [unsig_i, unsig_i] at hu
  have e := TL.numL_inj hu
  by_cases hx : x < 0 <;> by_cases hy : y < 0
  · omega
  · exfalso
    unfold iL at h
    rw [if_pos hx, if_neg hy] at h
    have := numL_all y.natAbs 45 (by rw [← h]; exact List.mem_cons_self)
    omega
  · exfalso
    unfold iL at h
    rw [if_neg hx, if_pos hy] at h
    have := numL_all x.natAbs 45 (by rw [h]; exact List.mem_cons_self)
    omega
  · omega
theorem f_len {t b : Int} (h1 : t.natAbs < 2 ^ 1000) (h2 : b.natAbs < 2 ^ 1000) : (fL t b).length ≤ 610 := by
  have a := i_len h1
  have c := i_len h2
  unfold fL
  split
  · omega
  · rw [List.length_append, List.length_cons]; omega
theorem fL_inj {t b u c : Int} (h : fL t b = fL u c) : t = u ∧ b = c := by
  unfold fL at h
  by_cases hb : b = 1 <;> by_cases hc : c = 1
  · rw [if_pos hb, if_pos hc] at h
    exact ⟨iL_inj h, by omega⟩
  · rw [if_pos hb, if_neg hc] at h
    exact absurd (by rw [h]; simp) (iL_free (z := t))
  · rw [if_neg hb, if_pos hc] at h
    exact absurd (by rw [← h]; simp) (iL_free (z := u))
  · rw [if_neg hb, if_neg hc] at h
    have p1 := par_some 47 (iL b) (iL t) [] iL_free
    have p2 := par_some 47 (iL c) (iL u) [] iL_free
    rw [h, p2] at p1
    have := Prod.mk.inj (Option.some.inj p1)
    exact ⟨(iL_inj this.1).symm, (iL_inj this.2).symm⟩
end NumT

namespace Hk
open PySem PySem.Spec PyProof.Rows L2 NumM NumT SX
/-- codes below 128 -/
def Asc (x : Str) : Prop := ∀ c ∈ x.cps.toList, c < 128
theorem Asc.app {x y : Str} (h : Asc x) (g : Asc y) : Asc (x ++ y) := fun c hc => by
  rw [show (x ++ y).cps.toList = x.cps.toList ++ y.cps.toList from TL.tl_append x y] at hc
  rcases List.mem_append.mp hc with z | z
  · exact h c z
  · exact g c z
theorem Asc.ok {x : Str} (h : Asc x) : PyData.strOk x = true := by
  unfold PyData.strOk
  rw [← Array.all_toList, List.all_eq_true]
  intro c hc
  have := h c hc
  exact decide_eq_true (by omega)
theorem char_asc (q c : Nat) (hq : q = 39 ∨ q = 34) (hc : c < 128) : ∀ d ∈ Builtin.Str.reprChar q c, d < 128 := by
  have k : ∀ n : _root_.Fin 128, ((Builtin.Str.reprChar 39 n.val).all (fun d => decide (d < 128)) && (Builtin.Str.reprChar 34 n.val).all (fun d => decide (d < 128))) = true := by decide +kernel
  have h := k ⟨c, hc⟩
  obtain ⟨h1, h2⟩ := Bool.and_eq_true_iff.mp h
  intro d hd
  rcases hq with rfl | rfl
  · exact of_decide_eq_true (List.all_eq_true.mp h1 d hd)
  · exact of_decide_eq_true (List.all_eq_true.mp h2 d hd)
theorem fold_asc (q : Nat) (hq : q = 39 ∨ q = 34) : ∀ (l : List Nat) (acc : Array Nat), (∀ c ∈ l, c < 128) → (∀ c ∈ acc.toList, c < 128) → ∀ c ∈ (l.foldl (fun out c => out ++ (Builtin.Str.reprChar q c).toArray) acc).toList, c < 128
  | [], acc, _, h => h
  | x :: r, acc, hl, h => by
    rw [List.foldl_cons]
    refine fold_asc q hq r _ (fun c hc => hl c (List.mem_cons_of_mem _ hc)) fun c hc => ?_
    rw [Array.toList_append] at hc
    rcases List.mem_append.mp hc with z | z
    · exact h c z
    · exact char_asc q x hq (hl x List.mem_cons_self) c (by simpa using z)
theorem repr_asc {x : Str} (h : Asc x) : Asc (reprText x) := by
  have hq : reprQuote x = 39 ∨ reprQuote x = 34 := by
    unfold reprQuote
    split <;> simp
  intro c hc
  unfold reprText at hc
  rw [Array.toList_push] at hc
  rcases List.mem_append.mp hc with z | z
  · rw [← Array.foldl_toList] at z
    refine fold_asc _ hq x.cps.toList _ h (fun d hd => ?_) c z
    have : d = reprQuote x := by simpa using hd
    rw [this]
    rcases hq with e | e <;> rw [e] <;> decide
  · have : c = reprQuote x := by simpa using z
    rw [this]
    rcases hq with e | e <;> rw [e] <;> decide
theorem lit_asc {x : Str} (h : x.cps.toList.all (fun c => decide (c < 128)) = true) : Asc x := fun c hc => of_decide_eq_true (List.all_eq_true.mp h c hc)
theorem join_asc {s : Str} {ts : List Str} (hs : Asc s) (h : ∀ t ∈ ts, Asc t) : Asc (Str.join s ts) := fun c hc => by
  rcases (mem_join s c ts).mp hc with ⟨t, ht, z⟩ | ⟨_, z⟩
  · exact h t ht c z
  · exact hs c z
theorem S_asc {a : List Nat} (h : ∀ c ∈ a, c < 128) : Asc (S a) := h
theorem int_asc (i : Int) : Asc ((toString i : String) : Str) := by
  rw [toS]
  intro c hc
  have hc : c ∈ iL i := hc
  unfold iL at hc
  split at hc
  · rcases List.mem_cons.mp hc with h | h
    · omega
    · have := numL_all _ c h; omega
  · have := numL_all _ c hc; omega
mutual
/-- all texts in it have codes below 128 -/
def ascD : PyData → Prop
  | .str x => Asc x
  | .list xs => ascDs xs
  | .tuple xs => ascDs xs
  | .dict _ => False
  | _ => True
def ascDs : List PyData → Prop
  | [] => True
  | x :: xs => ascD x ∧ ascDs xs
end
mutual
theorem shown_asc : ∀ d : PyData, ascD d → Asc d.shown
  | .none, _ => lit_asc (by decide +kernel)
  | .bool b, _ => by cases b <;> exact lit_asc (by decide +kernel)
  | .int i, _ => by rw [PyData.shown_int]; exact int_asc i
  | .str x, h => by
    rw [PyData.shown_str]
    simp only [ascD] at h
    exact repr_asc h
  | .list xs, h => by
    simp only [ascD] at h
    rw [PyData.shown_list]
    exact ((lit_asc (by decide +kernel)).app (join_asc (lit_asc (by decide +kernel)) (shownAll_asc xs h))).app (lit_asc (by decide +kernel))
  | .tuple xs, h => by
    simp only [ascD] at h
    rw [PyData.shown_tuple]
    refine ((lit_asc (by decide +kernel)).app (join_asc (lit_asc (by decide +kernel)) (shownAll_asc xs h))).app ?_
    split <;> exact lit_asc (by decide +kernel)
  | .dict _, h => by simp only [ascD] at h
theorem shownAll_asc : ∀ xs : List PyData, ascDs xs → ∀ t ∈ PyData.shownAll xs, Asc t
  | [], _ => by
    rw [PyData.shownAll_nil]
    intro t ht
    exact absurd ht (List.not_mem_nil)
  | x :: xs, h => by
    simp only [ascDs] at h
    rw [PyData.shownAll_cons]
    intro t ht
    rcases List.mem_cons.mp ht with e | e
    · rw [e]; exact shown_asc x h.1
    · exact shownAll_asc xs h.2 t e
end
end Hk

/-! Numbers: what stands at an instance, promises, texts. -/
namespace Hk
open PySem PySem.Spec PyProof.Rows L2 NumM
/-! ### the class Number: data, promises -/
def numF (t b : Int) : List (Str × V) := [("_top", .int t), ("_bottom", .int b)]
theorem ktb : ¬ (("_top" : Str) = "_bottom") := by decide +kernel
theorem numF_eq (t b : Int) : putF "_bottom" (.int b) (putF "_top" (.int t) []) = numF t b := by
  show (if ("_top" : Str) = "_bottom" then [(("_top" : Str), V.int b)] else (("_top" : Str), V.int t) :: putF "_bottom" (V.int b) []) = numF t b
  rw [if_neg ktb]
  rfl
theorem numF_top (t b : Int) : (numF t b).lookup ("_top" : Str) = some (.int t) := by
  rw [← numF_eq, lookup_putF, if_neg ktb, lookup_putF, if_pos rfl]
theorem numF_bot (t b : Int) : (numF t b).lookup ("_bottom" : Str) = some (.int b) := by
  rw [← numF_eq, lookup_putF, if_pos rfl]
/-- a Number in lowest terms stands at p -/
structure NumAt (C : Addr) (H : Hp) (p : Addr) (t b : Int) : Prop where
  at_ : ∃ dx, H p = some (.ins C dx (numF t b))
  pos : 0 < b
  cop : Nat.gcd t.natAbs b.natAbs = 1
theorem NumAt.same {C : Addr} {H H' : Hp} {p : Addr} {t b : Int} (n : NumAt C H p t b) (s : Same H H') : NumAt C H' p t b := by
  obtain ⟨dx, h⟩ := n.at_
  exact ⟨⟨dx, s _ _ h⟩, n.pos, n.cop⟩
/-- sizes: numbers of this many bits -/
abbrev Sz (n : Int) : Prop := n.natAbs < 2 ^ 1000
def spInit (C : Addr) : Sp := fun vs H Q _ => ∃ (p dx : Addr) (h b : Int), vs = [.ref p, .int h, .int b] ∧ H p = some (.ins C dx []) ∧ b ≠ 0 ∧ Sz b ∧ Q .non (upd H p (.ins C dx (numF (lowT h b) (lowB h b))))
/-- a reader of a Number -/
def spGet (C : Addr) (g : Int → Int → V) : Sp := fun vs H Q _ => ∃ (p : Addr) (t b : Int), vs = [.ref p] ∧ NumAt C H p t b ∧ Sz t ∧ Sz b ∧ Q (g t b) H
def sgn (t : Int) : Int := if t = 0 then 0 else if 0 < t then 1 else -1
def txt (t b : Int) : Str := if b = 1 then ((toString t : String) : Str) else ((toString t : String) : Str) ++ ("/" : Str) ++ ((toString b : String) : Str)
/-- __eq__ -/
def spEq (C : Addr) (K : Fr) : Sp := fun vs H Q _ => ∃ (p : Addr) (t b : Int) (y : V), vs = [.ref p, y] ∧ NumAt C H p t b ∧
  ((∃ q u c, y = .ref q ∧ NumAt C H q u c ∧ Q (.bl (decide (t = u) && decide (b = c))) H) ∨ (∃ ty, TyX K H y ty ∧ PySem.W.kitOne K ty (.ref C) = some false ∧ Q (.bl false) H))
def spIsInt : Sp := fun vs H Q _ => ∃ i : Int, vs = [.int i] ∧ Q (.bl true) H
section
variable {X : Cx}
/-- // by any divisor below 2 ^ 9000 -/
def CDivG (_ j : Int) : Prop := j ≠ 0 ∧ j.natAbs.log2 < 9000
theorem op_fdivG : OpR X (binaryOp .FloorDiv) (rI CDivG fun i j => .int (i.fdiv j)) := opI fun _ _ _ _ _ _ _ hc q => floordiv_int hc.1 q (.inl (PyProof.noPylong_of_log2 hc.2))
end
theorem log2_sz {i : Int} (h : Sz i) : i.natAbs.log2 < 1000 := PySem.Flt.log2_lt_of (by decide) h
end Hk
namespace Hk
open PySem PySem.Spec PyProof.Rows L2 NumM NumT SX
theorem empty_S : Str.empty = S [] := by decide +kernel
theorem log2_small {i : Int} (h : Sz i) : i.natAbs.log2 < 1920 := Nat.lt_trans (log2_sz h) (by decide)
theorem line_ge {n : Nat} (h : n ≤ 100000) : n ≤ sizeLine := Nat.le_trans h (by decide)
end Hk
namespace Hk
open PySem PySem.Spec PyProof.Rows L2 NumM NumT SX
/-- a promise about one text -/
def spDigits : Sp := fun vs H Q _ => ∃ a : List Nat, vs = [.str (S a)] ∧ Q (.bl (dig a)) H
end Hk
namespace Hk
open PySem PySem.Spec PyProof.Rows L2 NumM NumT SX
/-- a new Number comes back -/
abbrev NewNum (C : Addr) (H : Hp) (Q : VK) (t b : Int) : Prop := ∀ (H' : Hp) (p : Addr), Same H H' → H p = none → NumAt C H' p t b → Q (.ref p) H'
/-- a text of a fraction in lowest terms is read -/
def spRead (C : Addr) : Sp := fun vs H Q _ => ∃ t b : Int, vs = [.str (S (fL t b))] ∧ 0 < b ∧ Nat.gcd t.natAbs b.natAbs = 1 ∧ Sz t ∧ Sz b ∧ NewNum C H Q t b
theorem truS {K : Fr} {H : Hp} {a : List Nat} (h : a.length ≤ 100000) : TruV K (.str (S a)) H (!a.isEmpty) := by
  refine ⟨by rw [S_len]; exact line_ge h, ?_⟩
  rw [S_len]
  cases a with
  | nil => rfl
  | cons c r => rfl
/-- an instance is laid: it and its dict are new -/
theorem laid_same {H : Hp} {x dx C : Addr} {fs : List (Str × V)} (nx : H x = none) (nd : H dx = none) : Same H (upd (upd (upd H dx (.own x)) x (.ins C dx [])) x (.ins C dx fs)) := by
  intro b o e
  rw [upd_upd, upd_ne (ne_of_none e nx), upd_ne (ne_of_none e nd)]
  exact e
theorem same_upd {H : Hp} {p : Addr} {o : HO} (h : H p = none) : Same H (upd H p o) := fun b u e => by
  rw [upd_ne (ne_of_none e h)]
  exact e
theorem same_upd' {H H1 : Hp} {p : Addr} {o : HO} (s : Same H H1) (h : H p = none) : Same H (upd H1 p o) := fun b u e => by
  rw [upd_ne (ne_of_none e h)]
  exact s b u e
/-- a call of the class with its two arguments: what __init__ promises of it -/
theorem mk_num {C : Addr} {H : Hp} {Q : VK} {h b : Int} (hb : b ≠ 0) (sb : Sz b) (k : NewNum C H Q (lowT h b) (lowB h b)) : ∀ x dx, H x = none → H dx = none → dx ≠ x →
    spInit C [.ref x, .int h, .int b] (upd (upd H dx (.own x)) x (.ins C dx [])) (fun v H2 => v = .non ∧ Q (.ref x) H2) E0 := by
  intro x dx nx nd ne
  refine ⟨x, dx, h, b, rfl, upd_same, hb, sb, rfl, ?_⟩
  exact k _ x (laid_same nx nd) nx ⟨⟨dx, upd_same⟩, low_pos hb, low_cop hb⟩
end Hk
namespace Hk
open PySem PySem.Spec PyProof.Rows L2 NumM NumT SX
theorem map_int_get {ns : List Int} {j : Nat} (h : j < ns.length) : ∃ n : Int, ns[j]? = some n ∧ atI (ns.map V.int) ((j : Nat) : Int) = some (V.int n) := by
  refine ⟨ns[j], by simp [h], ?_⟩
  refine atI_nat ?_
  rw [List.getElem?_map]
  simp [h]
end Hk
namespace Hk
open PySem PySem.Spec PyProof.Rows L2 NumM NumT SX
theorem iL_small (z : Int) : ∀ c ∈ iL z, c < 128 := fun c hc => by
  unfold iL at hc
  split at hc
  · rcases List.mem_cons.mp hc with h | h
    · omega
    · have := numL_all _ c h; omega
  · have := numL_all _ c hc; omega
theorem fL_small (t b : Int) : ∀ c ∈ fL t b, c < 128 := fun c hc => by
  unfold fL at hc
  split at hc
  · exact iL_small _ c hc
  · rcases List.mem_append.mp hc with h | h
    · exact iL_small _ c h
    · rcases List.mem_cons.mp h with h | h
      · omega
      · exact iL_small _ c h
/-- repr of a Number, by its codes -/
def rL (t b : Int) : List Nat := [78, 117, 109, 98, 101, 114, 40] ++ fL t b ++ [41]
theorem repr_S (t b : Int) : ("Number(" : Str) ++ S (fL t b) ++ (")" : Str) = S (rL t b) := by
  have e1 : ("Number(" : Str) = S [78, 117, 109, 98, 101, 114, 40] := by decide +kernel
  have e2 : (")" : Str) = S [41] := by decide +kernel
  rw [e1, e2, S_cat, S_cat]
  rfl
theorem rL_small (t b : Int) : ∀ c ∈ rL t b, c < 128 := fun c hc => by
  unfold rL at hc
  rcases List.mem_append.mp hc with h | h
  · rcases List.mem_append.mp h with h | h
    · exact (by decide : ∀ c ∈ [78, 117, 109, 98, 101, 114, 40], c < 128) c h
    · exact fL_small _ _ c h
  · rw [List.mem_singleton.mp h]; decide
/-- what is shown of a Number -/
def seenD (t b : Int) : PyData := .list [.int t, .int b, .int (sgn t), .str (S (fL t b)), .str (S (rL t b)), .bool true]
def seenT (t b : Int) : Str := (seenD t b).shown
theorem sgn_sz (t : Int) : Sz (sgn t) := by
  unfold sgn
  split
  · decide +kernel
  · split <;> decide +kernel
theorem show_int {i : Int} (h : Sz i) : (PyData.int i).showable = true := by
  simp only [PyData.showable, decide_eq_true_eq]
  exact log2_small h
theorem short_int {i : Int} (h : Sz i) : (PyData.int i).leavesShort 320 = true := by
  simp only [PyData.leavesShort, decide_eq_true_eq]
  rw [PyData.shown_int, toS, S_len]
  have := i_len h
  omega
theorem short_S {a : List Nat} (h : ∀ c ∈ a, c < 128) : (PyData.str (S a)).leavesShort 320 = true := by
  simp only [PyData.leavesShort, List.all_eq_true, decide_eq_true_eq]
  intro c hc
  exact Nat.lt_trans (h c hc) (by decide)
theorem seen_ok {t b : Int} (st : Sz t) (sb : Sz b) : (seenD t b).showable = true ∧ (seenD t b).depth ≤ 60 ∧ (seenD t b).shown.length ≤ sizeLine := by
  have l := f_len st sb
  refine ⟨?_, ?_, ?_⟩
  · unfold seenD
    have a := show_int st
    have c := show_int sb
    have d := show_int (sgn_sz t)
    simp only [PyData.showable, PyData.showableAll] at a c d ⊢
    simp [a, c, d]
  · unfold seenD
    simp [PyData.depth, PyData.depthAll]
  · have h := PyData.shown_le_bulk 320 (by decide) (seenD t b) (by
      have a := short_int st
      have c := short_int sb
      have d := short_int (sgn_sz t)
      have e := short_S (fL_small t b)
      have f := short_S (rL_small t b)
      have g : (PyData.bool true).leavesShort 320 = true := rfl
      unfold seenD
      simp only [PyData.leavesShort, PyData.leavesShortAll] at a c d e f g ⊢
      simp [a, c, d, e, f])
    have hb : (seenD t b).bulk ≤ 2000 := by
      unfold seenD
      simp only [PyData.bulk, PyData.bulkAll]
      have e1 : (S (fL t b)).cps.size = (fL t b).length := by simp
      have e2 : (S (rL t b)).cps.size = (fL t b).length + 8 := by simp [rL]
      rw [e1, e2]
      omega
    rw [sizeLine_eq]
    have : 322 * (seenD t b).bulk ≤ 322 * 2000 := Nat.mul_le_mul (Nat.le_refl _) hb
    omega
theorem dp_seen {K : Fr} {H : Hp} {p : Addr} {t b z : Int} (hz : z = sgn t) (h : H p = some (.lst [.int t, .int b, .int z, .str (S (fL t b)), .str (S (rL t b)), .bl true])) : Dp K H (.ref p) (seenD t b) := by
  subst hz
  exact .lst (.inl (.inl h)) (.cons (.int _) (.cons (.int _) (.cons (.int _) (.cons (.str _) (.cons (.str _) (.cons (.bl _) .nil))))))
theorem dp_due {K : Fr} {H : Hp} {p : Addr} {t b z : Int} (hz : z = sgn t) (h : H p = some (.lst [.int t, .int b, .int z, .str (S (fL t b)), .str (("Number(" : Str) ++ S (fL t b) ++ (")" : Str)), .bl true])) : Dp K H (.ref p) (seenD t b) := by
  rw [repr_S] at h
  exact dp_seen hz h
end Hk
namespace Hk
open PySem PySem.Spec PyProof.Rows L2 NumM NumT SX
/-- a promise of a def over a pair (a tuple of two ints at p) -/
def spPair (g : Int → Int → V) : Sp := fun vs H Q _ => ∃ (p : Addr) (t b : Int), vs = [.ref p] ∧ H p = some (.tup [.int t, .int b]) ∧ 0 < b ∧ Sz t ∧ Sz b ∧ ∀ H', Same H H' → Q (g t b) H'
def spSeen (C : Addr) : Sp := fun vs H Q _ => ∃ (p : Addr) (t b : Int), vs = [.ref p] ∧ NumAt C H p t b ∧ Sz t ∧ Sz b ∧ ∀ H', Same H H' → Q (.str (seenT t b)) H'
theorem add_SS (a b : List Nat) : S a ++ S b = S (a ++ b) := S_cat a b
end Hk
namespace Hk
open PySem PySem.Spec PyProof.Rows L2 NumM NumT SX
/-- all but what stands at a is as it was -/
def Old (a : Addr) (H H' : Hp) : Prop := ∀ x o, H x = some o → x ≠ a → H' x = some o
theorem Old.refl (a : Addr) (H : Hp) : Old a H H := fun _ _ h _ => h
theorem Old.trans {a : Addr} {H H1 H2 : Hp} (s : Old a H H1) (t : Old a H1 H2) : Old a H H2 := fun x o h n => t x o (s x o h n) n
theorem Old.same {a : Addr} {H H1 : Hp} (s : Same H H1) : Old a H H1 := fun x o h _ => s x o h
theorem Old.put {a : Addr} {H : Hp} {o : HO} : Old a H (upd H a o) := fun x u h n => by
  rw [upd_ne n]
  exact h
theorem Old.new {a p : Addr} {H : Hp} {o : HO} (np : H p = none) : Old a H (upd H p o) := Old.same (same_upd np)
end Hk
namespace Hk
open PySem PySem.Spec PyProof.Rows L2 NumM NumT SX
theorem dec_int (x y : Int) : decide (V.int x = V.int y) = decide (x = y) := by
  by_cases h : x = y
  · subst h; simp
  · rw [decide_eq_false h, decide_eq_false fun z => h (V.int.inj z)]
theorem sz200 {z : Int} (h : z.natAbs < 2 ^ 200) : Sz z := Nat.lt_of_lt_of_le h (by decide +kernel)
theorem sz_mul {x y : Int} (h : x.natAbs < 2 ^ 200) (h2 : y.natAbs < 2 ^ 4) : Sz (x * y) := Nat.lt_of_lt_of_le (wide_lt h h2) (by decide +kernel)
theorem sz_succ {x : Int} (h : x.natAbs < 2 ^ 200) : Sz (x + 1) := by
  have e : (2 : Nat) ^ 200 + 1 ≤ 2 ^ 1000 := by decide +kernel
  have : (x + 1).natAbs ≤ x.natAbs + 1 := by omega
  exact Nat.lt_of_lt_of_le (show (x + 1).natAbs < 2 ^ 200 + 1 by omega) e
/-- the fraction one greater is another one -/
theorem far_ne {t b : Int} (hb : 0 < b) : (decide (t = lowT (t + 1) b) && decide (b = lowB (t + 1) b)) = false := by
  cases h : (decide (t = lowT (t + 1) b) && decide (b = lowB (t + 1) b)) with
  | false => rfl
  | true =>
    obtain ⟨h1, h2⟩ := Bool.and_eq_true_iff.mp h
    have e1 := of_decide_eq_true h1
    have e2 := of_decide_eq_true h2
    have l := low_eq (h := t + 1) (b := b) (by omega)
    rw [← e1, ← e2, Int.add_mul, Int.one_mul] at l
    omega
theorem num_ne {C : Addr} {H : Hp} {a p : Addr} {xs : List V} {t b : Int} (N : NumAt C H p t b) (h : H a = some (.lst xs)) : p ≠ a := by
  obtain ⟨dx, e⟩ := N.at_
  exact ne_of e h (by intro z; exact nomatch z)
theorem NumAt.old {C : Addr} {H H' : Hp} {a p : Addr} {t b : Int} (N : NumAt C H p t b) (s : Old a H H') (ne : p ≠ a) : NumAt C H' p t b := by
  obtain ⟨dx, h⟩ := N.at_
  exact ⟨⟨dx, s _ _ h ne⟩, N.pos, N.cop⟩
theorem dp_strs {K : Fr} {H : Hp} {p : Addr} {xs : List Str} (h : H p = some (.lst (xs.map V.str))) : Dp K H (.ref p) (.list (xs.map PyData.str)) := by
  refine .lst (.inl (.inl h)) ?_
  clear h
  induction xs with
  | nil => exact .nil
  | cons x r ih => exact .cons (.str x) ih
theorem dp_bls {K : Fr} {H : Hp} {p : Addr} {xs : List Bool} (h : H p = some (.lst (xs.map V.bl))) : Dp K H (.ref p) (.list (xs.map PyData.bool)) := by
  refine .lst (.inl (.inl h)) ?_
  clear h
  induction xs with
  | nil => exact .nil
  | cons x r ih => exact .cons (.bl x) ih
theorem depth_strs : ∀ xs : List Str, PyData.depthAll (xs.map PyData.str) ≤ 1
  | [] => by simp [PyData.depthAll]
  | x :: r => by
    have := depth_strs r
    simp only [List.map_cons, PyData.depthAll, PyData.depth]
    omega
theorem depth_bls : ∀ xs : List Bool, PyData.depthAll (xs.map PyData.bool) ≤ 1
  | [] => by simp [PyData.depthAll]
  | x :: r => by
    have := depth_bls r
    simp only [List.map_cons, PyData.depthAll, PyData.depth]
    omega
theorem shaped_strs {xs : List Str} (h : ∀ x ∈ xs, Asc x) : SeqAt.shaped (.list (xs.map PyData.str)) = true := by
  unfold SeqAt.shaped
  rw [Bool.and_eq_true]
  refine ⟨?_, decide_eq_true ?_⟩
  · show PyData.canLayAll0 (xs.map PyData.str) = true
    rw [PyProof.Rows.canLayAll_strs', List.all_eq_true]
    exact fun x hx => (h x hx).ok
  · have := depth_strs xs
    simp only [PyData.depth]
    omega
theorem shaped_bls (xs : List Bool) : SeqAt.shaped (.list (xs.map PyData.bool)) = true := by
  unfold SeqAt.shaped
  rw [Bool.and_eq_true]
  refine ⟨?_, decide_eq_true ?_⟩
  · show PyData.canLayAll0 (xs.map PyData.bool) = true
    induction xs with
    | nil => rfl
    | cons x r ih => simpa [PyData.canLayAll0, PyData.canLay0] using ih
  · have := depth_bls xs
    simp only [PyData.depth]
    omega
theorem seen_asc (t b : Int) : Asc (seenT t b) := by
  refine shown_asc _ ?_
  unfold seenD
  simp only [ascD, ascDs, and_true, true_and]
  exact ⟨S_asc (fL_small t b), S_asc (rL_small t b)⟩
theorem eqv_strs (xs : List Str) : PyData.eqv (.list (xs.map PyData.str)) (.list (xs.map PyData.str)) = true := by
  simp only [PyData.eqv]
  induction xs with
  | nil => rfl
  | cons x r ih => simp [PyData.eqvAll, PyData.eqv, ih]
theorem eqv_bls (xs : List Bool) : PyData.eqv (.list (xs.map PyData.bool)) (.list (xs.map PyData.bool)) = true := by
  simp only [PyData.eqv]
  induction xs with
  | nil => rfl
  | cons x r ih => simp [PyData.eqvAll, PyData.eqv, ih]
/-- two keywords, given in the other order -/
def kwTurn {α : Type} (us ws : List α) : List α := match ws with
  | [b, t] => us ++ [t, b]
  | _ => us
/-- Number(e, ..): a new Number in lowest terms -/
def tNum (C : Addr) (dvs : List V) (t : TA) : TE := fun σ H Q => t σ H fun vs H1 => ∃ h b : Int, vs ++ dvs = [.int h, .int b] ∧ b ≠ 0 ∧ Sz b ∧ NewNum C H1 Q (lowT h b) (lowB h b)
def tNumK (C : Addr) (tk : TA) : TE := fun σ H Q => tk σ H fun zs H1 => ∃ h b : Int, zs = [.int b, .int h] ∧ b ≠ 0 ∧ Sz b ∧ NewNum C H1 Q (lowT h b) (lowB h b)
section
variable {X : Cx} {k : Nat} {f C : Addr} {fd : FuncData} {ps : List Str} {dvs : List V} {ds : List Value} {x : Str} {p pos : Pos} {e : Expr} {es : List Expr} {kws : List Keyword} {t tk : TA} {g : List Value → List Value → List Value}
theorem pe_num (M : Mk X.K C f) (F : FnOk X.prog X.w X.K X.mg X.base CX0 k f fd ps (spInit C)) (hr : Room (k + 1) X.A) (hm : X.mg x = some (.ref C)) (hb : Binds X.K fd ps ds) (hd : Vals dvs ds) (ha : PA X (e :: es) t) (hg : Gl X x := by rfl)
    (hdb : (x == ("__debug__" : Str)) = false := by decide) (he : starEach (e :: es) X.env = (false, eval e X.env) :: starEach es X.env := by rfl) (hpl : (backTo pos (starEach es X.env)).any (·.1) = false := by rfl) :
    PE X (.Call (.Name x p) (e :: es) [] pos) (tNum C dvs t) := by
  refine ⟨fun pins s σ H Q I h => wpAny_Call_Name_kw (ld_glob I hg hm ?_ hdb)⟩
  refine PySem.W.callWith_K (h₀ := X.base) I.ok.mod.kin M.kp (thn (ha.run pos pins s σ H _ I h) fun us s1 hu => ?_) he hpl
  obtain ⟨vs, H1, J, r, a, b, ev, hb0, sb, q⟩ := hu
  refine ⟨J.kIn, run_make (E := E0) M F hr hb hd pass0 J r ?_⟩
  rw [ev]
  exact mk_num hb0 sb q
theorem pe_numK (M : Mk X.K C f) (F : FnOk X.prog X.w X.K X.mg X.base CX0 k f fd ps (spInit C)) (hr : Room (k + 1) X.A) (hm : X.mg x = some (.ref C)) (hb : KBn X.K fd ps 1 ["bottom", "top"] g (fun vs zs => kwTurn vs zs)) (hkw : PK X kws tk) (hg : Gl X x := by rfl)
    (hall : (backToKw pos (keywordEach kws X.env)).all (·.1.isSome) = true := by rfl) (hks : (backToKw pos (keywordEach kws X.env)).filterMap (·.1) = [("bottom" : Str), ("top" : Str)] := by rfl) (hdb : (x == ("__debug__" : Str)) = false := by decide)
    (hpl : ((backTo pos (starEach [] X.env)).any (·.1) || (backToKw pos (keywordEach kws X.env)).any (·.1.isNone)) = false := by rfl) : PE X (.Call (.Name x p) [] kws pos) (tNumK C tk) := by
  refine ⟨fun pins s σ H Q I h => wpAny_Call_Name_kw (ld_glob I hg hm ?_ hdb)⟩
  refine PySem.W.callWith_KW0 (h₀ := X.base) I.ok.mod.kin M.kp hall (thn (hkw.run pos pins s σ H _ I h) fun ws s2 hu => ?_) hpl
  obtain ⟨zs, H2, J, rz, a, b, ev, hb0, sb, q⟩ := hu
  refine ⟨J.kIn, ?_⟩
  rw [hks]
  refine run_makeK (E := E0) (us := []) (vs := []) M F hr hb pass0 J .nil rz rfl (by rw [ev]; rfl) ?_
  rw [ev]
  exact mk_num hb0 sb q
end
end Hk

namespace Hk
open PySem PySem.Spec PyProof.Rows L2 HotX L2H
section
variable {P : Program} {w : World} {K : Fr} {mg : Str → Option Value} {base : Heap}
theorem hotC_n {X : Cx} {p : Addr × Obj} (h : Hot1 X.A p) (m : p ∈ X.pn) : HotC X := ⟨p, h, m⟩
/-- as BodyH, the body letting nothing out -/
abbrev BodyHn (P : Program) (w : World) (K : Fr) (mg : Str → Option Value) (base : Heap) (k : Nat) (d : Dx) (N ps : List Str) (sp : Sp) : Prop :=
  ∀ (cdv : Value) (A : Around) (outer : List Env) (s : Shared) (H : Hp) (vs : List V) (Q : VK) (E : XK) (p : Addr × Obj), Hot1 A p → RoomH k (A.deeper (envOfC d.ql (defScope d.st) s.heap.objs.size (d.ad K) cdv)) → sp vs H Q E →
      ∃ t, PSs (cxH CX0 P w K mg base N d.ql (defScope d.st) (d.ad K) cdv A outer s H E p).nox (defBody d.st) t ∧ t { nx := fun _ H' => Q .non H', rt := Q } (L2.start N vs) H
theorem calh_n {k : Nat} {d : Dx} {N ps : List Str} {sp : Sp} {x : Str} (D : ∃ fd, DAt K d fd) (hv : d.df = []) (S : FnScope N ps (defScope d.st)) (hm : mg x = some (.ref (d.ad K)))
    (hbi : ∀ (kV doc pm : Value) (an : Option Addr) (cdv ct : Value) (us : List Value), us.length = ps.length → bindArgs (PySem.W.fnOf d.nm d.ql (defArgs d.st) (defBody d.st) (defScope d.st) .none kV doc pm an cdv ct) ⟨us, []⟩ = pure (ps.zip us))
    (len : ∀ vs H Q E, sp vs H Q E → vs.length = ps.length) (hb : BodyHn P w K mg base k d N ps sp) : CalH P w K mg base (k + 1) x (d.ad K) ps sp :=
  calh_of D hv S hm hbi len fun cdv A outer s H vs Q E p hot hr h => by
    obtain ⟨t, c, q⟩ := hb cdv A outer s H vs Q E p hot hr h
    exact ⟨t, c.nox, q⟩
theorem okh_n {k : Nat} {d : Dx} {N ps : List Str} {sp : Sp} {fd : FuncData} (D : DAt K d fd) (S : FnScope N ps (defScope d.st)) (len : ∀ vs H Q E, sp vs H Q E → vs.length = ps.length) (hb : BodyHn P w K mg base k d N ps sp) :
    FnH P w K mg base CX0 (k + 1) (d.ad K) fd ps sp :=
  okh_of D S len fun cdv A outer s H vs Q E p hot hr h => by
    obtain ⟨t, c, q⟩ := hb cdv A outer s H vs Q E p hot hr h
    exact ⟨t, c.nox, q⟩
end
theorem iteTd {c A B : Prop} [Decidable c] (hc : c) (h : A) : if decide c = true then A else B := by
  rw [decide_eq_true hc]
  exact iteT h
theorem iteFd {c A B : Prop} [Decidable c] (hc : ¬ c) (h : B) : if decide c = true then A else B := by
  rw [decide_eq_false hc]
  exact iteF h
theorem unH {k : Nat} {A : Around} (r : RoomH k A) : A.units + 64 < cLine := by have := r.un; omega
/-- both branches give one value -/
theorem if_te {b : Bool} {ta tb : TE} {σ : L2.St} {H : Hp} {Q : VK} (v : V) (hq : Q v H) (ha : b = true → ∀ Q' : VK, Q' v H → ta σ H Q') (hb : b = false → ∀ Q' : VK, Q' v H → tb σ H Q') : if b = true then ta σ H Q else tb σ H Q := by
  cases b with
  | true => exact iteT (ha rfl Q hq)
  | false => exact iteF (hb rfl Q hq)
theorem cutV_from1 (x : V) (xs : List V) : cutV (x :: xs) (some 1) none = xs := by
  unfold cutV
  have e1 : HT.sIx (x :: xs).length 0 (some 1) = 1 := by
    show (if (1 : Int) < 0 then ((1 : Int) + ((x :: xs).length : Int)).toNat else min (1 : Int).toNat (x :: xs).length) = 1
    rw [if_neg (by decide), List.length_cons]
    show min 1 _ = 1
    omega
  rw [e1]
  show (List.drop 1 (x :: xs)).take ((x :: xs).length - 1) = xs
  rw [List.drop_one, List.tail_cons, List.length_cons]
  exact List.take_of_length_le (by omega)
/-! ### comprehensions of a function of each item -/
theorem lc_fn {K : Fr} {a : Addr} {xs : List V} {i : Nat} {te : TE} {σ : L2.St} {H1 : Hp} {D : Addr} {Qd : Hp → Prop} (f : V → V) (nD : H1 D = none) (hl : SqL K H1 a xs) (hz : xs.length ≤ 100000)
    (hs : ∀ x ∈ xs, ∀ (H : Hp) (R : VK), Same H1 H → (∀ H', Same H H' → R (f x) H') → te ((σ.set i none).set i (some x)) H R)
    (hd : ∀ H, Same H1 H → H D = some (.lst (xs.map f)) → Qd H) :
    ∃ W : Nat → Nat → Hp → Prop, (∃ m, W 0 m (upd H1 D (.lst []))) ∧ ∀ j m H, W j m H →
      ((Itl K a).stop j H ∧ Qd H) ∨ ((Itl K a).go j H ∧ ∃ Nx : Hp → Prop, (∀ H', Nx H' → ∃ m', m' < m ∧ W (j + 1) m' H') ∧ ∀ x H', (Itl K a).yld j H x H' → gName i x (wipe σ [i]) H' fun σ2 H2 => wipe σ2 [i] = wipe σ [i] ∧ tYes σ2 H2 fun b H3 =>
        if b = true then te σ2 H3 fun y H4 => ∃ acc, H4 D = some (.lst acc) ∧ acc.length < sizeLine ∧ Nx (upd H4 D (.lst (acc ++ [y]))) else Nx H3) := by
  refine lc_list (xs := xs) (fun j H' => Same H1 H' ∧ H' D = some (.lst ((xs.take j).map f))) ⟨same_upd nD, upd_same⟩ (fun j H' _ h => h.1.seq hl) ?_ ?_
  · rintro j x H hx ⟨s1, hD⟩
    have hj := (List.getElem?_eq_some_iff.mp hx).1
    refine ⟨by show ((σ.set i none).set i (some x)).set i none = σ.set i none; rw [List.set_set, List.set_set], ?_⟩
    unfold tYes
    dsimp only
    rw [if_pos rfl]
    refine hs x (List.mem_of_getElem? hx) H _ s1 fun H' s2 => ⟨_, s2 _ _ hD, ?_, same_upd' (s1.trans s2) nD, ?_⟩
    · rw [List.length_map, List.length_take]
      have : (100000 : Nat) < sizeLine := by decide
      omega
    · rw [upd_same, List.take_add_one, hx, List.map_append]
      rfl
  · rintro H ⟨s1, hD⟩
    rw [List.take_length] at hD
    exact hd H s1 hD
theorem lc_fnS {z : Str} {i : Nat} {te : TE} {σ : L2.St} {H1 : Hp} {D : Addr} {Qd : Hp → Prop} (f : Nat → V) (nD : H1 D = none) (hz : z.cps.size ≤ 100000)
    (hs : ∀ c ∈ z.cps.toList, ∀ (H : Hp) (R : VK), Same H1 H → (∀ H', Same H H' → R (f c) H') → te ((σ.set i none).set i (some (.str ⟨#[c]⟩))) H R)
    (hd : ∀ H, Same H1 H → H D = some (.lst (z.cps.toList.map f)) → Qd H) :
    ∃ W : Nat → Nat → Hp → Prop, (∃ m, W 0 m (upd H1 D (.lst []))) ∧ ∀ j m H, W j m H →
      ((Its z).stop j H ∧ Qd H) ∨ ((Its z).go j H ∧ ∃ Nx : Hp → Prop, (∀ H', Nx H' → ∃ m', m' < m ∧ W (j + 1) m' H') ∧ ∀ x H', (Its z).yld j H x H' → gName i x (wipe σ [i]) H' fun σ2 H2 => wipe σ2 [i] = wipe σ [i] ∧ tYes σ2 H2 fun b H3 =>
        if b = true then te σ2 H3 fun y H4 => ∃ acc, H4 D = some (.lst acc) ∧ acc.length < sizeLine ∧ Nx (upd H4 D (.lst (acc ++ [y]))) else Nx H3) := by
  refine lc_it walk_str (fun j H' => Same H1 H' ∧ H' D = some (.lst ((z.cps.toList.take j).map f))) ⟨same_upd nD, upd_same⟩ (fun _ _ _ _ => trivial) ?_ ?_
  · rintro j x H H' hj ⟨s1, hD⟩ ⟨e, c, hc, ex⟩
    subst e ex
    have hx : z.cps.toList[j]? = some c := by rw [Array.getElem?_toList]; exact hc
    refine ⟨by show ((σ.set i none).set i (some _)).set i none = σ.set i none; rw [List.set_set, List.set_set], ?_⟩
    unfold tYes
    dsimp only
    rw [if_pos rfl]
    refine hs c (List.mem_of_getElem? hx) _ _ s1 fun H' s2 => ⟨_, s2 _ _ hD, ?_, same_upd' (s1.trans s2) nD, ?_⟩
    · rw [List.length_map, List.length_take]
      have : (100000 : Nat) < sizeLine := by decide
      omega
    · rw [upd_same, List.take_add_one, hx, List.map_append]
      rfl
  · rintro H ⟨s1, hD⟩
    have e : z.cps.toList.take z.cps.size = z.cps.toList := by
      rw [← Array.length_toList]
      exact List.take_length
    rw [e] at hD
    exact hd H s1 hD
end Hk

/-! Tuples taken apart where an exception is handled. -/
namespace Hk
open PySem PySem.Spec PyProof.Rows L2 HotX L2H
section
variable {prog : Program} {w : World} {A : Around} {E : Value → Shared → Prop} {s : Shared}
theorem tuple_end_hot {it t x1 : Addr} {i : Nat} {items} {Q : Option Value → Shared → Prop} (hot : HotAt A x1 s.heap) (ne : x1 ≠ it)
    (hit : IsTupIter s.heap it t i) (ht : IsTup s.heap t items) (hx : items[i]? = none)
    (hQ : ∀ h', (∀ b o, b ≠ it → s.heap.get? b = some o → h'.get? b = some o) → Q none { s with heap := h' }) : wpAny (model prog w) A (pyNext (.ref it)) Q E s := by
  obtain ⟨o, ho, hc, hd⟩ := id hit
  obtain ⟨ol, hol, _, nl, hdl⟩ := ht
  obtain ⟨hh, o1, vs1, h1, d1, c1⟩ := hot
  unfold pyNext
  refine wpAny_bind (wpAny_attempt (wpAny_callSpecial?_slot (name := Str.ofString "__next__") hit.typeIs slot_tupleiter_next
    (wpAny_call_entry slot_tupleiter_next hit.typeIs entry_tupleiter_next ?_ (args_tupleiter_next _))))
  show wpAny _ _ (field (.ref it) 0 >>= _) _ _ s
  refine wpAny_bind (wpAny_field ho hd (x := .ref t) rfl ?_)
  show wpAny _ _ (if (Value.ref t == Value.none) = true then _ else _) _ _ s
  rw [if_neg (show ¬ ((Value.ref t == Value.none) = true) from Bool.false_ne_true)]
  show wpAny _ _ (field (.ref it) 1 >>= _) _ _ s
  refine wpAny_bind (wpAny_field ho hd (x := .int i 0) rfl ?_)
  show wpAny _ _ (seqItems? (.ref t) >>= _) _ _ s
  refine wpAny_bind (wpAny_seqItems hol hdl ?_)
  simp only [Int.toNat_natCast, hx]
  refine wpAny_bind (wpAny_rule (wpAny_bind (wpAny_setField ho hd (by simp) ?_)))
  show wpAny _ _ (newExc (.type "StopIteration") [] >>= _) _ _ _
  refine wpAny_bind ?_
  simp only [newExc, newTuple]
  refine wpAny_bind (wpAny_newObj_type ?_ (by size_fits))
  refine wpAny_bind (m := firstArgMember _ _) (wpAny_of_eq (a := Value.none) (by first | rfl | (simp only [firstArgMember]; rfl)) ?_)
  refine wpAny_newObj_type ?_ (by size_fits)
  have g1 := fun {f : Obj → Obj} => (Heap.get?_update_other s.heap f (Ne.symm ne)).trans h1
  refine raiseNew_hot ⟨hh, o1, vs1, Heap.get?_push_of_some _ (Heap.get?_push_of_some _ g1), d1, c1⟩ (Nat.ne_of_lt (Heap.lt_size (Heap.get?_push_of_some _ g1))) (Heap.get?_push_size _ rfl) rfl (by first | (simp; done) | (simp; omega) | decide) ?_
  refine wpAny_bind (wpAny_isInstance (T := "StopIteration") (b := true) ⟨_, Heap.get?_update_self _ (Heap.get?_push_size _ rfl) rfl, rfl⟩ isSubtype_stop ?_)
  refine wpAny_pure (hQ _ fun b o hb e => ?_)
  have g2 := fun {f : Obj → Obj} => (Heap.get?_update_other s.heap f (Ne.symm hb)).trans e
  rw [Heap.get?_update_other _ _ (Nat.ne_of_gt (Heap.lt_size (Heap.get?_push_of_some _ g2)))]
  exact Heap.get?_push_of_some _ (Heap.get?_push_of_some _ g2)
theorem unpackItems_tupleH {x1 t : Addr} {items : Array Value} {Q : List Value → Shared → Prop} (hot : HotAt A x1 s.heap) (ht : IsTup s.heap t items)
    (hQ : ∀ h', Heap.ExtBut s.heap.objs.size s.heap h' → Q items.toList { s with heap := h' }) : wpAny (model prog w) A (unpackItems (.ref t) items.size none) Q E s := by
  have hlt : t ≠ s.heap.objs.size := by obtain ⟨o, ho, _⟩ := ht; exact Nat.ne_of_lt (Heap.lt_size ho)
  obtain ⟨hh, o1, vs1, h1, d1, c1⟩ := hot
  have hx1 : x1 ≠ s.heap.objs.size := Nat.ne_of_lt (Heap.lt_size h1)
  unfold unpackItems
  refine wpAny_bind ?_
  · unfold notIterableAtAll
    refine wpAny_bind (wpAny_specialOf ht.typeIs slot_tuple_iter.lookup ?_)
    refine wpAny_pure ?_
    simp only [Bool.false_eq_true, if_false]
    refine wpAny_bind (wpAny_holding (iter_tuple ht ?_))
    refine wpAny_bind (wpAny_holding (draw_tuple hlt items.size 0 _ _ ⟨_, Heap.get?_push_size _ rfl, rfl, rfl⟩ (ht.push _) (by omega) fun h₁ hit₁ hs₁ => ?_))
    have hall : List.take items.size (List.drop 0 items.toList) = items.toList := by
      rw [List.drop_zero]; exact List.take_of_length_le (by simp)
    rw [hall]
    rw [if_neg (by simp)]
    have ht₁ : IsTup h₁ t items := (ht.push _).extBut hs₁.extBut hlt
    have hg : h₁.get? x1 = some o1 := hs₁.extBut x1 o1 hx1 (Heap.get?_push_of_some _ h1)
    refine wpAny_bind (wpAny_holding (tuple_end_hot (x1 := x1) ⟨hh, o1, vs1, hg, d1, c1⟩ hx1 hit₁ ht₁ (by simp) fun h₂ he₂ => ?_))
    simp only [Option.isSome_none, Bool.false_eq_true, if_false]
    refine wpAny_pure (hQ h₂ fun b o hb e => he₂ b o hb (hs₁.extBut b o hb (Heap.get?_push_of_some _ e)))
theorem assign_Tuple_tupleH {env : Env} {elts : List Expr} {k1} {pos : Pos} {x1 t : Addr} {items : Array Value} {Q : Unit → Shared → Prop} (hot : HotAt A x1 s.heap) (ht : IsTup s.heap t items)
    (hn : (assignEach elts env).length = items.size) (hstar : (assignEach elts env).findIdx? (·.1) = none)
    (h : ∀ h', Heap.ExtBut s.heap.objs.size s.heap h' → wpAny (model prog w) A (assignInOrder ((assignEach elts env).map (·.2)) items.toList) Q E { s with heap := h' }) :
    wpAny (model prog w) A (assign (.Tuple elts k1 pos) env (.ref t)) Q E s := by
  rw [assign_Tuple]
  refine wpAny_bind (wpAny_standAt ?_)
  unfold unpack
  rw [hn, hstar]
  exact wpAny_bind (wpAny_holding (unpackItems_tupleH hot ht h))
end
section
variable {X : Cx}
theorem ps_parH {i j : Nat} {x y : Str} {a b : Expr} {ta : TA} {px py pt pos : Pos} {kt k2 pt2} (hc : HotC X) (hN : X.N.Nodup) (hi : X.N[i]? = some x) (hj : X.N[j]? = some y) (hij : i ≠ j)
    (hx : X.env.scope.names.lookup x = some .local) (hy : X.env.scope.names.lookup y = some .local) (ha : PA X [a, b] ta)
    (hw : swappedStores [.Tuple [.Name x px, .Name y py] kt pt] (.Tuple [a, b] k2 pt2) X.env = pure (some [x, y]))
    (hs : swapsWithSole [.Tuple [.Name x px, .Name y py] kt pt] (.Tuple [a, b] k2 pt2) pos.line X.env = pure false := by rfl) :
    PS X (.Assign [.Tuple [.Name x px, .Name y py] kt pt] (.Tuple [a, b] k2 pt2) pos) (tPar i j ta) := by
  refine ⟨fun pins s σ H D I h => ?_⟩
  rw [exec_Assign_arm]
  refine wpAny_bind (wpAny_standAt ?_)
  rw [hs]
  refine wpAny_bind (wpAny_pure ?_)
  rw [if_neg (by decide)]
  refine wpAny_bind (Tuple_ (thn (ha.run _ pins s σ H _ I h) fun us s1 ⟨vs, H1, I1, r1, q1⟩ => ?_))
  obtain ⟨v, w, e1, q1⟩ := q1
  subst e1
  obtain ⟨u1, u2, rfl, rv, rw'⟩ : ∃ u1 u2, us = [u1, u2] ∧ RelV v u1 ∧ RelV w u2 := by
    cases r1 with
    | cons p q =>
      cases q with
      | cons p' q' =>
        cases q'
        exact ⟨_, _, rfl, p, p'⟩
  refine wpAny_newObj_type ?_ (by show 2 ≤ sizeLine; decide)
  have I2 : Inv X pins σ H1 { s1 with heap := s1.heap.push { cls := .type "tuple", data := .seq [u1, u2].toArray } } := I1.kept (t' := s1.toks) fun b o e => Heap.get?_push_of_some _ e
  rw [hw]
  refine wpAny_bind (wpAny_pure ?_)
  obtain ⟨x1, hot⟩ := hc.at I2
  show wpAny (model X.prog X.w) X.A (do rule "assign.swapped-stores"; let items ← unpackItems (.ref s1.heap.objs.size) 2 none; assignInOrder [fun v => bindName X.env y v, fun v => bindName X.env x v] items.reverse; pure Flow.next) _ _ _
  refine wpAny_bind (wpAny_rule (wpAny_bind (unpackItems_tupleH (items := #[u1, u2]) hot (IsTup.new s1.heap _) fun h' hx' => ?_)))
  have I3 := I2.kept (h' := h') (t' := s1.toks) fun b o e => hx' b o (Nat.ne_of_lt (Heap.lt_size e)) e
  show wpAny _ _ (assignInOrder [fun v => bindName X.env y v, fun v => bindName X.env x v] [u2, u1] >>= fun _ => pure Flow.next) _ _ _
  refine wpAny_bind (assignInOrder_cons (wpAny_bindName (store_ok I3 hN hj (.inl hy) rw' (fun s2 I4 => ?_) (.inr hy))))
  refine assignInOrder_cons (wpAny_bindName (store_ok I4 hN hi (.inl hx) rv (fun s3 I5 => assignInOrder_nil (wpAny_pure ?_)) (.inr hx)))
  rw [List.set_comm _ _ (Ne.symm hij)] at I5
  exact ⟨_, H1, I5, q1⟩
end
end Hk

/-! Own exceptions made where nothing is handled, with their context known to be None; defs that raise such ones. -/
namespace Hk
open PySem PySem.Spec PyProof.Rows L2
theorem pmk_oexN {X : Cx} {CX : CXT} {x : Str} {e : Expr} {es : List Expr} {ta : TA} {p pos : Pos} {C fI : Addr} {k : Nat} {fd : FuncData} {ps : List Str} {sp : Sp} (T : OexC X.K C) (iC : PySem.W.findIn X.K (.ref C) "__init__" = some (some (.ref fI))) (tI : PySem.W.typeIn X.K (.ref fI) = some (.type "function"))
    (F1 : FnOk X.prog X.w X.K X.mg X.base CX k fI fd ps sp) (hr : Room (k + 1) X.A) (hb : Binds X.K fd ps []) (hx : Passes CX X (fun _ _ _ => False)) (hg : Gl X x) (hm : X.mg x = some (.ref C)) (ha : PA X (e :: es) ta)
    (hdb : (x == ("__debug__" : Str)) = false := by decide) (he : starEach (e :: es) X.env = (false, eval e X.env) :: starEach es X.env := by rfl) (hpl : (backTo pos (starEach es X.env)).any (·.1) = false := by rfl) :
    L2N.PMk X (.Call (.Name x p) (e :: es) [] pos) (tMkO C sp [] ta) := by
  intro pins s σ H Q I h
  obtain ⟨nm, q, N, bs, bm, sn, sub, ab, col, dd, k0, k1, k2, k3, k5, hC, hbm⟩ := T.cls
  refine wpAny_Call_Name_kw (ld_glob I hg hm ?_ hdb)
  refine PySem.W.callWith_K (h₀ := X.base) I.ok.mod.kin T.kC (thn (ha.run pos pins s σ H _ I h) fun us s1 ⟨vs, H1, I1, r1, hz, q1⟩ => ⟨I1.kIn, ?_⟩) he hpl
  show wpAny _ _ (call (.ref C) us) _ _ _
  obtain ⟨hp, g, dr, tk, os⟩ := s1
  have hsz : hp.objs.size ≤ hp.objs.size + 1 := Nat.le_succ _
  have hq := q1 (hp.objs.size + 1) (I1.hok.fresh hsz)
  rw [List.append_nil] at hq
  have kk : ∀ b o, hp.get? b = some o → ((hp.push (PySem.W.kdv_tup us)).push (PySem.HandSPX.excO C hp.objs.size)).get? b = some o := fun b o e => Heap.get?_push_of_some _ (Heap.get?_push_of_some _ e)
  have hget : ((hp.push (PySem.W.kdv_tup us)).push (PySem.HandSPX.excO C hp.objs.size)).get? (hp.objs.size + 1) = some (PySem.HandSPX.excO C hp.objs.size) := by heap_get
  have I2 : Inv X pins σ (upd H1 (hp.objs.size + 1) (exo (hp.objs.size + 1) C none)) ⟨(hp.push (PySem.W.kdv_tup us)).push (PySem.HandSPX.excO C hp.objs.size), g, dr, tk, os⟩ :=
    I1.laid (t' := tk) (a := hp.objs.size + 1) (o := exo (hp.objs.size + 1) C none) kk hsz (exo_ok hget)
  have r2 : Vals (V.ref (hp.objs.size + 1) :: vs) (Value.ref (hp.objs.size + 1) :: us) := .cons rfl r1
  have hl : (Value.ref (hp.objs.size + 1) :: us ++ []).length = ps.length := by
    rw [List.append_nil, ← r2.length, F1.len _ _ _ _ hq]
  have hus : us.length ≤ sizeLine := by
    rw [← Paired.length r1, sizeLine_eq]
    omega
  have b2 := hb _ (Value.ref (hp.objs.size + 1) :: us) I2.kIn hl
  rw [List.append_nil] at b2
  refine wpAny_call (PySem.HandSPX.call_own F.excBase_ValueError (fun Y => PySem.HandSPX.refsVE_contains Y bm hbm) (I1.kIn _ _ hC) (PySem.W.looks_findIn I1.kIn iC) (fun self => PySem.W.bind_fn I1.kIn self tI) hus
    (codeAny_mono (F1.run _ X.stack _ _ ⟨Value.ref (hp.objs.size + 1) :: us, []⟩ (Value.ref (hp.objs.size + 1) :: us) _ _ (fun _ _ _ => False) (hr.make C us []) (I2.env0.make C us []) b2 r2 hq) fun r s' hq' => ?_))
  cases r with
  | error er => exact hx pins σ _ _ er s' I2 hq'
  | ok fl =>
    cases fl with
    | ret u =>
      obtain ⟨v, H2, os2, bare2, un2, hok2, rv, ev, d, fs, ea, ed, hd1, q2⟩ := hq'
      subst ev
      obtain ⟨h2, g2, d2, t2, os'⟩ := s'
      obtain ⟨t0, G, J, kG, ge, hoe, na⟩ := mk_end0 (d2 := d2) (t2 := t2) I1 hsz kk un2 hok2 os2 bare2 ea ed hd1
      refine ⟨rv, ⟨hp.objs.size + 1, _, _, ⟨G, g2, d2, t2, os'⟩, _, .ref C, some d, rfl, J, kG, ge, hoe, ⟨rfl, rfl, fun vs hv => ?_⟩, rfl, rfl, na, rfl, bare2, raises_own T.exC T.tyC, q2⟩⟩
      cases hv
      rfl
    | next => exact False.elim hq'
    | brk => exact False.elim hq'
    | cont => exact False.elim hq'
/-! ### defs that raise (context None) -/
section
variable {P : Program} {w : World} {K : Fr} {mg : Str → Option Value} {base : Heap}
def CalN (P : Program) (w : World) (K : Fr) (mg : Str → Option Value) (base : Heap) (k : Nat) (x : Str) (ad : Addr) (ps : List Str) (sp : Sp) : Prop :=
  ∃ fd : FuncData, FnOk P w K mg base (L2N.CX P w) k ad fd ps sp ∧ Binds K fd ps [] ∧ PySem.W.keepIn K (.ref ad) = true ∧ mg x = some (.ref ad)
theorem pe_cn {X : Cx} {k : Nat} {x : Str} {ad : Addr} {ps : List Str} {sp : Sp} {W : WX} {e : Expr} {es : List Expr} {t : TA} {p pos : Pos} (c : CalN X.prog X.w X.K X.mg X.base k x ad ps sp) (tk : L2N.Takes X W) (hr : Room k X.A) (ha : PA X (e :: es) t) (hg : Gl X x := by rfl)
    (hdb : (x == ("__debug__" : Str)) = false := by decide) (he : starEach (e :: es) X.env = (false, eval e X.env) :: starEach es X.env := by rfl) (hpl : (backTo pos (starEach es X.env)).any (·.1) = false := by rfl) :
    PE X (.Call (.Name x p) (e :: es) [] pos) (tCallS sp (WE W) t) := by
  obtain ⟨fd, F, b, kp, m⟩ := c
  exact pe_callS F hr hg m kp b (fun σ => L2N.passAt tk σ) ha hdb he hpl
abbrev BodyN (P : Program) (w : World) (K : Fr) (mg : Str → Option Value) (base : Heap) (k : Nat) (d : Dx) (N ps : List Str) (sp : Sp) : Prop :=
  ∀ (cdv : Value) (A : Around) (outer : List Env) (s : Shared) (H : Hp) (vs : List V) (Q : VK) (E : XK), Room k (A.deeper (envOfC d.ql (defScope d.st) s.heap.objs.size (d.ad K) cdv)) → sp vs H Q E →
      ∃ t, PSs (cxOf (L2N.CX P w) P w K mg base N d.ql (defScope d.st) (d.ad K) cdv A outer s H E) (defBody d.st) t ∧ t { nx := fun _ H' => Q .non H', rt := Q } (start N vs) H
theorem okn_of {k : Nat} {d : Dx} {N ps : List Str} {sp : Sp} {fd : FuncData} (D : DAt K d fd) (S : FnScope N ps (defScope d.st)) (len : ∀ vs H Q E, sp vs H Q E → vs.length = ps.length) (hb : BodyN P w K mg base k d N ps sp) :
    FnOk P w K mg base (L2N.CX P w) (k + 1) (d.ad K) fd ps sp := FunD.ok D S len hb
end
end Hk

/-! A static method that may raise, called off its class by keyword or by position. -/
namespace Hk
open PySem PySem.Spec PyProof.Rows L2
def tStatKX (C : Addr) (sp : Sp) (E : L2.St → XK) (ta : TE) (tk : TA) : TE := fun σ H Q => ta σ H fun x H1 => x = .ref C ∧ tk σ H1 fun vs H2 => sp vs H2 Q (E σ)
section
variable {X : Cx} {CX : CXT} {E : L2.St → XK} {k : Nat} {C p g : Addr} {mc : Value} {m : Str} {fd : FuncData} {ps : List Str} {sp : Sp} {o : Expr} {kws : List Keyword} {e : Expr} {es : List Expr} {ta : TE} {tk : TA} {pos apos : Pos} {pl : Sem Bool}
theorem pe_statKX (he : PE X o ta) (S : Stat X.K C mc m p g) (F : FnOk X.prog X.w X.K X.mg X.base CX k g fd ps sp) (hr : Room k X.A) (hx : ∀ σ, PassesAt CX X σ (E σ))
    (hbk : ∀ (s : Shared) (ws : List Value), X.K.In s.heap → ws.length = ps.length → BindsTo s fd ⟨[], ps.zip ws⟩ (ps.zip ws)) (hk : PK X kws tk)
    (hall : (backToKw pos (keywordEach kws X.env)).all (·.1.isSome) = true := by rfl) (hks : (backToKw pos (keywordEach kws X.env)).filterMap (·.1) = ps := by rfl)
    (hpl : ((backTo pos (starEach [] X.env)).any (·.1) || (backToKw pos (keywordEach kws X.env)).any (·.1.isNone)) = false := by rfl)
    (ht : eval (.Call (.Attribute o m apos) [] kws pos) X.env = (do
      let ov ← eval o X.env
      standAt apos.atName
      let (f, first) ← holding [ov] (getMethod ov m pl)
      callWith pos f first (backTo pos (starEach [] X.env)) (backToKw pos (keywordEach kws X.env))) := by rfl) :
    PE X (.Call (.Attribute o m apos) [] kws pos) (tStatKX C sp E ta tk) := by
  refine ⟨fun pins s σ H Q I h => PySem.W.methodCall_KW (pl := pl) (thn (he.run pins s σ H _ I h) fun u s1 hu => ?_) ht⟩
  obtain ⟨x, H1, I1, rx, ex, q⟩ := hu
  subst ex
  obtain rfl : u = Value.ref C := rx
  obtain ⟨rest, hp⟩ := S.rc
  refine PySem.W.method_cls I1.kIn S.rd.ga (PySem.W.cls_bind I1.kIn S.rd.rd S.at_ (wpAny_call (PySem.W.sm_get (s := { s1 with toks := s1.toks + 1 }) I1.kIn hp (PySem.W.handed_on rfl ?_))))
  refine PySem.W.callWith_KW0 (h₀ := X.base) I1.ok.mod.kin S.kp hall (thn (hk.run pos pins _ σ H1 _ (I1.tok _) q) fun ws s2 hw => ?_) hpl
  obtain ⟨vs, H2, I2, rv, q2⟩ := hw
  have ln : ws.length = ps.length := rv.length.symm.trans (F.len _ _ _ _ q2)
  refine ⟨I2.kIn, ?_⟩
  rw [hks]
  refine wpAny_call (codeAny_mono (F.run X.A X.stack s2 H2 ⟨[], ps.zip ws⟩ ws vs Q (E σ) hr I2.env0 (hbk s2 ws I2.kIn ln) rv q2) fun z s' hq => ?_)
  rcases z with er | fl
  · exact hx σ pins H2 s2 er s' I2 hq
  · cases fl with
    | ret u => exact I2.after hq
    | _ => exact (show False from hq).elim
theorem pe_statP (he : PE X o ta) (S : Stat X.K C mc m p g) (F : FnOk X.prog X.w X.K X.mg X.base CX k g fd ps sp) (hr : Room k X.A) (hx : ∀ σ, PassesAt CX X σ (E σ))
    (hb : Binds X.K fd ps []) (ha : PA X (e :: es) tk)
    (hst : starEach (e :: es) X.env = (false, eval e X.env) :: starEach es X.env := by rfl) (hpl : (backTo pos (starEach es X.env)).any (·.1) = false := by rfl)
    (ht : eval (.Call (.Attribute o m apos) (e :: es) [] pos) X.env = (do
      let ov ← eval o X.env
      standAt apos.atName
      let (f, first) ← holding [ov] (getMethod ov m pl)
      callWith pos f first (backTo pos (starEach (e :: es) X.env)) (backToKw pos (keywordEach [] X.env))) := by rfl) :
    PE X (.Call (.Attribute o m apos) (e :: es) [] pos) (tStatKX C sp E ta tk) := by
  refine ⟨fun pins s σ H Q I h => PySem.W.methodCall_KW (pl := pl) (thn (he.run pins s σ H _ I h) fun u s1 hu => ?_) ht⟩
  obtain ⟨x, H1, I1, rx, ex, q⟩ := hu
  subst ex
  obtain rfl : u = Value.ref C := rx
  obtain ⟨rest, hp⟩ := S.rc
  refine PySem.W.method_cls I1.kIn S.rd.ga (PySem.W.cls_bind I1.kIn S.rd.rd S.at_ (wpAny_call (PySem.W.sm_get (s := { s1 with toks := s1.toks + 1 }) I1.kIn hp (PySem.W.handed_on rfl ?_))))
  refine PySem.W.callWith_K (h₀ := X.base) I1.ok.mod.kin S.kp (thn (ha.run pos pins _ σ H1 _ (I1.tok _) q) fun us s2 ⟨vs, H2, I2, r, q2⟩ => ⟨I2.kIn, ?_⟩) hst hpl
  exact run_fnS F hr hb (hx σ) I2 r q2
end
end Hk

/-! Own exceptions with one field: their __init__, raised where nothing is handled. -/
namespace Hk
open PySem PySem.Spec PyProof.Rows L2
theorem iteNSn {c A B : Prop} [Decidable c] (hc : ¬ c) (h : A) : if (!decide c) = true then A else B := by
  rw [decide_eq_false hc]
  exact iteT h
/-- __init__(self, f): self.f = f -/
def spXin (C : Addr) (f : Str) : Sp := fun vs H Q _ => ∃ (a : Addr) (y : V), vs = [.ref a, y] ∧ H a = some (exo a C none) ∧ ∀ dx, H dx = none → dx ≠ a → Q .non (upd (upd H dx (exd dx [(f, y)])) a (exo a C (some dx)))
theorem xin_mk {C : Addr} {f : Str} {H1 : Hp} {y : V} {Q : XK} (k : ∀ d, H1 d = none → Q (.ref C) (some d) (upd H1 d (.xd [(f, y)]))) : [y].length ≤ 1000 ∧ ∀ a, H1 a = none → spXin C f (.ref a :: ([y] ++ [])) (upd H1 a (exo a C none))
    (fun v H2 => v = .non ∧ ∃ (d : Addr) (fs : List (Str × V)), H2 a = some (exo a C (some d)) ∧ H2 d = some (exd d fs) ∧ H1 d = none ∧ Q (.ref C) (some d) (upd (del H2 a) d (.xd fs))) (fun _ _ _ => False) := by
  refine ⟨by show 1 ≤ 1000; decide, fun a na => ⟨a, y, rfl, upd_same, fun dx nd ne => ⟨rfl, dx, [(f, y)], upd_same, ?_, ?_, ?_⟩⟩⟩
  · rw [upd_ne ne, upd_same]
  · rw [upd_ne ne] at nd
    exact nd
  · have n1 : H1 dx = none := by
      rw [upd_ne ne] at nd
      exact nd
    have e : upd (del (upd (upd (upd H1 a (exo a C none)) dx (exd dx [(f, y)])) a (exo a C (some dx))) a) dx (.xd [(f, y)]) = upd H1 dx (.xd [(f, y)]) := by
      funext b
      by_cases h1 : b = dx
      · rw [h1, upd_same, upd_same]
      · rw [upd_ne h1, upd_ne h1]
        by_cases h2 : b = a
        · rw [h2, del_same, na]
        · rw [del_ne h2, upd_ne h2, upd_ne h1, upd_ne h2]
    rw [e]
    exact k dx n1
section
variable {P : Program} {w : World} {K : Fr} {mg : Str → Option Value} {base : Heap}
/-- a class over ValueError with one field -/
structure XrC (P : Program) (w : World) (K : Fr) (mg : Str → Option Value) (base : Heap) (x f : Str) : Prop where
  c : OexC K (He.ga K x)
  iC : PySem.W.findIn K (.ref (He.ga K x)) "__init__" = some (some (.ref (mAd x "__init__" K)))
  tI : PySem.W.typeIn K (.ref (mAd x "__init__" K)) = some (.type "function")
  m : mg x = some (.ref (He.ga K x))
  fn : ∃ fd, FnOk P w K mg base CX0 1 (mAd x "__init__" K) fd [("self" : Str), f] (spXin (He.ga K x) f) ∧ Binds K fd [("self" : Str), f] []
theorem xin_ok {d : Dx} {x f : Str} {fd : FuncData} (D : DAt K d fd) (S : FnScope [("self" : Str), f] [("self" : Str), f] (defScope d.st)) (T : OexC K (He.ga K x)) (hn : PySem.W.findIn K (.ref (He.ga K x)) f = some none)
    (hb : ∀ (cdv : Value) (A : Around) (outer : List Env) (s : Shared) (H : Hp) (E : XK), PSs (cxOf CX0 P w K mg base [("self" : Str), f] d.ql (defScope d.st) (d.ad K) cdv A outer s H E).nox (defBody d.st) (tSeq (tOst K f (tVar 0) (tVar 1)) tNext)) :
    FnOk P w K mg base CX0 1 (d.ad K) fd [("self" : Str), f] (spXin (He.ga K x) f) := by
  refine ok_of (N := [("self" : Str), f]) D S (fun vs H Q E h => ?_) (fun cdv A outer s H vs Q E hr h => ?_)
  · obtain ⟨a, y, rfl, _⟩ := h
    rfl
  · obtain ⟨a, y, rfl, ha, k⟩ := h
    exact ⟨_, hb cdv A outer s H E, y, rfl, .ref a, rfl, a, _, rfl, T, hn, .inl ⟨ha, fun dx n ne => k dx n ne⟩⟩
end
/-- raise C(e); at the end: xin_mk -/
def tRz (C : Addr) (f : Str) (W : WX) (ta : TA) : TS := fun _ σ H => tMkO C (spXin C f) [] ta σ H fun cls d H' => W cls d σ H'
section
variable {X : Cx} {x f : Str} {e : Expr} {es : List Expr} {ta : TA} {p pos pos' : Pos} {W : WX}
theorem ps_rz (c : XrC X.prog X.w X.K X.mg X.base x f) (hr : Room 2 X.A) (hg : Gl X x) (tk : L2N.Takes X W) (ha : PA X (e :: es) ta) (hc : X.calm = true := by rfl)
    (hdb : (x == ("__debug__" : Str)) = false := by decide) (he : starEach (e :: es) X.env = (false, eval e X.env) :: starEach es X.env := by rfl) (hpl : (backTo pos (starEach es X.env)).any (·.1) = false := by rfl) :
    PS X (.Raise (some (.Call (.Name x p) (e :: es) [] pos)) none pos') (tRz (He.ga X.K x) f W ta) := by
  obtain ⟨fd, F, b⟩ := c.fn
  exact L2N.ps_raise hc tk (pmk_oexN c.c c.iC c.tI F hr b pass0 hg c.m ha hdb he hpl)
end
end Hk

/-! repr of data wherever there is room; one of two rules. -/
namespace Hk
open PySem PySem.Spec PyProof.Rows L2 HotX L2H
section
variable {X : Cx}
theorem callr_or {f : Value} {r1 r2 : List V → Hp → VK → Prop} (h1 : CallR X f r1) (h2 : CallR X f r2) : CallR X f (fun xs H Q => r1 xs H Q ∨ r2 xs H Q) := by
  intro pins s σ H xs us Q I r h
  rcases h with h | h
  · exact h1 pins s σ H xs us Q I r h
  · exact h2 pins s σ H xs us Q I r h
theorem call_reprDU (hc : Calm X.A) (hu : X.A.units + 200 < cLine) : CallR X (.builtin "repr") (rRepr X.K) := by
  intro pins s σ H xs us Q I r h
  obtain ⟨x, d, rfl, hd, hs, hdp, hz, q⟩ := h
  obtain ⟨u, rfl, ru⟩ := r.one
  cases hd with
  | non =>
    cases ru
    rw [PyData.shown_none] at q
    exact PySem.P.repr_of_none ⟨.str _, H, I.tok _, ⟨_, rfl⟩, q⟩
  | bl b =>
    cases ru
    rw [PyData.shown_bool] at q
    refine PySem.P.repr_of_bool ⟨.str _, H, I.tok _, ⟨_, rfl⟩, ?_⟩
    cases b <;> exact q
  | int i =>
    obtain ⟨t, rfl⟩ := ru
    rw [PyData.shown_int] at q
    refine PySem.P.repr_of_int ?_ ⟨.str _, H, I.tok _, ⟨_, rfl⟩, q⟩
    simpa [PyData.showable] using hs
  | str y =>
    obtain ⟨t, rfl⟩ := ru
    rw [PyData.shown_str] at q hz
    exact PySem.P.repr_of_str ⟨.str _, H, I.tok _, ⟨_, rfl⟩, q⟩ hz
  | @lst a ys ds h1 h2 =>
    have e : u = Value.ref a := ru
    subst e
    have nd := Dp.noDict _ _ (Dp.lst h1 h2)
    obtain ⟨as, hr'⟩ := Dp.reads I (.list ds) _ _ (Dp.lst h1 h2) rfl
    refine PySem.repr_of_reads' hr' hs (fun z => by rw [nd] at z; exact nomatch z) hc ?_ (fun b o z => z) (fun h' u tk kp => ⟨.str _, H, I.kept kp, ⟨_, rfl⟩, q⟩) hz
    omega
  | @tup a ys ds h1 h2 =>
    have e : u = Value.ref a := ru
    subst e
    have nd := Dp.noDict _ _ (Dp.tup h1 h2)
    obtain ⟨as, hr'⟩ := Dp.reads I (.tuple ds) _ _ (Dp.tup h1 h2) rfl
    refine PySem.repr_of_reads' hr' hs (fun z => by rw [nd] at z; exact nomatch z) hc ?_ (fun b o z => z) (fun h' u tk kp => ⟨.str _, H, I.kept kp, ⟨_, rfl⟩, q⟩) hz
    omega
/-- repr of data or of an own instance -/
def rRp (K : Fr) (C : Addr) (sp : Sp) : List V → Hp → VK → Prop := fun xs H Q => rRepr K xs H Q ∨ rText C sp xs H Q
theorem takesN0 (X : Cx) : L2N.Takes X (fun _ _ _ _ => False) := fun _ _ ⟨_, _, _, _, _, _, _, _, _, _, _, _, _, _, _, _, w⟩ => w.elim
theorem hotC_suite {a : Addr} {oe : Obj} {cls : Value} {d : Option Addr} {pn : List (Addr × Obj)} (hz : L2N.Zn cls d oe) (hf : ∃ vs, oe.data = .fields vs) : HotC (X.suite a ((a, oe) :: pn)) := by
  obtain ⟨vs, hv⟩ := hf
  exact hotC_n (p := (a, oe)) ⟨rfl, vs, hv, hz.2.2 vs hv⟩ List.mem_cons_self
end
end Hk

/-! A try with clauses `except HEAD as n`, HEAD a class or a tuple of classes; contexts None. -/
namespace Hk
open PySem PySem.Spec PyProof.Rows L2 HotX L2H
theorem flying_keep {B h h' : Heap} {l : List Env} {e : Addr} {Z : Obj → Prop} (x : PySem.HandSPX.FlyingZ B l e Z h) (k : ∀ b o, h.get? b = some o → h'.get? b = some o) : PySem.HandSPX.FlyingZ B l e Z h' := by
  obtain ⟨x1, x2, x3, oe, vs, T, oT, ts, he, hz, hd, h1, hnT, hTe, hT, hdT, h3⟩ := x
  exact ⟨fun b o q => k b o (x1 b o q), x2, Heap.FunFrames.of_keeps (fun b o q _ => ⟨o, k b o q, rfl⟩) x3, oe, vs, T, oT, ts, k _ _ he, hz, hd, h1, hnT, hTe, k _ _ hT, hdT, h3⟩
/-- what a head answers of the class of what flies -/
def HeadIs (X : Cx) (te : Expr) (m : Value → Option Bool) : Prop :=
  ∀ (a : Addr) (oe : Obj) (pn : List (Addr × Obj)) (σ : L2.St) (H : Hp) (s : Shared) (b : Bool) (Q : Bool → Shared → Prop) (E : Value → Shared → Prop), Inv (X.suite a ((a, oe) :: pn)) [] σ H s → s.heap.get? a = some oe → m oe.cls = some b →
    (∀ (h' : Heap) (t' : Nat), (∀ b o, s.heap.get? b = some o → h'.get? b = some o) → Q b { s with heap := h', toks := t' }) →
    wpAny (model X.prog X.w) (X.A.mark (some (.ref a))) (eval te X.env) (fun c s1 => wpAny (model X.prog X.w) (X.A.mark (some (.ref a))) (excMatches (.ref a) c) Q E s1) E s
section
variable {X : Cx}
theorem head_name {x : Str} {c : Value} {np : Pos} (hc : Names X x c) : HeadIs X (.Name x np) (fun cls => PySem.W.exmOne X.K cls c) := by
  intro a oe pn σ H s b Q E I he hm q
  have LT : PySem.W.Looks (model X.prog X.w) s.heap (typeOf (.ref a)) oe.cls := fun A Q E s k q => wpAny_typeOf_ref (k _ _ he) q
  have LM := PySem.W.exm_one (M := model X.prog X.w) I.kIn LT hm
  have go : wpAny (model X.prog X.w) (X.A.mark (some (.ref a))) (excMatches (.ref a) c) Q E s := LM.here (q s.heap s.toks fun _ _ z => z)
  obtain ⟨hg, hdbg, hm' | ⟨hm', hv, hnn⟩⟩ := hc
  · exact ld_glob (X := X.suite a ((a, oe) :: pn)) I hg hm' go hdbg
  · exact ld_blt (X := X.suite a ((a, oe) :: pn)) I hg hm' hv go hnn hdbg
inductive HdsA (X : Cx) : List ExceptHandler → List ((Value → Option Bool) × Nat × (Addr → Value → Option Addr → TS)) → Prop
  | nil : HdsA X [] []
  | cons {te : Expr} {m : Value → Option Bool} {n : Str} {i : Nat} {ts : Addr → Value → Option Addr → TS} {b₀ : Stmt} {suite : List Stmt} {pos' : Pos} {hds : List ExceptHandler} {l : List ((Value → Option Bool) × Nat × (Addr → Value → Option Addr → TS))}
      (hd : HeadIs X te m) (hi : X.N[i]? = some n) (hln : X.env.kindOf n = some .local)
      (hsu : ∀ (a : Addr) (oe : Obj) (cls : Value) (d : Option Addr) (pn : List (Addr × Obj)), L2N.Zn cls d oe → (∃ vs, oe.data = .fields vs) → PSs (X.suite a ((a, oe) :: pn)) (b₀ :: suite) (ts a cls d)) (r : HdsA X hds l) :
      HdsA X (.ExceptHandler (some te) (some n) (b₀ :: suite) pos' :: hds) ((m, i, ts) :: l)
/-- what the clauses wish of an exception of the body -/
def wManyA (Wout : WX) (D : Ends) : List ((Value → Option Bool) × Nat × (Addr → Value → Option Addr → TS)) → WX
  | [] => Wout
  | (m, i, ts) :: r => fun cls d σ H => ∃ b, m cls = some b ∧ (b = true → ∀ a, H a = none → ts a cls d { nx := fun σ' H' => D.nx (σ'.set i none) H', rt := D.rt, bk := fun σ' H' => D.bk (σ'.set i none) H', ct := fun σ' H' => D.ct (σ'.set i none) H' } (σ.set i (some (.ref a))) H) ∧
      (b = false → wManyA Wout D r cls d σ H)
end
section
variable {X : Cx} {body : List Stmt} {h₀ : ExceptHandler} {hds : List ExceptHandler} {l : List ((Value → Option Bool) × Nat × (Addr → Value → Option Addr → TS))} {pos : Pos} {tb : WX → TS} {Wout : WX}
theorem ps_try_A (hs : X.stack = X.env :: X.outer) (hf : X.env.frame = some X.env.locals) (hN : X.N.Nodup) (tk : L2N.Takes X Wout)
    (hb : ∀ (W : WX) (pn : List (Addr × Obj)) (xe : Value → Shared → Prop), L2N.Takes (X.tr pn xe) W → PassesOwn (model X.prog X.w) X.A X.env xe → PSs (X.tr pn xe) body (tb W))
    (hh : HdsA X (h₀ :: hds) l) : PS X (.Try body (h₀ :: hds) [] [] pos) (fun D σ H => tb (wManyA Wout D l) D σ H) := by
  refine ⟨fun pins s σ H D I h => ?_⟩
  have ok := I.ok
  have hfr : X.A.frames = some (X.env :: X.outer) := by rw [ok.frames, hs]
  refine wpAny_Try_except ?_
  refine wpAny_mono ((hb (wManyA Wout D l) (X.pn ++ pins) (fun e s₁ => wpAny (model X.prog X.w) X.A (noteFrame e X.env) (fun _ s₂ => wpAny (model X.prog X.w) X.A (setFlight e none) (fun _ s₃ =>
    wpAny (model X.prog X.w) X.A (handleBy e X.env (h₀ :: hds)) (SP X pins D) X.xe s₃) X.xe s₂) X.xe s₁) (fun u s' xx => ?_) PassesOwn.looking).run [] s σ H D (I.toTry _) h) (fun f s1 hsp => ?_) (fun e s1 he => he)
  · obtain ⟨a, B, sI, pins', σ', H', cls, d, rfl, J', nb, up, sky, na, os, ag, w⟩ := xx
    have J : Inv X pins σ' H' sI := J'.ofTry ok
    have sky' : L2.Sky B (X.env :: X.outer) a (L2N.Zn cls d) X.env.locals s'.heap := by rw [← hs]; exact sky
    show wpAny (model X.prog X.w) X.A (noteFrame (.ref a) X.env) _ _ _
    refine L2N.Sky.land L2N.Zn.steady hfr hf sky' fun h3 fl3 up3 => ?_
    have notFr : ∀ {h : Heap} {o : Obj} {vs : Array Value}, h.FunFrames B (X.env :: X.outer) → h.get? a = some o → o.data = .fields vs → a ∉ frs (X.env :: X.outer) := fun {h o vs} ff e dd hm => by
      obtain ⟨_, o', e', hnf⟩ := ff.mem hm
      rw [e] at e'; cases e'
      exact hnf _ dd
    obtain ⟨oe3, vs3, he3, hz3, hd3⟩ := fl3.there
    have nfr := notFr fl3.2.2.1 he3 hd3
    have nL : a ≠ X.env.locals := fun z => nfr (List.mem_filterMap.mpr ⟨X.env, List.mem_cons_self, by rw [hf, z]⟩)
    have nF : a ∉ X.fs := fun hm => by
      obtain ⟨e, he, q⟩ := List.mem_filterMap.mp hm
      exact nfr (List.mem_filterMap.mpr ⟨e, List.mem_cons_of_mem _ he, q⟩)
    have go : ∀ {hds' : List ExceptHandler} {l' : List ((Value → Option Bool) × Nat × (Addr → Value → Option Addr → TS))}, HdsA X hds' l' → ∀ (hp : Heap) (tk' : Nat), PySem.HandSPX.FlyingZ B (X.env :: X.outer) a (L2N.Zn cls d) hp → s'.heap.UpToSlots hp → wManyA Wout D l' cls d σ' H' →
        wpAny (model X.prog X.w) X.A (handleBy (.ref a) X.env hds') (SP X pins D) X.xe { s' with heap := hp, toks := tk' } := by
      intro hds' l' hk
      induction hk with
      | nil =>
        intro hp tk' fl uph w
        refine wpAny_handleBy_nil ?_
        obtain ⟨k1, k2, k3, oe, vs, T, oT, ts', he, hz, hd, h1, hr⟩ := id fl
        unfold PySem.passOn
        refine wpAny_bind (wpAny_field he hd h1 ?_)
        rw [if_neg (show ¬ ((Value.ref T == Value.none) = true) from by simp)]
        have fin : wpAny (model X.prog X.w) X.A (setFlight (.ref a) X.env.frame) (fun _ s4 => wpAny (model X.prog X.w) X.A (throw (.ref a) : Sem Flow) (SP X pins D) X.xe s4) X.xe { s' with heap := hp, toks := tk' } := by
          rw [hf]
          refine HandSPX.setFlight_upZ (s := { s' with heap := hp, toks := tk' }) fl fun h4 hh4 up4 => wpAny_throw (tk _ _ ?_)
          exact ⟨a, B, sI, pins, σ', H', cls, d, rfl, J, nb, (up.trans uph).trans up4, .inr (.inr (by rw [hs]; exact hh4)), na, os, ag, w⟩
        first
          | exact wpAny_bind (wpAny_pure (wpAny_bind fin))
          | exact wpAny_bind fin
      | @cons te m n i ts b₀ suite pos' hds2 l2 hd hi hln hsu r ih =>
        intro hp tk' fl uph w
        obtain ⟨b, hb1, hyes, hno⟩ := w
        obtain ⟨oe5, vs5, he5, hz5, hd5⟩ := fl.there
        have J5 : Inv X pins σ' H' { s' with heap := hp, toks := tk' } := J.landed nb fl.1 (up.trans uph) os ag
        have S5 := J5.suite he5 hd5 na nL nF
        have hloc : Loc X.env.scope n := .inl hln
        refine wpAny_handleBy_cons (codeAny_handlers_test ?_) (by intro q; cases q)
        refine hd a oe5 (X.pn ++ pins) σ' H' _ b _ _ S5 he5 (by rw [hz5.1]; exact hb1) fun h6 t6 k6 => ?_
        have fl6 := flying_keep fl k6
        have up6 : s'.heap.UpToSlots h6 := uph.trans (Heap.UpToSlots.of_keeps k6)
        cases b with
        | true =>
          refine codeAny_handlers_suite_as ?_
          refine HandSPX.lands_againZ (s := { s' with heap := h6, toks := t6 }) fl6 fun h4 fl4 up4 => ?_
          have J4 : Inv X pins σ' H' { s' with heap := h4, toks := t6 } := J.landed nb fl4.1 ((up.trans up6).trans up4) os ag
          obtain ⟨oe4, vs4, he4, hz4, hd4⟩ := fl4.there
          have S4 := J4.suite he4 hd4 na nL nF
          refine store_ok (X := X.suite a ((a, oe4) :: (X.pn ++ pins))) (v := .ref a) S4 hN hi hloc rfl (fun s5 S5 => ?_) (.inr hln)
          refine wpAny_mono ((hsu a oe4 cls d (X.pn ++ pins) hz4 ⟨_, hd4⟩).run [] s5 _ H' _ S5 (hyes rfl a na)) (fun f s6 hsp => ?_) (fun _ _ z => False.elim z)
          have end_ : ∀ {σ6 : L2.St} {H6 : Hp} {Q : Shared → Prop}, Inv (X.suite a ((a, oe4) :: (X.pn ++ pins))) [] σ6 H6 s6 → (∀ s7, Inv X pins (σ6.set i none) H6 s7 → Q s7) →
              wpAny (model X.prog X.w) X.A (do bindName X.env n .none; unbindBehindTheSuite X.env n pos') (fun _ s7 => Q s7) X.xe s6 := fun {σ6 H6 Q} S6 hq => gone_ok (S6.unsuite ok) hN hi hln hq
          cases f with
          | next =>
            obtain ⟨σ6, H6, S6, q6⟩ := hsp
            exact end_ S6 fun s7 J7 => ⟨_, _, J7, q6⟩
          | brk =>
            obtain ⟨σ6, H6, S6, q6⟩ := hsp
            exact end_ S6 fun s7 J7 => ⟨_, _, J7, q6⟩
          | cont =>
            obtain ⟨σ6, H6, S6, q6⟩ := hsp
            exact end_ S6 fun s7 J7 => ⟨_, _, J7, q6⟩
          | ret u =>
            obtain ⟨v6, σ6, H6, S6, r6, q6⟩ := hsp
            exact end_ S6 fun s7 J7 => ⟨_, _, _, J7, r6, q6⟩
        | false =>
          show wpAny _ X.A (handleBy (.ref a) X.env hds2) _ _ _
          exact ih h6 t6 fl6 up6 (hno rfl)
    exact go hh h3 s'.toks fl3 up3 w
  · cases f with
    | next =>
      obtain ⟨σ', H', J', q⟩ := hsp
      exact wpAny_execs_nil ⟨σ', H', J'.ofTry ok, q⟩
    | brk =>
      obtain ⟨σ', H', J', q⟩ := hsp
      exact ⟨σ', H', J'.ofTry ok, q⟩
    | cont =>
      obtain ⟨σ', H', J', q⟩ := hsp
      exact ⟨σ', H', J'.ofTry ok, q⟩
    | ret u =>
      obtain ⟨v, σ', H', J', r, q⟩ := hsp
      exact ⟨v, σ', H', J'.ofTry ok, r, q⟩
end
end Hk

/-! A lambda without parameters given to a def of the law; what it lets out has the context None. Built on HandS.Lambda's readings. -/
namespace Hk
open PySem PySem.Spec PyProof.Rows L2 LamX
/-- the context of the lambda's body, its exceptions told by L2N -/
def lamCxN (X : Cx) (A : Around) (outer : List Env) (s : Shared) (H : Hp) (E : XK) (scope : Scope) (f c' : Addr) : Cx :=
  (lamCx X A outer s H E scope f c').wish fun e s' => wpAny (model X.prog X.w) (A.deeper (lamEnv X scope s.heap.objs.size f c')) (leaving (lamEnv X scope s.heap.objs.size f c') e) (fun _ s'' => L2N.CX X.prog X.w outer H s E e s'') (fun e' s'' => L2N.CX X.prog X.w outer H s E e' s'') s'
theorem takes_lam {X : Cx} {A : Around} {outer : List Env} {s : Shared} {H : Hp} {E : XK} {scope : Scope} {f c' : Addr} : L2N.Takes (lamCxN X A outer s H E scope f c') (fun cls d _ H => E cls d H) := L2N.takes_of rfl rfl rfl rfl
section
variable {X : Cx} {pins : List (Addr × Obj)} {σ : L2.St} {H : Hp} {s : Shared}
theorem pe_actN {CXg : CXT} {Eg : XK} {Ng : List Str} {qg : Str} {sg : Scope} {g f c' : Addr} {cdg pm ctv : Value} {params : Arguments} {body : Expr} {scope : Scope} {k i : Nat} {a : Str} {pn : List (Addr × Obj)} {xe : Value → Shared → Prop} {W : WX} {E : XK} {tb : TE} {p1 p2 : Pos}
    (I : Inv X pins σ H s) (L : LamS X.env.scope scope) (hf : s.heap.get? f = some (PySem.W.kla_obj "<lambda>" (X.env.qual ++ "<lambda>") params body scope (cloFrom X.env.cells scope.names []) pm c' ctv)) (hfn : H f = none) (hfr : f ∉ frs X.stack)
    (hbind : bindArgs (PySem.W.kla_fn "<lambda>" (X.env.qual ++ "<lambda>") params body scope (cloFrom X.env.cells scope.names []) pm (.ref c') ctv) ⟨[], []⟩ = pure [])
    (tk : L2N.Takes ((cxOf CXg X.prog X.w X.K X.mg X.base Ng qg sg g cdg X.A X.stack s H Eg).tr pn xe) W) (hW : ∀ cls d (σ' : L2.St) H', σ'.length = Ng.length → E cls d H' → W cls d σ' H') (hr : Room (k + 1) (X.A.deeper (envOfC qg sg s.heap.objs.size g cdg)))
    (hbody : ∀ (A : Around) (outer : List Env) (s : Shared) (H : Hp), Room k (A.deeper (lamEnv X scope s.heap.objs.size f c')) → PE (lamCxN X A outer s H E scope f c') body tb)
    (hN : Ng[i]? = some a) (hv : Vis sg a) (hd : (a == ("__debug__" : Str)) = false := by decide) (hcd : (a == ("__classdict__" : Str)) = false := by decide) :
    PE ((cxOf CXg X.prog X.w X.K X.mg X.base Ng qg sg g cdg X.A X.stack s H Eg).tr pn xe) (.Call (.Name a p1) [] [] p2)
      (fun σZ HZ Q => σZ[i]? = some (some (.ref f)) ∧ HZ c' = some (CodeO c' (X.env.qual ++ "<lambda>")) ∧ tb σ HZ Q) := by
  refine ⟨fun pinsZ sZ σZ HZ Q IZ h => ?_⟩
  obtain ⟨hs, hc, ht⟩ := h
  refine wpAny_Call_Name_kw (thn ((pe_var (pos := p1) (i := i) hN hv hd hcd).run pinsZ sZ σZ HZ (fun v H1 => v = .ref f ∧ H1 = HZ) IZ ⟨.ref f, hs, rfl, rfl⟩) fun u s1 ⟨v, H1, I1, r1, q1⟩ => ?_)
  obtain ⟨ev, eH⟩ := q1
  subst ev
  rw [eH] at I1
  obtain rfl : u = Value.ref f := r1
  have of1 := I1.base.keep f _ hf hfn hfr (fun z => nomatch (show f ∈ ([] : List Addr) from z))
  refine PySem.W.callWith_F0 ⟨_, _, _, _, of1⟩ ?_
  have un : Un (frs X.stack) [] H HZ s.heap s1.heap := I1.base
  obtain ⟨⟨oc, vs, t, hoc, hdc, hvc⟩, _, _⟩ := I1.hok c' _ hc
  have rc : codeAny (model X.prog X.w) (X.A.deeper (envOfC qg sg s.heap.objs.size g cdg)) (.call (.ref f) ⟨[], []⟩) (CR (L2N.CX X.prog X.w) (envOfC qg sg s.heap.objs.size g cdg :: X.stack) X.prog X.w HZ s1 Q E) s1 := by
    refine PySem.W.kla_callFunE hr.depth of1 rfl L.co L.gen rfl ⟨c', oc, vs, t, rfl, hoc, hdc, hvc⟩ ?_
    rw [hbind]
    refine wpAny_pure (wpAny_newFunctionEnv (fun y hy => (L.own y hy).2) (fun y hy => absurd hy (by simp)) (fun h₁ hns hsb => ⟨I1.nolimit.fresh _ hsb, ?_⟩) L.kind)
    show codeAny _ _ (.expr body (lamEnv X scope s1.heap.objs.size f c')) _ _
    have kp : ∀ b o, s1.heap.get? b = some o → h₁.get? b = some o := fun b o e => hsb.extBut b o (Nat.ne_of_lt (Heap.lt_size e)) (Heap.get?_push_of_some _ e)
    have J := (lam_start2 (E := E) (c' := c') (f := f) (tk := s1.toks + ([] : List (Str × Value)).length) I L I1.env0 hr.hd un hns kp).wish (fun e s' => wpAny (model X.prog X.w) ((X.A.deeper (envOfC qg sg s.heap.objs.size g cdg)).deeper (lamEnv X scope s1.heap.objs.size f c')) (leaving (lamEnv X scope s1.heap.objs.size f c') e) (fun _ s'' => L2N.CX X.prog X.w (envOfC qg sg s.heap.objs.size g cdg :: X.stack) HZ s1 E e s'') (fun e' s'' => L2N.CX X.prog X.w (envOfC qg sg s.heap.objs.size g cdg :: X.stack) HZ s1 E e' s'') s')
    refine PySem.W.kla_codeExpr (wpAny_mono ((hbody _ _ s1 HZ (hr.deeper _)).run [] _ _ HZ Q J ht) (fun v s' hq => ?_) fun e s' hq => hq)
    obtain ⟨w', H', J', rv, q⟩ := hq
    exact ⟨w', H', J'.os, J'.bare, J'.base, J'.hok, rv, q⟩
  have hx : ∀ (e : Value) (s' : Shared), L2N.CX X.prog X.w (envOfC qg sg s.heap.objs.size g cdg :: X.stack) HZ s1 E e s' → ((cxOf CXg X.prog X.w X.K X.mg X.base Ng qg sg g cdg X.A X.stack s H Eg).tr pn xe).xe e s' :=
    fun e s' c => tk e s' (L2N.XE.of_call I1 (fun cls d H' h => hW cls d σZ H' I1.len h) c)
  refine wpAny_call (codeAny_mono rc fun r s' hq => ?_)
  cases r with
  | error e => exact hx e s' hq
  | ok fl =>
    cases fl with
    | ret u => exact I1.after hq
    | next => exact False.elim hq
    | brk => exact False.elim hq
    | cont => exact False.elim hq
/-- the def that calls what it got, nothing let out -/
def GivesN (k : Nat) (X : Cx) (Ng : List Str) (x : Str) (sg : Scope) (g : Addr) (cdg : Value) (bg : List Stmt) (a : Str) (q : Str) (TT : (XK → Hp → VK → Prop) → Hp → VK → Prop) : Prop :=
  ∀ (f c' : Addr) (s : Shared) (H : Hp) (Q : VK) (tl : XK → Hp → VK → Prop),
    (∀ (W : WX) (pn : List (Addr × Obj)) (xe : Value → Shared → Prop) (E : XK) (p1 p2 : Pos), L2N.Takes ((cxOf CX0 X.prog X.w X.K X.mg X.base Ng x sg g cdg X.A X.stack s H E0).tr pn xe) W → (∀ cls d (σ' : L2.St) H', σ'.length = Ng.length → E cls d H' → W cls d σ' H') →
      PE ((cxOf CX0 X.prog X.w X.K X.mg X.base Ng x sg g cdg X.A X.stack s H E0).tr pn xe) (.Call (.Name a p1) [] [] p2) (fun σZ HZ Q => σZ[0]? = some (some (.ref f)) ∧ HZ c' = some (CodeO c' q) ∧ tl E HZ Q)) →
    Room (k + 1) (X.A.deeper (envOfC x sg s.heap.objs.size g cdg)) → H c' = some (CodeO c' q) → TT tl H Q →
    ∃ t, PSs (cxOf CX0 X.prog X.w X.K X.mg X.base Ng x sg g cdg X.A X.stack s H E0).nox bg t ∧ t { nx := fun _ H' => Q .non H', rt := Q } (L2.start Ng [.ref f]) H
/-- x(lambda: body) -/
theorem pe_lamN {T : List (Addr × Str)} {TT : (XK → Hp → VK → Prop) → Hp → VK → Prop} {x a : Str} {d : Dx} {fd : FuncData} {c P : Addr} {k : Nat} {Ng : List Str}
    {params : Arguments} {body : Expr} {scope : Scope} {t : XK → TE} {p lpos pos : Pos} (hg : Gl X x) (hm : X.mg x = some (.ref (d.ad X.K))) (D : DAt X.K d fd) (hv : d.df = []) (hq : d.ql = x) (hb : Binds X.K fd [a] []) (Sg : FnScope Ng [a] (defScope d.st)) (hNg : Ng[0]? = some a) (hva : Vis (defScope d.st) a)
    (hG : ∀ cdv : Value, GivesN k X Ng d.ql (defScope d.st) (d.ad X.K) cdv (defBody d.st) a (X.env.qual ++ "<lambda>") TT)
    (TB : TabB X.base X.mg c P) (hcode : X.env.code = .ref c) (hmT : (P, X.env.qual ++ "<lambda>") ∈ T) (hu : ∀ p ∈ T, p.1 = P → p.2 = X.env.qual ++ "<lambda>") (hr : Room (k + 2) X.A) (L : LamS X.env.scope scope) (hdef : defaultsOf params X.env = ([], []))
    (hbind : ∀ (q : Str) (cl : List (Str × Addr)) (pm cv ctv : Value), bindArgs (PySem.W.kla_fn "<lambda>" q params body scope cl pm cv ctv) ⟨[], []⟩ = pure [])
    (hbody : ∀ (A : Around) (outer : List Env) (s : Shared) (H : Hp) (E : XK) (f c' : Addr), Room k (A.deeper (lamEnv X scope s.heap.objs.size f c')) → PE (lamCxN X A outer s H E scope f c') body (t E))
    (hdb : (x == ("__debug__" : Str)) = false := by decide) (hd : (a == ("__debug__" : Str)) = false := by decide) (hcd : (a == ("__classdict__" : Str)) = false := by decide) :
    PE X (.Call (.Name x p) [.Lambda params body scope lpos] [] pos) (tLam T TT t) := by
  refine ⟨fun pins s σ H Q I h => ?_⟩
  obtain ⟨hT, h⟩ := h
  refine wpAny_Call_Name_kw (ld_glob I hg hm ?_ hdb)
  refine PySem.W.callWith_K (h₀ := X.base) I.ok.mod.kin D.kp ?_ (by rfl) (by rfl)
  show wpAny _ _ (spliced ((false, eval (.Lambda params body scope lpos) X.env) :: backTo pos (starEach [] X.env))) _ _ s
  refine Calls.spliced_cons (lam_make2 I TB hcode hmT hu hT hdef (L.has I.ok) fun f c' pm' ctv H1 s' I1 eN T1 hf hfn hfr hco => ?_)
  refine Calls.spliced_nil ⟨I1.kIn, ?_⟩
  obtain ⟨oc, od, dV, kV, doc, pm, an, cdv, ct, osl, rfl, lk, hcd', _, _⟩ := D.ex
  have rc : codeAny (model X.prog X.w) X.A (.call (.ref (d.ad X.K)) ⟨[.ref f], []⟩) (CR CX0 X.stack X.prog X.w H1 s' Q E0) s' := by
    refine run_ofS (N := Ng) (ps := [a]) (us := [.ref f]) (vs := [.ref f]) lk hcd' Sg hr I1.env0 (hb s' [.ref f] I1.kIn rfl) (.cons rfl .nil) rfl fun hr' => ?_
    obtain ⟨t', ht', hq'⟩ := hG cdv f c' s' H1 Q (fun E H' Q' => t E σ H' Q') (fun W pn xe E p1 p2 tk hW => pe_actN (i := 0) I1 L hf hfn hfr (hbind _ _ _ _ _) tk hW hr' (fun A outer s H hr2 => hbody A outer s H E f c' hr2) hNg hva hd hcd) hr' hco (h H1 eN T1)
    exact ⟨t', ht'.nox, hq'⟩
  refine wpAny_call (codeAny_mono rc fun r s2 hq => ?_)
  cases r with
  | error e => exact (show False from hq).elim
  | ok fl =>
    cases fl with
    | ret u => exact I1.after hq
    | next => exact False.elim hq
    | brk => exact False.elim hq
    | cont => exact False.elim hq
end
end Hk

/-! The law's end as in Hg, where the law makes lambdas: the tables of its code objects are tracked, too. -/
namespace Hk
open PySem PySem.Spec PyProof.Rows L2 LamX
section
variable {P : Program} {w : World} {K : Fr} {s : Shared} {a : Addr} {vs : List Value} {xs : List V}
/-- the script alone -/
theorem script_heap (KX : K.In s.heap) (hobj : s.heap.get? a = some { cls := .type "list", data := .seq vs.toArray }) (rv : Vals xs vs) (sz : vs.length ≤ sizeLine) (szn : xs.length ≤ sizeLine) :
    ∃ H : Hp, Only H ∧ SqL K H a xs ∧ HOk P w H s.heap ∧ (∀ b, H b ≠ none → b = a) ∧ (H a ≠ none → K.lookup a = none) := by
  cases hk : K.lookup a with
  | some ob =>
    have e := KX a ob hk
    rw [hobj] at e
    cases e
    refine ⟨fun _ => none, fun _ => .inl rfl, .inr ⟨_, vs.toArray, _, hk, rfl, rfl, rfl, ?_, ?_⟩, fun b u z => (nomatch z), fun b z => absurd rfl z, fun z => absurd rfl z⟩
    · rw [List.size_toArray]
      exact sz
    · simpa using rv
  | none =>
    have at_ : ∀ {b : Addr} {u : HO}, (if b = a then some (HO.frz { cls := .type "list", data := .seq vs.toArray } (.lst xs)) else none) = some u → b = a ∧ u = HO.frz { cls := .type "list", data := .seq vs.toArray } (.lst xs) := fun {b u} z => by
      by_cases hb : b = a
      · rw [if_pos hb] at z
        exact ⟨hb, (Option.some.inj z).symm⟩
      · rw [if_neg hb] at z
        exact nomatch z
    refine ⟨fun b => if b = a then some (.frz { cls := .type "list", data := .seq vs.toArray } (.lst xs)) else none, fun b => ?_, .inl (.inr ⟨_, if_pos rfl⟩), fun b u z => ?_, fun b z => ?_, fun _ => rfl⟩
    · by_cases hb : b = a
      · exact .inr ⟨_, _, if_pos hb⟩
      · exact .inl (if_neg hb)
    · obtain ⟨e1, e2⟩ := at_ z
      subst e1 e2
      exact ⟨hobj, szn, vs, _, rv, hobj⟩
    · by_cases hb : b = a
      · exact hb
      · exact absurd (if_neg hb) z
end
/-- H0, and an empty table at each of ts -/
def withTabs (H0 : Hp) (ts : List Addr) : Hp := fun b => if b ∈ ts then some (.tbl #[]) else H0 b
theorem wt_in {H0 : Hp} {ts : List Addr} {b : Addr} (h : b ∈ ts) : withTabs H0 ts b = some (.tbl #[]) := if_pos h
theorem wt_out {H0 : Hp} {ts : List Addr} {b : Addr} (h : b ∉ ts) : withTabs H0 ts b = H0 b := if_neg h
abbrev tab0 : Obj := { cls := .none, data := .fields #[] }
theorem end_gT {l : PySem.W.OpenLaw} {q : Program} {loose : List Str} {XP : (Str → Option Value) → Heap → Prop} {YP : World → Heap → Prop} {d : DefRec} {k : Nat} {x : Str} (hn : l.most = some 63) (hdf : d.params.defaults = []) (hr : Room k callerA)
    (F : ∀ (w : World) (mg : Str → Option Value) (fa : Addr) (h : Heap), YP w h → h.Ns mainGlobals mg → mg d.name = some (.ref fa) →
      ∃ (K : Fr) (fd : FuncData) (cs : List (Addr × Addr)) (sp : Sp), K.In h ∧ (∀ p ∈ cs, h.get? p.2 = some tab0) ∧ (∀ p ∈ cs, K.lookup p.2 = none) ∧ (∀ p ∈ cs, PySem.W.CodeHd h p.1 p.2) ∧
        (∀ (s : Shared) (u : Value), BindsTo s fd ⟨[u], []⟩ [(x, u)]) ∧
        (∀ (H : Hp) (a : Addr) (ns : List Int), ns.length ≤ 63 → (∀ n ∈ ns, Builtin.Int.intBits n ≤ 1048576) → (∀ p ∈ cs, H p.2 = some (.tbl #[])) → SqL K H a (ns.map V.int) → sp [.ref a] H (fun v _ => v = .bl true) E0) ∧
        ∀ base : Heap, K.In base → base.Ns mainGlobals mg → (∀ p ∈ cs, TabB base mg p.1 p.2) → FnG l.prog w K mg base k fa fd [x] sp) :
    PySem.W.WalkO q loose XP YP l.row.toRowW d [] (fun f vs => PySem.call f vs) := by
  refine Att.attach_callB hn hdf fun w s₀ s₁ mg mb fa o pm cd doc a vs ns G Y ho hd hcd hmg hobj hints hlen hbits hg => ?_
  obtain ⟨K, fd, cs, sp, KX, hT, nT, C, hbi, hsp, hF⟩ := F w mg fa _ Y G.T.g hmg
  have rv := vals_ints hints
  have sz : vs.length ≤ sizeLine := by
    have := hints.length
    have e : 63 ≤ sizeLine := by decide
    omega
  have szn : (ns.map V.int).length ≤ sizeLine := by
    rw [rv.length]
    exact sz
  obtain ⟨H0, hO, hS0, hok0, hA0, hK0⟩ := script_heap (P := l.prog) (w := w) KX hobj rv sz szn
  obtain ⟨ts, hts⟩ : ∃ ts, ts = cs.map (·.2) := ⟨_, rfl⟩
  have tIn : ∀ {p : Addr × Addr}, p ∈ cs → p.2 ∈ ts := fun {p} hp => by
    rw [hts]
    exact List.mem_map_of_mem hp
  have tOf : ∀ {b : Addr}, b ∈ ts → ∃ p ∈ cs, p.2 = b := fun {b} hb => by
    rw [hts] at hb
    exact List.mem_map.mp hb
  have tGet : ∀ {b : Addr}, b ∈ ts → s₁.heap.get? b = some tab0 := fun {b} hb => by
    obtain ⟨p, hp, rfl⟩ := tOf hb
    exact hT p hp
  have aOut : a ∉ ts := fun z => by
    have e := tGet z
    rw [hobj] at e
    exact nomatch congrArg Obj.data (Option.some.inj e)
  have hS : SqL K (withTabs H0 ts) a (ns.map V.int) := by
    have e := wt_out (H0 := H0) aOut
    rcases hS0 with (z | ⟨o1, z⟩) | z
    · exact .inl (.inl (e.trans z))
    · exact .inl (.inr ⟨o1, e.trans z⟩)
    · exact .inr z
  have hok : HOk l.prog w (withTabs H0 ts) s₁.heap := fun b u z => by
    by_cases hb : b ∈ ts
    · rw [wt_in hb] at z
      cases z
      exact tGet hb
    · rw [wt_out hb] at z
      rcases hO b with n | ⟨o1, ys, n⟩
      · rw [n] at z
        cases z
      · rw [n] at z
        cases z
        exact hok0 b _ n
  -- what is neither the script nor a table is not tracked
  have free : ∀ {b : Addr} {ob : Obj}, s₁.heap.get? b = some ob → ob ≠ { cls := .type "list", data := .seq vs.toArray } → ob ≠ tab0 → withTabs H0 ts b = none := fun {b ob} e n1 n2 => by
    by_cases hb : b ∈ ts
    · rw [tGet hb] at e
      exact absurd (Option.some.inj e).symm n2
    · rw [wt_out hb]
      cases z : H0 b with
      | none => rfl
      | some u =>
        have eb := hA0 b (by rw [z]; exact fun y => nomatch y)
        rw [eb, hobj] at e
        exact absurd (Option.some.inj e).symm n1
  have seen : ∀ {b : Addr} {ob : Obj}, s₁.heap.get? b = some ob → withTabs H0 ts b = none → (hidT s₁.heap (withTabs H0 ts)).get? b = some ob := fun e n => hidT_get e n
  have byData : ∀ {b : Addr} {ob : Obj}, s₁.heap.get? b = some ob → (∀ (v : Array Value) n, ob.data ≠ .seq v n) → ob.data ≠ .fields #[] → (hidT s₁.heap (withTabs H0 ts)).get? b = some ob := fun {b ob} e n1 n2 =>
    seen e (free e (fun z => n1 _ _ (congrArg Obj.data z)) fun z => n2 (congrArg Obj.data z))
  have ns_ : ∀ {b : Addr} {m : Str → Option Value}, s₁.heap.Ns b m → (hidT s₁.heap (withTabs H0 ts)).Ns b m := fun {b m} ⟨ob, es, ep, e, dd, r⟩ =>
    ⟨ob, es, ep, byData e (fun v n z => by rw [dd] at z; exact nomatch z) (fun z => by rw [dd] at z; exact nomatch z), dd, r⟩
  have K_ : K.In (hidT s₁.heap (withTabs H0 ts)) := fun b ob e => seen (KX b ob e) (by
    by_cases hb : b ∈ ts
    · obtain ⟨p, hp, rfl⟩ := tOf hb
      rw [nT p hp] at e
      cases e
    · rw [wt_out hb]
      cases z : H0 b with
      | none => rfl
      | some u =>
        have eb := hA0 b (by rw [z]; exact fun y => nomatch y)
        subst eb
        have := hK0 (by rw [z]; exact fun y => nomatch y)
        rw [this] at e
        cases e)
  have TB : ∀ p ∈ cs, TabB (hidT s₁.heap (withTabs H0 ts)) mg p.1 p.2 := fun p hp => by
    refine ⟨?_, ?_, fun z => ?_⟩
    · obtain ⟨oc, us, file, tf, flags, tg, inF, text, tt, e1, r1, r2, r3, rest⟩ := C p hp
      refine ⟨oc, us, file, tf, flags, tg, inF, text, tt, byData e1 (fun v n z => by rw [r2] at z; exact nomatch z) (fun z => ?_), r1, r2, r3, rest⟩
      rw [r2] at z
      cases z
      exact nomatch (show (none : Option Value) = _ from r3)
    · obtain ⟨bm, ob, b1, b2, b3, b4, b5, b6⟩ := G.T.bmain
      have other : ∀ {c : Addr} {oc : Obj}, s₁.heap.get? c = some oc → oc.data ≠ .plain → bm ≠ c := fun {c oc} e n z => by
        rw [z, e] at b3
        cases b3
        exact n b6
      obtain ⟨og, es, ep, eg, dg, _⟩ := G.T.g
      exact ⟨bm, ob, b1, b2, other eg (by rw [dg]; exact fun z => nomatch z), other (hT p hp) (fun z => nomatch z), byData b3 (fun v n z => by rw [b6] at z; exact nomatch z) (fun z => by rw [b6] at z; exact nomatch z), b4, b5, b6⟩
    · obtain ⟨og, es, ep, eg, dg, _⟩ := G.T.g
      have e := hT p hp
      rw [← z, eg] at e
      cases e
      exact nomatch dg
  obtain ⟨mc, l1, l2⟩ := G.T.nolimit
  have e0 : Env0 l.prog w K mg (hidT s₁.heap (withTabs H0 ts)) callerA [] s₁ (withTabs H0 ts) :=
    { frames := rfl, mod := ⟨K_, ns_ G.T.g, ⟨mb, ns_ G.T.b, G.T.builtins⟩, ⟨mc, ns_ l1, l2⟩⟩, bs := fun b ob e => of_hidT e, bsz := Nat.le_of_eq (hidT_size _ _), funs := trivial, frf := fun b hb => absurd hb (List.not_mem_nil), hok := hok, bare := .of_eq hg }
  refine codeAny_mono ((hF _ K_ (ns_ G.T.g) TB).run callerA [] s₁ (withTabs H0 ts) ⟨[.ref a], []⟩ [.ref a] [.ref a] (fun v _ => v = .bl true) hr rfl e0 (hbi s₁ (.ref a)) (.cons rfl .nil) (hsp _ a ns hlen hbits (fun p hp => wt_in (tIn hp)) hS)) fun r s' h => ?_
  cases r with
  | error e => exact (show False from h).elim
  | ok fl =>
    cases fl with
    | ret u =>
      obtain ⟨v, H', os, bare, un, hok', r', ev⟩ := h
      have ev' : v = .bl true := ev
      subst ev'
      cases r'
      have tab' : ∀ {b : Addr}, b ∈ ts → ∃ more : Array Value, s'.heap.get? b = some { cls := .none, data := .fields more } := fun {b} hb => by
        obtain ⟨more, z⟩ := un.tbls b #[] (wt_in hb)
        exact ⟨_, hok' b _ z⟩
      have keep : ∀ {b : Addr} {ob : Obj}, b ∉ ts → s₁.heap.get? b = some ob → s'.heap.get? b = some ob := fun {b ob} nb e => by
        rcases hO b with z | ⟨o1, ys, z⟩
        · exact un.keep b ob e (by rw [wt_out nb]; exact z) (List.not_mem_nil) (List.not_mem_nil)
        · have z1 : withTabs H0 ts b = some (.frz o1 (.lst ys)) := by rw [wt_out nb]; exact z
          obtain ⟨e1, _⟩ := hok b _ z1
          obtain ⟨e2, _⟩ := hok' b _ (un.frzs b o1 _ z1)
          rw [e] at e1
          cases e1
          exact e2
      refine ⟨rfl, ⟨fun b ob e => ?_, fun b ob e => ?_⟩, os, bare⟩
      · by_cases hb : b ∈ ts
        · obtain ⟨more, hm⟩ := tab' hb
          obtain ⟨p, hp, rfl⟩ := tOf hb
          rw [hT p hp] at e
          cases e
          exact .inr (.inl ⟨((C p hp).tab (hT p hp)).isCodeTable, rfl, #[], more, rfl, by rw [Array.empty_append]; exact hm⟩)
        · exact .inl (keep hb e)
      · by_cases hb : b ∈ ts
        · obtain ⟨more, hm⟩ := tab' hb
          exact ⟨_, hm⟩
        · exact ⟨ob, keep hb e⟩
    | _ => exact (show False from h).elim
end Hk

/-! A head that tells the tables of defs that make lambdas; the bodies of such defs. -/
namespace Hk
open PySem PySem.Spec PyProof.Rows L2 LamX
/-- a def's code object and its table -/
def cOf (d : Dx) (K : Fr) : Addr := match K.lookup (d.ad K) with
  | some ⟨_, _, .func g, _⟩ => (match g.code with | .ref c => c | _ => 0)
  | _ => 0
def pOf (d : Dx) (K : Fr) : Addr := He.tabOf K (cOf d K)
def tabOk (g : Addr → Option Obj) (K : Fr) (d : Dx) : Bool := PySem.W.codeHdIn K (cOf d K) (pOf d K) && (match g (pOf d K) with | some o => He.emptyTab o | none => false)
abbrev Al3 : Type := Al2 × Bool
def lookT0 (fa : List Tst) (fn ts : List Dx) (g : Addr → Option Obj) (K : Fr) : Al3 := (look fa fn K, ts.all fun d => tabOk g K d)
def lookT (n : Nat) (fa : List Tst) (fn ts : List Dx) (g : Addr → Option Obj) : Al3 := lookT0 fa fn ts g (He.frT g (cStatics :: He.asD g n))
/-- what such a head tells -/
structure SaysT (fa : List Tst) (fn ts : List Dx) (h : Heap) (K : Fr) : Prop where
  s : Says fa fn K
  hd : ∀ d ∈ ts, PySem.W.codeHdIn K (cOf d K) (pOf d K) = true
  out : ∀ d ∈ ts, K.lookup (pOf d K) = none
  empty : ∀ d ∈ ts, h.get? (pOf d K) = some tab0
theorem saysT_of {fa : List Tst} {fn ts : List Dx} {h : Heap} {n : Nat} (e : lookT n fa fn ts h.get? = (due fn, true)) : SaysT fa fn ts h (He.frT h.get? (cStatics :: He.asD h.get? n)) := by
  have e1 : look fa fn (He.frT h.get? (cStatics :: He.asD h.get? n)) = due fn := congrArg Prod.fst e
  have e2 : (ts.all fun d => tabOk h.get? (He.frT h.get? (cStatics :: He.asD h.get? n)) d) = true := congrArg Prod.snd e
  generalize hK : He.frT h.get? (cStatics :: He.asD h.get? n) = K at e1 e2 ⊢
  have key : ∀ d ∈ ts, PySem.W.codeHdIn K (cOf d K) (pOf d K) = true ∧ ∃ o, h.get? (pOf d K) = some o ∧ He.emptyTab o = true := fun d hd => by
    obtain ⟨h1, h2⟩ := He.ba (List.all_eq_true.mp e2 d hd)
    refine ⟨h1, ?_⟩
    cases q : h.get? (pOf d K) with
    | none =>
      rw [q] at h2
      exact nomatch h2
    | some o =>
      rw [q] at h2
      exact ⟨o, rfl, h2⟩
  refine ⟨e1, fun d hd => (key d hd).1, fun d hd => ?_, fun d hd => ?_⟩
  · obtain ⟨_, o, q, z⟩ := key d hd
    rw [← hK] at q ⊢
    exact He.frT_none q z
  · obtain ⟨_, o, q, z⟩ := key d hd
    rw [q, He.emptyTab_eq z]
def hookT (n : Nat) (fa : List Tst) (fn ts : List Dx) : PySem.W.Hook where
  α := Al3
  obs := fun s => lookT n fa fn ts s.heap.get?
  val := fun _ => (due fn, true)
  says := fun _ h => ∃ K : Fr, K.In h ∧ SaysT fa fn ts h K
  of := fun _ _ e => ⟨_, He.frT_in, saysT_of e⟩
  keeps := fun _ _ _ ⟨K, hK, c⟩ k => ⟨K, PySem.W.Frag.In.keeps hK k, ⟨c.s, c.hd, c.out, fun d hd => k _ _ (c.empty d hd)⟩⟩
theorem lookT_eq {n : Nat} {fa : List Tst} {fn ts : List Dx} {g : Addr → Option Obj} {s : Shared} (h : ∀ a, g a = s.heap.get? a) : lookT n fa fn ts g = (hookT n fa fn ts).obs s := by
  have e : g = s.heap.get? := funext h
  subst e
  rfl
/-- an exception's class without a def of its own -/
def tEx0 (x : Str) (bm : List Value) (n : String) : Tst := fun K => PySem.W.excIn K (He.ga K x) bm n && (PySem.W.keepIn K (.ref (He.ga K x)) && decide (PySem.W.typeIn K (.ref (He.ga K x)) = some (.type "type")))
/-! ### defs whose code object is known -/
section
variable {P : Program} {w : World} {K : Fr} {mg : Str → Option Value} {base : Heap}
theorem cOf_eq {d : Dx} {oc : Value} {od : Option Addr} {osl : Array (Option Value)} {g : FuncData} {q : Str} (lk : K.lookup (d.ad K) = some ⟨oc, od, .func g, osl⟩) (hc : PySem.W.codeIn K g.code q = true) : g.code = .ref (cOf d K) := by
  obtain ⟨c, e⟩ := He.codeIn_ref hc
  unfold cOf
  rw [lk]
  show g.code = .ref (match g.code with | .ref c => c | _ => 0)
  rw [e]
abbrev BodyGC (P : Program) (w : World) (K : Fr) (mg : Str → Option Value) (base : Heap) (k : Nat) (d : Dx) (N ps : List Str) (sp : Sp) : Prop :=
  ∀ (A : Around) (outer : List Env) (s : Shared) (H : Hp) (vs : List V) (Q : VK) (E : XK), Room k (A.deeper (envOfC d.ql (defScope d.st) s.heap.objs.size (d.ad K) (.ref (cOf d K)))) → Calm A → sp vs H Q E →
      ∃ t, PSs (cxOf CX0 P w K mg base N d.ql (defScope d.st) (d.ad K) (.ref (cOf d K)) A outer s H E).nox (defBody d.st) t ∧ t { nx := fun _ H' => Q .non H', rt := Q } (start N vs) H
theorem okg_c {k : Nat} {d : Dx} {N ps : List Str} {sp : Sp} {fd : FuncData} (D : DAt K d fd) (S : FnScope N ps (defScope d.st)) (len : ∀ vs H Q E, sp vs H Q E → vs.length = ps.length) (hb : BodyGC P w K mg base k d N ps sp) :
    FnG P w K mg base (k + 1) (d.ad K) fd ps sp := by
  obtain ⟨oc, od, dV, kV, doc, pm, an, cdv, ct, osl, rfl, lk, hcd, _, _⟩ := D.ex
  obtain rfl : cdv = .ref (cOf d K) := cOf_eq lk hcd
  refine ⟨len, fun A out s H args us vs Q hr hc e0 hbd r hsp => ?_⟩
  have old : ∀ b o, base.get? b = some o → s.heap.get? b = some o := fun b o z => (e0.bs b o z).1
  have KX : K.In s.heap := e0.mod.kin.keeps old
  have kd : ∀ y ∈ ps.zip us, (defScope d.st).names.lookup y.1 = some .local ∨ ((defScope d.st).names.lookup y.1 = some .cell ∧ ((cellsFrom (s.heap.objs.size + 1) (defScope d.st).names []).lookup y.1).isSome = true) := by
    rintro ⟨n, v⟩ hy
    have q := S.par n (List.of_mem_zip hy).1
    exact q.imp id fun q => ⟨q, PySem.W.cellsFrom_some _ _ _ (.inl q)⟩
  refine codeAny_call_function hr.depth (KX _ _ lk) rfl S.co S.gen rfl (PySem.W.codeRec_of KX hcd) (hbd _ _ _ _ ?_)
  refine wpAny_newFunctionEnv_cells S.kind kd fun env he s1 x => ?_
  subst he
  refine ⟨(e0.mod.nolimit.keeps old).keeps x.toInCall.keep, codeAny_func ?_⟩
  obtain ⟨t, ht, hq⟩ := hb A out s H vs Q E0 (hr.deeper _) hc hsp
  have I : Inv (cxOf CX0 P w K mg base N d.ql (defScope d.st) (d.ad K) (.ref (cOf d K)) A out s H E0) [] (start N vs) H s1 := inv_start S hr.hd e0 (len _ _ _ _ hsp) r x
  refine wpAny_mono (ht.nox.run [] s1 (start N vs) H _ I hq) (fun fl s' hs => ?_) fun e s' hs => hs
  cases fl with
  | next =>
    obtain ⟨σ', H', J, q⟩ := hs
    exact ⟨V.non, H', J.os, J.bare, J.base, J.hok, rfl, q⟩
  | ret u =>
    obtain ⟨v, σ', H', J, rv, q⟩ := hs
    exact ⟨v, H', J.os, J.bare, J.base, J.hok, rv, q⟩
  | brk =>
    obtain ⟨σ', H', J, q⟩ := hs
    exact False.elim q
  | cont =>
    obtain ⟨σ', H', J, q⟩ := hs
    exact False.elim q
theorem calg_c {k : Nat} {d : Dx} {N ps : List Str} {sp : Sp} {x : Str} (D : ∃ fd, DAt K d fd) (hv : d.df = []) (S : FnScope N ps (defScope d.st)) (hm : mg x = some (.ref (d.ad K)))
    (hbi : ∀ (kV doc pm : Value) (an : Option Addr) (cdv ct : Value) (us : List Value), us.length = ps.length → bindArgs (PySem.W.fnOf d.nm d.ql (defArgs d.st) (defBody d.st) (defScope d.st) .none kV doc pm an cdv ct) ⟨us, []⟩ = pure (ps.zip us))
    (len : ∀ vs H Q E, sp vs H Q E → vs.length = ps.length) (hb : BodyGC P w K mg base k d N ps sp) : CalG P w K mg base (k + 1) x (d.ad K) ps sp := by
  obtain ⟨fd, D⟩ := D
  have e : d.vs K = [] := by
    unfold Dx.vs
    rw [hv]
    rfl
  have D' : FunD K d.nm d.ql (defArgs d.st) (defBody d.st) (defScope d.st) [] [] (d.ad K) fd := by
    rw [← e]
    exact D
  exact ⟨fd, okg_c D S len hb, FunD.bindsN D' hbi, D.kp, hm⟩
end
end Hk

/-! Exceptions as values: made by a def of their own or without one, positionally or by keywords; their fields; isinstance of them. -/
namespace Hk
open PySem PySem.Spec PyProof.Rows L2
abbrev tlV : List Value := [.type "ValueError", .type "Exception", .type "BaseException", .type "object"]
abbrev tlL : List Value := [.type "LookupError", .type "Exception", .type "BaseException", .type "object"]
abbrev tlR : List Value := [.type "RuntimeError", .type "Exception", .type "BaseException", .type "object"]
abbrev tlA : List Value := [.type "ArithmeticError", .type "Exception", .type "BaseException", .type "object"]
/-- one of four built-in bases -/
structure Bas (B newId initId : String) (bm : List Value) : Prop where
  f : ExcBaseFacts B newId initId bm
  s : StoreFacts B bm "object.__setattr__" "object"
theorem basV : Bas "ValueError" "ValueError.__new__" "ValueError.__init__" tlV := ⟨PySem.F.excBase_ValueError, PySem.F.store_ValueError⟩
theorem basL : Bas "LookupError" "LookupError.__new__" "LookupError.__init__" tlL := ⟨PySem.F.excBase_LookupError, PySem.F.store_LookupError⟩
theorem basR : Bas "RuntimeError" "RuntimeError.__new__" "RuntimeError.__init__" tlR := ⟨PySem.F.excBase_RuntimeError, PySem.F.store_RuntimeError⟩
theorem basA : Bas "ArithmeticError" "ArithmeticError.__new__" "ArithmeticError.__init__" tlA := ⟨PySem.F.excBase_ArithmeticError, PySem.F.store_ArithmeticError⟩
/-- what the written part says of an own exception class -/
structure VeC (K : Fr) (C : Addr) : Prop where
  b : ∃ B newId initId bm, Bas B newId initId bm ∧ PySem.W.excInitIn K C bm newId = true ∧ PySem.W.excOver K C bm = true
  sa : PySem.W.findIn K (.ref C) "__setattr__" = some (some (.builtin "object.__setattr__"))
  kC : PySem.W.keepIn K (.ref C) = true
  x : ExcC K C
def basB (K : Fr) (C : Addr) (bm : List Value) (n : String) : Bool := PySem.W.excInitIn K C bm n && PySem.W.excOver K C bm
def veB (K : Fr) (C : Addr) : Bool := (basB K C tlV "ValueError.__new__" || (basB K C tlL "LookupError.__new__" || (basB K C tlR "RuntimeError.__new__" || basB K C tlA "ArithmeticError.__new__"))) &&
  (He.eqO (PySem.W.findIn K (.ref C) "__setattr__") (some (some (.builtin "object.__setattr__"))) && (PySem.W.keepIn K (.ref C) && excB K C))
theorem veB_ok {K : Fr} {C : Addr} (c : veB K C = true) : VeC K C := by
  obtain ⟨c1, c⟩ := He.ba c
  obtain ⟨c2, c⟩ := He.ba c
  obtain ⟨c3, c4⟩ := He.ba c
  refine ⟨?_, He.eqO_ok c2, c3, excB_ok c4⟩
  rcases Bool.or_eq_true_iff.mp c1 with h | h
  · exact ⟨_, _, _, _, basV, He.ba h⟩
  · rcases Bool.or_eq_true_iff.mp h with h | h
    · exact ⟨_, _, _, _, basL, He.ba h⟩
    · rcases Bool.or_eq_true_iff.mp h with h | h
      · exact ⟨_, _, _, _, basR, He.ba h⟩
      · exact ⟨_, _, _, _, basA, He.ba h⟩
def tVe (x : Str) : Tst := fun K => veB K (He.ga K x)
end Hk
namespace Hk
open PySem PySem.Spec PyProof.Rows L2
/-! ### a class called, with keywords too -/
section
variable {prog : Program} {w : World} {A : Around} {E : Value → Shared → Prop} {R : Result → Shared → Prop} {h : Heap} {g : Array GenState} {d : Drawn} {t : Nat} {os : OsState}
variable {nm q : Str} {C N : Addr} {bs bm bmB : List Value} {hdct : Bool} {sn : List Str} {sub : List Value} {ab : Bool} {col : Option Bool} {dd : Option Addr} {k0 k1 k2 k3 k5 : Option Value} {B newId initId : String}
theorem chk_new (F : ExcBaseFacts B newId initId bmB) (hT : ∀ X : String, bm.contains (.type X) = bmB.contains (.type X)) {rest : List Value} {kw : List (Str × Value)} {Q : Unit → Shared → Prop} {M : Model}
    (hC : h.get? C = some (excClassObj nm q C N bs bm hdct sn sub ab col dd k0 k1 k2 k3 k5 newId)) (hq : Q () ⟨h, g, d, t, os⟩) : wpAny M A (checkBuiltinCall newId ⟨.ref C :: rest, kw⟩) Q E ⟨h, g, d, t, os⟩ := by
  have c1 : (Value.ref C :: bm).contains (.type B) = true := by rw [List.contains_cons, hT, F.hasB, Bool.or_true]
  have c2 := F.noStar
  cases kw with
  | nil => exact HandSPX.check_new_own F hT hC hq
  | cons k r =>
    simp only [checkBuiltinCall, F.newKind, F.newSplit, F.newRow]
    repeat (first | (refine wpAny_loadPart_at hC ?_) | (refine wpAny_isSubtype_exc hC ?_; rw [c1]) | (refine wpAny_staticBase_exc hC ?_) | (refine wpAny_madeBy_exc hC ?_) | (simp only [bne_self_eq_false, Bool.false_eq_true, if_false]) | wp_step)
    exact hq
end
end Hk

namespace Hk
open PySem PySem.Spec PyProof.Rows L2
section
variable {prog : Program} {w : World} {A : Around} {E : Value → Shared → Prop} {R : Result → Shared → Prop} {h : Heap} {g : Array GenState} {d : Drawn} {t : Nat} {os : OsState}
variable {nm q : Str} {C N : Addr} {bs bm bmB : List Value} {hdct : Bool} {sn : List Str} {sub : List Value} {ab : Bool} {col : Option Bool} {dd : Option Addr} {k0 k1 k2 k3 k5 : Option Value} {B newId initId : String}
theorem new_kw (F : ExcBaseFacts B newId initId bmB) (hT : ∀ X : String, bm.contains (.type X) = bmB.contains (.type X)) {rest : List Value} {kw : List (Str × Value)}
    (hC : h.get? C = some (excClassObj nm q C N bs bm hdct sn sub ab col dd k0 k1 k2 k3 k5 newId))
    (hq : R (.ok (.ret (.ref (h.objs.size + 1)))) ⟨(h.push (PySem.W.kdv_tup rest)).push (HandSPX.excO C h.objs.size), g, d, t, os⟩) (hrest : rest.length ≤ sizeLine) :
    codeAny (model prog w) A (.builtin newId ⟨.ref C :: rest, kw⟩) R ⟨h, g, d, t, os⟩ := by
  have e1 := F.ends
  have e2 : (Value.ref C :: bm).contains (.type B) = true := by rw [List.contains_cons, hT, F.hasB, Bool.or_true]
  have e3 : (Value.ref C :: bm).contains (.type "AttributeError") = false := by rw [List.contains_cons, hT, F.noAttr]; rfl
  have e4 : (Value.ref C :: bm).contains (.type "NameError") = false := by rw [List.contains_cons, hT, F.noName]; rfl
  refine codeAny_builtinAt F.entry ?_
  unfold Builtin.«BaseException.__new__»
  refine PySem.wpAt_bind ?_
  show PySem.wpAt _ _ _ (stack >>= _) _ _ _
  refine PySem.wpAt_bind (PySem.wpAt_stack fun p below => PySem.wpAt_of_wpAny ?_)
  wp_walk
  refine PySem.wpAt_of_wpAny ?_
  rw [F.owner]
  repeat (first | (with_reducible refine wpAny_madeHere_exc F.canon hC ?_) | (with_reducible refine wpAny_loadPart_at hC ?_) | (with_reducible refine wpAny_isSubtype_exc hC ?_; first | rw [e2] | rw [e3] | rw [e4]) | wp_step)
  show R _ _
  rw [Heap.size_push]
  exact hq
theorem type_kw (F : ExcBaseFacts B newId initId bmB) (hT : ∀ X : String, bm.contains (.type X) = bmB.contains (.type X)) {rest : List Value} {kw : List (Str × Value)} {fI : Addr} {Q : Fin → Shared → Prop}
    (hC : h.get? C = some (excClassObj nm q C N bs bm hdct sn sub ab col dd k0 k1 k2 k3 k5 newId))
    (hi : PySem.W.Looks (model prog w) h (typeLookup (.ref C) "__init__") (some (.ref fI))) (hb : ∀ self, PySem.W.Looks (model prog w) h (bindSpecial (.ref fI) self) (.ref fI, [self])) (hrest : rest.length ≤ sizeLine)
    (hq : codeAny (model prog w) A (.call (.ref fI) ⟨.ref (h.objs.size + 1) :: rest, kw⟩)
      (fun r s' => match r with | .ok (.ret v) => v = .none ∧ Q (.done (.ret (.ref (h.objs.size + 1)))) s' | .ok _ => False | .error e => E e s')
      ⟨(h.push (PySem.W.kdv_tup rest)).push (HandSPX.excO C h.objs.size), g, d, t, os⟩) :
    wpAny (model prog w) A (Builtin.«type.__call__» ⟨.ref C :: rest, kw⟩) Q E ⟨h, g, d, t, os⟩ := by
  repeat (first | (with_reducible refine wpAny_loadPart_at hC ?_) | (with_reducible refine wpAny_madeBy_exc hC ?_) | wp_step)
  refine codeAny_call_builtin_code (Code.quiet_builtin _ F.quiet) (chk_new F hT hC ?_)
  refine new_kw F hT hC ?_ hrest
  show wpAny _ _ _ _ _ _
  have kk : ∀ b o, h.get? b = some o → ((h.push (PySem.W.kdv_tup rest)).push (HandSPX.excO C h.objs.size)).get? b = some o := fun b o e => Heap.get?_push_of_some _ (Heap.get?_push_of_some _ e)
  have hC2 := kk _ _ hC
  have hg2 : ((h.push (PySem.W.kdv_tup rest)).push (HandSPX.excO C h.objs.size)).get? (h.objs.size + 1) = some (HandSPX.excO C h.objs.size) := by heap_get
  have hcc : (Value.ref C :: bm).contains (.ref C) = true := by simp
  have i1 := hi.keeps kk
  have b1 := (hb (.ref (h.objs.size + 1))).keeps kk
  unfold isInstance
  repeat (first | (with_reducible refine wpAny_loadPart_at hg2 ?_) | (with_reducible refine wpAny_isSubtype_exc hC2 ?_; rw [hcc]) | wp_step)
  show wpAny _ _ (typeLookup (.ref C) _) _ _ _
  refine i1.at ?_
  refine wpAny_holding (wpAny_bind (b1.at ?_))
  refine wpAny_bind (wpAny_call (codeAny_mono hq fun r s' z => ?_))
  rcases r with e | (v | _ | _ | _) <;> first | exact z | exact z.elim | skip
  obtain ⟨rfl, z⟩ := z
  first
    | exact wpAny_pure (wpAny_pure z)
    | (wp_walk; exact z)
theorem chk_tc {M : Model} {rest : List Value} {kw : List (Str × Value)} {Q : Unit → Shared → Prop} (hC : h.get? C = some (excClassObj nm q C N bs bm hdct sn sub ab col dd k0 k1 k2 k3 k5 newId))
    (hq : Q () ⟨h, g, d, t, os⟩) : wpAny M A (checkBuiltinCall "type.__call__" ⟨.ref C :: rest, kw⟩) Q E ⟨h, g, d, t, os⟩ := by
  cases kw with
  | nil => exact wpAny_check_type_call_sub hC hq
  | cons k r =>
    have f3 := tc_sub
    have hT : (⟨h, g, d, t, os⟩ : Shared).TypeIs (.ref C) "type" := ⟨_, hC, rfl⟩
    simp only [checkBuiltinCall, tc_kind, tc_split]
    repeat (any_goals (first | assumption | (with_reducible refine wpAny_loadPart_at hC ?_) | (with_reducible refine wpAny_onRaise ?_) | (with_reducible refine wpAny_map ?_) | wp_step))
theorem call_kw (F : ExcBaseFacts B newId initId bmB) (hT : ∀ X : String, bm.contains (.type X) = bmB.contains (.type X)) {rest : List Value} {kw : List (Str × Value)} {fI : Addr}
    (hC : h.get? C = some (excClassObj nm q C N bs bm hdct sn sub ab col dd k0 k1 k2 k3 k5 newId))
    (hi : PySem.W.Looks (model prog w) h (typeLookup (.ref C) "__init__") (some (.ref fI))) (hb : ∀ self, PySem.W.Looks (model prog w) h (bindSpecial (.ref fI) self) (.ref fI, [self])) (hrest : rest.length ≤ sizeLine)
    (hq : codeAny (model prog w) (A.under (.builtin "type.__call__" ⟨.ref C :: rest, kw⟩)) (.call (.ref fI) ⟨.ref (h.objs.size + 1) :: rest, kw⟩) (PySem.W.InitBack (h.objs.size + 1) R)
      ⟨(h.push (PySem.W.kdv_tup rest)).push (HandSPX.excO C h.objs.size), g, d, t, os⟩) :
    codeAny (model prog w) A (.call (.ref C) ⟨rest, kw⟩) R ⟨h, g, d, t, os⟩ := by
  have f1 := tc_lookup
  have f2 := tc_bind (.ref C)
  have hTy : (⟨h, g, d, t, os⟩ : Shared).TypeIs (.ref C) "type" := ⟨_, hC, rfl⟩
  refine codeAny_of_tree ?_
  show wpAny _ _ (callAny (.ref C) _) _ _ _
  repeat (any_goals (first | assumption | (with_reducible refine wpAny_loadPart_at hC ?_) | wp_step))
  refine ⟨rfl, ?_⟩
  refine codeAny_call_builtin_at (Code.quiet_builtin _ (by decide +kernel)) entry_typeCall (chk_tc hC (type_kw F hT hC hi hb hrest ?_))
  refine codeAny_mono hq fun r s' z => ?_
  rcases r with e | (v | _ | _ | _) <;> exact z
end
end Hk

namespace Hk
open PySem PySem.Spec PyProof.Rows L2
/-! ### self.f = y in __init__ -/
section
open PySem.Builtin PySem.Builtin.ObjectAttr
variable {prog : Program} {w : World} {A : Around} {E : Value → Shared → Prop} {R : Result → Shared → Prop} {hp : Heap} {g : Array GenState} {d : Drawn} {t : Nat} {os : OsState} {K : Fr}
theorem osa_first {name : Str} {tk : Tok} {v : Value} {x C : Addr} {fv : Array Value} (T : VeC K C)
    (Y : K.In hp) (hx : hp.get? x = some { cls := .ref C, data := .fields fv }) (ha : PySem.W.findIn K (.ref C) name = some none)
    (hq : ∀ h' tk' dx, (∀ b o, b ≠ x → hp.get? b = some o → h'.get? b = some o) → hp.objs.size ≤ dx → dx ≠ x → h'.get? x = some { cls := .ref C, dict := some dx, data := .fields fv } →
      h'.Ns1 dx (fun y => if y = name then some v else none) → R (.ok (.ret .none)) ⟨h', g, d, tk', os⟩) :
    codeAny (model prog w) A (.call (.builtin "object.__setattr__") ⟨[.ref x, .str name tk, v], []⟩) R ⟨hp, g, d, t, os⟩ := by
  obtain ⟨B, newId, initId, bm, b, _, ov⟩ := T.b
  have I : PySem.W.InstAt hp x { cls := .ref C, data := .fields fv } C none := ⟨hx, rfl, rfl, trivial⟩
  have hxs : x ≠ hp.objs.size := Nat.ne_of_lt (Heap.lt_size hx)
  refine PySem.W.osa_openX (s := ⟨hp, g, d, t, os⟩) (r := none) b.s Y I ov (by unfold PySem.W.takerIn; rw [ha]; rfl) fun bb => ?_
  show wpAny _ _ (storeInOwnDict (.ref x) (.ref C) (.str name tk) name v bb) _ _ _
  obtain ⟨cd, hcd, hh⟩ := PySem.W.any_some T.x.hd
  have hcls : PySem.W.Looks (model prog w) hp (classData C) cd := PySem.W.looks_clsIn Y hcd
  obtain ⟨nm, bs, mro, ns, qn, hd, sn, sb, ab, col, del⟩ := cd
  dsimp only at hh
  subst hh
  unfold storeInOwnDict ownDictForStores
  repeat (first | (with_reducible refine HandSPX.store_in_new ?_ ?_) | (with_reducible refine wpAny_loadPart_at hx ?_) | (with_reducible refine hcls.at ?_) | wp_step)
  · exact ⟨_, #[], _, (Heap.get?_update_ne _ _ _ _ hxs.symm).trans (Heap.get?_push_at rfl rfl), rfl, fun e he => absurd he (by simp), fun _ => rfl⟩
  · intro h' tk' hn' hs
    have hx1 : (hp.push { cls := .type "dict", data := .dict #[] }).get? x = some { cls := .ref C, data := .fields fv } := Heap.get?_push_of_some _ hx
    refine hq h' tk' hp.objs.size (fun b o hb ho => ?_) (Nat.le_refl _) hxs.symm ?_ hn'
    · exact (hs.2 b (Nat.ne_of_lt (Heap.lt_size ho))).trans ((Heap.get?_update_ne _ _ _ _ hb).trans (Heap.get?_push_of_some _ ho))
    · exact (hs.2 x hxs).trans (Heap.get?_update_self _ hx1 rfl)
theorem osa_more {name : Str} {tk : Tok} {v : Value} {m0 : Str → Option Value} {ns : List Str} {x C dx : Addr} {fv : Array Value} (T : VeC K C)
    (Y : K.In hp) (hx : hp.get? x = some { cls := .ref C, dict := some dx, data := .fields fv }) (hns : hp.Ns1 dx m0) (hw : Within m0 ns) (hz : ns.length ≤ 1000) (ha : PySem.W.findIn K (.ref C) name = some none)
    (hq : ∀ h' tk', (∀ b o, b ≠ dx → hp.get? b = some o → h'.get? b = some o) → h'.Ns1 dx (fun y => if y = name then some v else m0 y) → R (.ok (.ret .none)) ⟨h', g, d, tk', os⟩) :
    codeAny (model prog w) A (.call (.builtin "object.__setattr__") ⟨[.ref x, .str name tk, v], []⟩) R ⟨hp, g, d, t, os⟩ := by
  obtain ⟨B, newId, initId, bm, b, _, ov⟩ := T.b
  obtain ⟨oD, esD, epD, hoD, hdD, _⟩ := hns.count hw
  have I : PySem.W.InstAt hp x { cls := .ref C, dict := some dx, data := .fields fv } C (some oD) := ⟨hx, rfl, rfl, hoD⟩
  refine PySem.W.osa_openX (s := ⟨hp, g, d, t, os⟩) (r := none) b.s Y I ov (by unfold PySem.W.takerIn; rw [ha]; rfl) fun bb => ?_
  show wpAny _ _ (storeInOwnDict (.ref x) (.ref C) (.str name tk) name v bb) _ _ _
  obtain ⟨cd, hcd, hh⟩ := PySem.W.any_some T.x.hd
  have hcls : PySem.W.Looks (model prog w) hp (classData C) cd := PySem.W.looks_clsIn Y hcd
  obtain ⟨nm, bs, mro, nn, qn, hd, sn, sb, ab, col, del⟩ := cd
  dsimp only at hh
  subst hh
  unfold storeInOwnDict ownDictForStores
  repeat (first | (with_reducible refine PySem.OEX.store_in_old hns hw hz ?_) | (with_reducible refine wpAny_loadPart_at hx ?_) | (with_reducible refine hcls.at ?_) | wp_step)
  intro h' tk' hn' hs
  exact hq h' tk' (fun b o hb ho => (hs.2 b hb).trans ho) hn'
end
section
variable {X : Cx} {pins : List (Addr × Obj)} {σ : L2.St} {H : Hp} {s : Shared} {a C dx : Addr} {f : Str} {y : V} {u : Value} {fs : List (Str × V)} {Q : Unit → Shared → Prop} {E : Value → Shared → Prop} {A : Around}
theorem vst_new (T : VeC X.K C) (I : Inv X pins σ H s) (e : H a = some (exo a C none)) (hno : PySem.W.findIn X.K (.ref C) f = some none) (ry : RelV y u)
    (h : ∀ dx s', H dx = none → dx ≠ a → Inv X pins σ (upd (upd H dx (exd dx [(f, y)])) a (exo a C (some dx))) s' → Q () s') : wpAny (model X.prog X.w) A (setAttr (.ref a) f u) Q E s := by
  obtain ⟨t1, ho⟩ := exo_at I.hok e
  obtain ⟨hp, g, d, t, os⟩ := s
  refine PySem.W.set_plain I.kIn (ox := { cls := .ref C, dict := none, data := .fields #[.ref t1, .none, .none, .none, .bool false, .none] }) (od := none) ⟨ho, rfl, rfl, trivial⟩ T.sa ?_
  refine osa_first T I.kIn ho hno (fun h' tk' dx k dn dne hx hn => ?_)
  have hnd : H dx = none := I.hok.fresh dn
  have nd : ∀ {b : Addr} {o : Obj}, hp.get? b = some o → b ≠ dx := fun {b o} q => Nat.ne_of_lt (Nat.lt_of_lt_of_le (Heap.lt_size q) dn)
  have na : ∀ {b : Addr}, H b = none → b ≠ a := fun {b} n z => by
    rw [z, e] at n
    exact nomatch n
  have U : Un X.fs [] H (upd (upd H dx (exd dx [(f, y)])) a (exo a C (some dx))) hp h' := by
    refine ⟨fun b o q n _ _ => k b o (na n) q, fun b o q n _ _ => ⟨o.slots, k b o (na n) q⟩, fun b o q n _ => ?_, fun b o q _ => ?_, fun b xs q => ?_, fun b o v q => ?_, fun b ps q => ⟨#[], ?_⟩⟩
    · rw [upd_ne (na n), upd_ne (nd q)]
      exact n
    · by_cases hb : b = a
      · exact ⟨_, by rw [hb]; exact hx⟩
      · exact ⟨o, k b o hb q⟩
    · rw [upd_ne (at_ne e q exo_tup), upd_ne (ne_of_none q hnd)]
      exact q
    · rw [upd_ne (at_ne e q exo_frz), upd_ne (ne_of_none q hnd)]
      exact q
    · rw [upd_ne (at_ne e q exo_tbl), upd_ne (ne_of_none q hnd), q]
      simp
  refine h dx _ hnd dne (I.un (t' := tk') U fun b o q => ?_)
  by_cases hb : b = a
  · subst hb
    rw [upd_same] at q
    cases q
    exact exo_ok hx
  · rw [upd_ne hb] at q
    by_cases hd : b = dx
    · subst hd
      rw [upd_same] at q
      cases q
      exact exd_ok hn (relO_put (fs := []) ry fun g => True.intro)
    · rw [upd_ne hd] at q
      refine (I.hok b o q).stay (fun c v hc z => k c v ?_ z) (fun c hc => ?_) fun c xs hc => ?_
      · rcases hc with hc | hc
        · rw [hc]
          exact hb
        · exact at_ne e hc exo_own
      · rw [upd_ne (at_ne e hc exo_own), upd_ne (ne_of_none hc hnd)]
        exact hc
      · rw [upd_ne (at_ne e hc exo_tup), upd_ne (ne_of_none hc hnd)]
        exact hc
theorem vst_old (T : VeC X.K C) (I : Inv X pins σ H s) (e : H a = some (exo a C (some dx))) (ed : H dx = some (exd dx fs)) (hl : fs.length ≤ 900) (hno : PySem.W.findIn X.K (.ref C) f = some none) (ry : RelV y u)
    (h : ∀ s', Inv X pins σ (upd H dx (exd dx ((f, y) :: fs))) s' → Q () s') : wpAny (model X.prog X.w) A (setAttr (.ref a) f u) Q E s := by
  obtain ⟨t1, ho⟩ := exo_at I.hok e
  obtain ⟨mA, hns, rel⟩ := exd_at I.hok ed
  have hw := within_of rel
  obtain ⟨hp, g, d, t, os⟩ := s
  obtain ⟨oD, _, _, hoD, _, _⟩ := hns.count hw
  refine PySem.W.set_plain I.kIn (ox := { cls := .ref C, dict := some dx, data := .fields #[.ref t1, .none, .none, .none, .bool false, .none] }) (od := some oD) ⟨ho, rfl, rfl, hoD⟩ T.sa ?_
  refine osa_more T I.kIn ho hns hw (by rw [List.length_map]; omega) hno (fun h' tk' k hn => ?_)
  have hd : ∃ o, h'.get? dx = some o := by
    obtain ⟨o, _, _, e', _⟩ := hn
    exact ⟨o, e'⟩
  exact h _ (I.write (t' := tk') (x := dx) (e := dx) (o := exd dx ((f, y) :: fs)) (by rw [ed]; exact True.intro) (.inl rfl) k hd (exd_ok hn (relO_put ry rel)))
end
/-- self.f = e -/
def tVst (K : Fr) (f : Str) (to te : TE) : TS := fun D σ H => te σ H fun y H1 => to σ H1 fun x H2 => ∃ a C : Addr, x = .ref a ∧ VeC K C ∧ PySem.W.findIn K (.ref C) f = some none ∧
  ((H2 a = some (exo a C none) ∧ ∀ dx, H2 dx = none → dx ≠ a → D.nx σ (upd (upd H2 dx (exd dx [(f, y)])) a (exo a C (some dx)))) ∨
    ∃ (dx : Addr) (fs : List (Str × V)), H2 a = some (exo a C (some dx)) ∧ H2 dx = some (exd dx fs) ∧ fs.length ≤ 900 ∧ D.nx σ (upd H2 dx (exd dx ((f, y) :: fs))))
section
variable {X : Cx} {o e : Expr} {to te : TE} {f : Str} {p' pos : Pos}
theorem ps_vst (ho : PE X o to) (he : PE X e te) (hs : swapsWith e (some (.Attribute o f p')) pos.line X.env = pure false := by rfl) : PS X (.Assign [.Attribute o f p'] e pos) (tVst X.K f to te) := by
  refine ⟨fun pins s σ H D I h => ?_⟩
  refine plainObj_wpAny_Assign_Attribute (thn (he.run pins s σ H _ I h) fun v s1 ⟨y, H1, I1, r1, q1⟩ => thn (ho.run pins s1 σ H1 _ I1 q1) fun u s2 ⟨x, H2, I2, r2, a, C, ex, T, hno, q⟩ => ?_) hs
  subst ex
  obtain rfl : u = Value.ref a := r2
  rcases q with ⟨ea, q⟩ | ⟨dx, fs, ea, ed, hl, q⟩
  · exact vst_new T I2 ea hno r1 fun dx s' n ne J => ⟨σ, _, J, q dx n ne⟩
  · exact vst_old T I2 ea ed hl hno r1 fun s' J => ⟨σ, _, J, q⟩
end
end Hk

namespace Hk
open PySem PySem.Spec PyProof.Rows L2
/-- an exception of the class C with these fields stands at a -/
def VeAt (H : Hp) (a C : Addr) (fs : List (Str × V)) : Prop := ∃ d, H a = some (exo a C (some d)) ∧ H d = some (exd d fs)
/-- one without fields -/
def VeBare (H : Hp) (a C : Addr) : Prop := H a = some (ExO (.ref C) a)
theorem VeAt.same {H H' : Hp} {a C : Addr} {fs : List (Str × V)} (v : VeAt H a C fs) (s : Same H H') : VeAt H' a C fs := by
  obtain ⟨d, h1, h2⟩ := v
  exact ⟨d, s _ _ h1, s _ _ h2⟩
section
variable {X : Cx} {k : Nat} {C fI : Addr} {fd : FuncData} {ps ks : List Str} {sp : Sp}
/-- the class called: a new object, then its __init__ -/
theorem run_ve {pins : List (Addr × Obj)} {σ : L2.St} {H : Hp} {s : Shared} {Q : VK} {us ws : List Value} {vl : Addr → List V} {al : Addr → List Value} (T : VeC X.K C) (iC : PySem.W.findIn X.K (.ref C) "__init__" = some (some (.ref fI))) (tI : PySem.W.typeIn X.K (.ref fI) = some (.type "function"))
    (F : FnOk X.prog X.w X.K X.mg X.base CX0 k fI fd ps sp) (hr : Room (k + 1) X.A) (I : Inv X pins σ H s) (hl : us.length ≤ sizeLine)
    (hb : ∀ (s' : Shared) (a : Addr), X.K.In s'.heap → BindsTo s' fd ⟨.ref a :: us, ks.zip ws⟩ (ps.zip (al a))) (hv : ∀ a, Vals (vl a) (al a))
    (h : ∀ a, H a = none → sp (vl a) (upd H a (exo a C none)) (fun v H2 => v = .non ∧ Q (.ref a) H2) E0) :
    wpAny (model X.prog X.w) X.A (call (.ref C) us (ks.zip ws)) (EP X pins σ Q) X.xe s := by
  obtain ⟨B, newId, initId, bmB, b, ei, _⟩ := T.b
  obtain ⟨nm, N, q, bs, bm, hdct, sn, sub, ab, col, dd, k0, k1, k2, k3, k5, hC, hT⟩ := PySem.W.excInit_of I.kIn ei
  obtain ⟨hp, g, dr, tk, os⟩ := s
  have hsz : hp.objs.size ≤ hp.objs.size + 1 := Nat.le_succ _
  have hn : H (hp.objs.size + 1) = none := I.hok.fresh hsz
  have hq := h (hp.objs.size + 1) hn
  have kk : ∀ b o, hp.get? b = some o → ((hp.push (PySem.W.kdv_tup us)).push (HandSPX.excO C hp.objs.size)).get? b = some o := fun b o e => Heap.get?_push_of_some _ (Heap.get?_push_of_some _ e)
  have hget : ((hp.push (PySem.W.kdv_tup us)).push (HandSPX.excO C hp.objs.size)).get? (hp.objs.size + 1) = some (HandSPX.excO C hp.objs.size) := by heap_get
  have I2 : Inv X pins σ (upd H (hp.objs.size + 1) (exo (hp.objs.size + 1) C none)) ⟨(hp.push (PySem.W.kdv_tup us)).push (HandSPX.excO C hp.objs.size), g, dr, tk, os⟩ :=
    I.laid (t' := tk) (a := hp.objs.size + 1) (o := exo (hp.objs.size + 1) C none) (h' := (hp.push (PySem.W.kdv_tup us)).push (HandSPX.excO C hp.objs.size)) kk hsz (exo_ok hget)
  refine wpAny_call (call_kw b.f hT hC (PySem.W.looks_findIn I.kIn iC) (fun self => PySem.W.bind_fn I.kIn self tI) hl
    (codeAny_mono (F.run _ X.stack _ _ ⟨Value.ref (hp.objs.size + 1) :: us, ks.zip ws⟩ (al (hp.objs.size + 1)) (vl (hp.objs.size + 1)) _ E0 (hr.make C us (ks.zip ws)) (I2.env0.make C us (ks.zip ws)) (hb _ _ I2.kIn) (hv _) hq) fun r s' hq' => ?_))
  cases r with
  | error er => exact (show False from hq').elim
  | ok fl =>
    cases fl with
    | ret u =>
      obtain ⟨v, H', I3, rv, ev, q3⟩ := I2.after hq'
      subst ev
      exact ⟨rv, V.ref (hp.objs.size + 1), H', I3, rfl, q3⟩
    | _ => exact (show False from hq').elim
/-- C(e, ..) -/
def tVe1 (C : Addr) (sp : Sp) (t : TA) : TE := fun σ H Q => t σ H fun vs H1 => vs.length ≤ 1000 ∧ ∀ a, H1 a = none → sp (.ref a :: vs) (upd H1 a (exo a C none)) (fun v H2 => v = .non ∧ Q (.ref a) H2) E0
theorem len_line {us : List Value} {vs : List V} (r : Vals vs us) (h : vs.length ≤ 1000) : us.length ≤ sizeLine := by
  rw [← r.length]
  exact Nat.le_trans h (by decide)
theorem pe_ve {x : Str} {e : Expr} {es : List Expr} {t : TA} {p pos : Pos} (T : VeC X.K C) (iC : PySem.W.findIn X.K (.ref C) "__init__" = some (some (.ref fI))) (tI : PySem.W.typeIn X.K (.ref fI) = some (.type "function"))
    (F : FnOk X.prog X.w X.K X.mg X.base CX0 k fI fd ps sp) (hr : Room (k + 1) X.A) (hm : X.mg x = some (.ref C)) (hb : Binds X.K fd ps []) (ha : PA X (e :: es) t) (hg : Gl X x := by rfl)
    (hdb : (x == ("__debug__" : Str)) = false := by decide) (he : starEach (e :: es) X.env = (false, eval e X.env) :: starEach es X.env := by rfl) (hpl : (backTo pos (starEach es X.env)).any (·.1) = false := by rfl) :
    PE X (.Call (.Name x p) (e :: es) [] pos) (tVe1 C sp t) := by
  refine ⟨fun pins s σ H Q I h => wpAny_Call_Name_kw (ld_glob I hg hm ?_ hdb)⟩
  refine PySem.W.callWith_K (h₀ := X.base) I.ok.mod.kin T.kC (thn (ha.run pos pins s σ H _ I h) fun us s1 hu => ?_) he hpl
  obtain ⟨vs, H1, J, r, hl, q⟩ := hu
  have fr : ∃ a, H1 a = none := ⟨_, J.hok.fresh (Nat.le_refl _)⟩
  obtain ⟨a0, n0⟩ := fr
  have ln : us.length + 1 = ps.length := by
    have e1 := F.len _ _ _ _ (q a0 n0)
    rw [List.length_cons, r.length] at e1
    exact e1
  refine ⟨J.kIn, run_ve (ks := []) (ws := []) (vl := fun a => .ref a :: vs) (al := fun a => .ref a :: us) T iC tI F hr J (len_line r hl) (fun s' a Y => ?_) (fun a => .cons rfl r) q⟩
  have := hb s' (.ref a :: us) Y (by rw [List.append_nil, List.length_cons]; exact ln)
  rwa [List.append_nil] at this
/-- C(k = e, ..): how the keywords come to the parameters -/
def tVeK (C : Addr) (sp : Sp) (gV : List V → List V) (tk : TA) : TE := fun σ H Q => tk σ H fun zs H1 => ∀ a, H1 a = none → sp (.ref a :: gV zs) (upd H1 a (exo a C none)) (fun v H2 => v = .non ∧ Q (.ref a) H2) E0
theorem pe_veK {x : Str} {kws : List Keyword} {tk : TA} {p pos : Pos} {g : List Value → List Value} {gV : List V → List V} (T : VeC X.K C) (iC : PySem.W.findIn X.K (.ref C) "__init__" = some (some (.ref fI))) (tI : PySem.W.typeIn X.K (.ref fI) = some (.type "function"))
    (F : FnOk X.prog X.w X.K X.mg X.base CX0 k fI fd ps sp) (hr : Room (k + 1) X.A) (hm : X.mg x = some (.ref C)) (hb : ∀ (s' : Shared) (a : Addr) (ws : List Value), X.K.In s'.heap → ws.length = ks.length → BindsTo s' fd ⟨[.ref a], ks.zip ws⟩ (ps.zip (.ref a :: g ws)))
    (hgv : ∀ {zs : List V} {ws : List Value}, Vals zs ws → Vals (gV zs) (g ws)) (hlk : ∀ (σ : L2.St) (H : Hp) (Q : List V → Hp → Prop), tk σ H Q → tk σ H fun zs H1 => zs.length = ks.length ∧ Q zs H1) (hk : PK X kws tk) (hg : Gl X x := by rfl)
    (hall : (backToKw pos (keywordEach kws X.env)).all (·.1.isSome) = true := by rfl) (hks : (backToKw pos (keywordEach kws X.env)).filterMap (·.1) = ks := by rfl) (hdb : (x == ("__debug__" : Str)) = false := by decide)
    (hpl : ((backTo pos (starEach [] X.env)).any (·.1) || (backToKw pos (keywordEach kws X.env)).any (·.1.isNone)) = false := by rfl) : PE X (.Call (.Name x p) [] kws pos) (tVeK C sp gV tk) := by
  refine ⟨fun pins s σ H Q I h => wpAny_Call_Name_kw (ld_glob I hg hm ?_ hdb)⟩
  refine PySem.W.callWith_KW0 (h₀ := X.base) I.ok.mod.kin T.kC hall (thn (hk.run pos pins s σ H _ I (hlk _ _ _ h)) fun ws s2 hu => ?_) hpl
  obtain ⟨zs, H2, J, rz, ln, q⟩ := hu
  refine ⟨J.kIn, ?_⟩
  rw [hks]
  exact run_ve (us := []) (vl := fun a => .ref a :: gV zs) (al := fun a => .ref a :: g ws) T iC tI F hr J (Nat.zero_le _) (fun s' a Y => hb s' a ws Y (rz.length.symm.trans ln)) (fun a => .cons rfl (hgv rz)) q
/-- C() of a class without an __init__ of its own -/
theorem pe_ve0 {bmB : List Value} {B newId initId : String} {x : Str} {p pos : Pos} (F : ExcBaseFacts B newId initId bmB) (q : PySem.W.excIn X.K C bmB newId = true) (gC : X.mg x = some (.ref C)) (kC : PySem.W.keepIn X.K (.ref C) = true) (hg : Gl X x := by rfl)
    (hdb : (x == ("__debug__" : Str)) = false := by decide) : PE X (.Call (.Name x p) [] [] pos) (fun σ H Q => ∀ a, H a = none → Q (.ref a) (upd H a (ExO (.ref C) a))) := by
  refine ⟨fun pins s σ H Q I h => wpAny_Call_Name_kw (ld_glob I hg gC ?_ hdb)⟩
  refine PySem.W.callWith_K0 I.kIn kC ?_
  obtain ⟨bm, N, nm, qn, bs, hdct, sn, sub, ab, col, dd, k0, k1, k2, k3, k5, mN, hC, hN, hni, T⟩ := exc_obj I.kIn q
  refine wpAny_call_exc_subT F T hC hN hni (fun h' a hm => ?_) (Nat.zero_le _)
  have hn : H a = none := I.hok.gone hm.new
  obtain ⟨t, ht, _, _⟩ := hm.there
  exact ⟨.ref a, upd H a (ExO (.ref C) a), I.laidN hm.keeps hm.new hn (exO_ok ht ⟨rfl, rfl⟩ rfl rfl rfl (show 4 < 6 by decide)), rfl, h a hn⟩
/-- e.n -/
def tVeF (K : Fr) (n : Str) (te : TE) : TE := fun σ H Q => te σ H fun x H1 => ∃ (a C : Addr) (fs : List (Str × V)) (v : V), x = .ref a ∧ VeAt H1 a C fs ∧ ExcC K C ∧ PySem.W.findIn K (.ref C) n = some none ∧ fs.lookup n = some v ∧ Q v H1
theorem pe_veF {e : Expr} {te : TE} {pos : Pos} {n : Str} (he : PE X e te) (hb : attributeBase e n X.env (eval e X.env) = eval e X.env := by rfl) : PE X (.Attribute e n pos) (tVeF X.K n te) := by
  refine ⟨fun pins s σ H Q I h => ?_⟩
  refine attr_of hb (thn (he.run pins s σ H _ I h) fun u s1 hh => ?_)
  obtain ⟨x, H1, I1, rx, a, C, fs, v, ex, ⟨d, ea, ed⟩, T, hno, l, q⟩ := hh
  subst ex
  obtain rfl : u = Value.ref a := rx
  obtain ⟨t1, ho⟩ := exo_at I1.hok ea
  obtain ⟨mz, ns, rel⟩ := exd_at I1.hok ed
  obtain ⟨od, hod, hl⟩ := lookIn_ns ns
  have rn := rel n
  rw [l] at rn
  obtain ⟨val, ev, rv⟩ := RelO.some_of rn
  have J : PySem.W.InstAt s1.heap a { cls := .ref C, dict := some d, data := .fields #[.ref t1, .none, .none, .none, .bool false, .none] } C (some od) := ⟨ho, rfl, rfl, hod⟩
  exact HandSPX.exc_get I1.kIn J T.hg T.hk T.hs (PySem.W.findObj_own T.hd hno rfl ((hl n).trans (congrArg some ev))) (handed_of rv) ⟨v, H1, I1.tok _, rv, q⟩
/-- isinstance(e, c) -/
def rIsV (K : Fr) : List V → Hp → VK → Prop := fun xs H Q => ∃ (a D : Addr) (c : V) (cv : Value) (b : Bool), xs = [.ref a, c] ∧ ((∃ fs, VeAt H a D fs) ∨ VeBare H a D) ∧ ExcC K D ∧ ClsV c cv ∧ PySem.W.kitOne K (.ref D) cv = some b ∧ Q (.bl b) H
theorem call_isV : CallR X (.builtin "isinstance") (rIsV X.K) := by
  intro pins s σ H xs us Q I r h
  obtain ⟨a, D, c, cv, b, rfl, hv, C, hcv, e, q⟩ := h
  obtain ⟨u1, u2, rfl, r1, r2⟩ := vals2 r
  have ec := hcv.eq r2
  subst ec
  cases (show u1 = Value.ref a from r1)
  obtain ⟨cdD, hcD, _⟩ := PySem.W.any_some C.hd
  have hcl : (PySem.W.clsIn X.K D).isSome = true := by rw [hcD]; rfl
  have fin : ∀ {ox : Obj} {od : Option Obj}, PySem.W.InstAt s.heap a ox D od → wpAny (model X.prog X.w) X.A (call (.builtin "isinstance") [.ref a, u2]) (EP X pins σ Q) X.xe s := fun {ox od} J =>
    PySem.W.kia_one (PySem.W.kitx_exc hcl C.hg C.hk C.hs C.ha C.hn C.ht C.hm) I.kIn J e (fun z => nomatch z) fun tk => ⟨.bl b, H, I.kept (t' := tk) fun _ _ z => z, rfl, q⟩
  rcases hv with ⟨fs, d, ea, ed⟩ | ea
  · obtain ⟨t1, ho⟩ := exo_at I.hok ea
    obtain ⟨mz, ns, rel⟩ := exd_at I.hok ed
    obtain ⟨od, hod, hl⟩ := lookIn_ns ns
    exact fin (ox := { cls := .ref D, dict := some d, data := .fields #[.ref t1, .none, .none, .none, .bool false, .none] }) (od := some od) ⟨ho, rfl, rfl, hod⟩
  · obtain ⟨⟨oe, vs, ho, hz, hd, _⟩, _, _⟩ := I.hok a _ ea
    refine fin (ox := oe) (od := none) ⟨ho, hz.1, ?_, by rw [hz.2]; trivial⟩
    unfold PySem.W.notCls
    rw [hd] <;> rfl
end
/-- an __init__ that stores its one argument -/
def spSet (C : Addr) (f : Str) : Sp := fun vs H Q _ => ∃ (a : Addr) (y : V), vs = [.ref a, y] ∧ H a = some (exo a C none) ∧ ∀ dx, H dx = none → dx ≠ a → Q .non (upd (upd H dx (exd dx [(f, y)])) a (exo a C (some dx)))
end Hk

/-! raise C() of a class without a def of its own, nothing handled. -/
namespace Hk
open PySem PySem.Spec PyProof.Rows L2
section
variable {X : Cx} {C : Addr} {bm : List Value} {B n ii : String}
theorem pmk_own0 {x : Str} {p pos : Pos} (F : ExcBaseFacts B n ii bm) (q : PySem.W.excIn X.K C bm n = true) (gC : X.mg x = some (.ref C)) (kC : PySem.W.keepIn X.K (.ref C) = true) (r : Raises X (.ref C)) (hg : Gl X x)
    (hdb : (x == ("__debug__" : Str)) = false := by decide) : L2N.PMk X (.Call (.Name x p) [] [] pos) (fun _ H Q => Q (.ref C) none H) := by
  intro pins s σ H Q I h
  refine wpAny_Call_Name_kw (ld_glob I hg gC ?_ hdb)
  refine PySem.W.callWith_K0 I.kIn kC ?_
  obtain ⟨bm', N, nm, qn, bs, hdct, sn, sub, ab, col, dd, k0, k1, k2, k3, k5, mN, hC, hN, hni, T⟩ := exc_obj I.kIn q
  refine wpAny_call_exc_subT F T hC hN hni (fun h' e hm => ?_) (Nat.zero_le _)
  exact L2N.mk_of I hm r h (I.hok.gone hm.new)
theorem ps_rz0 {x : Str} {p pos pos' : Pos} {W : WX} (F : Bas B n ii bm) (c : tEx0 x bm n X.K = true) (e : ExcC X.K (He.ga X.K x)) (gC : X.mg x = some (.ref (He.ga X.K x))) (hg : Gl X x) (tk : L2N.Takes X W) (hc : X.calm = true := by rfl)
    (hdb : (x == ("__debug__" : Str)) = false := by decide) : PS X (.Raise (some (.Call (.Name x p) [] [] pos)) none pos') (fun _ σ H => W (.ref (He.ga X.K x)) none σ H) := by
  obtain ⟨c1, c2⟩ := He.ba c
  obtain ⟨c2, c3⟩ := He.ba c2
  exact L2N.ps_raise hc tk (pmk_own0 F.f c1 gC c2 (raises_own e.hs (of_decide_eq_true c3)) hg hdb)
end
section
variable {P : Program} {w : World} {K : Fr} {mg : Str → Option Value} {base : Heap}
theorem caln_of {k : Nat} {d : Dx} {N ps : List Str} {sp : Sp} {x : Str} (D : ∃ fd, DAt K d fd) (hv : d.df = []) (S : FnScope N ps (defScope d.st)) (hm : mg x = some (.ref (d.ad K)))
    (hbi : ∀ (kV doc pm : Value) (an : Option Addr) (cdv ct : Value) (us : List Value), us.length = ps.length → bindArgs (PySem.W.fnOf d.nm d.ql (defArgs d.st) (defBody d.st) (defScope d.st) .none kV doc pm an cdv ct) ⟨us, []⟩ = pure (ps.zip us))
    (len : ∀ vs H Q E, sp vs H Q E → vs.length = ps.length) (hb : BodyN P w K mg base k d N ps sp) : CalN P w K mg base (k + 1) x (d.ad K) ps sp := by
  obtain ⟨fd, D⟩ := D
  have e : d.vs K = [] := by
    unfold Dx.vs
    rw [hv]
    rfl
  have D' : FunD K d.nm d.ql (defArgs d.st) (defBody d.st) (defScope d.st) [] [] (d.ad K) fd := by
    rw [← e]
    exact D
  exact ⟨fd, okn_of D S len hb, FunD.bindsN D' hbi, D.kp, hm⟩
end
end Hk

/-! Own operators with any other operand, on both sides; their defs may raise. -/
namespace Hk
open PySem PySem.Spec PyProof.Rows L2
/-- what the type T must be for an operator of the class at C -/
structure RightT (K : Fr) (C : Addr) (nm : String) (T : String) : Prop where
  i1 : ∃ fo, PySem.W.findIn K (.type T) (PySem.dunder nm) = some fo
  i2 : ∃ ro, PySem.W.findIn K (.type T) (dunderR nm) = some ro
  sub : PySem.W.subIn K (.type T) (.ref C) = some false
  cub : PySem.W.subIn K (.ref C) (.type T) = some false
def tRight (x : Str) (nm : String) (T : String) : Tst := fun K => (PySem.W.findIn K (.type T) (PySem.dunder nm)).isSome && ((PySem.W.findIn K (.type T) (dunderR nm)).isSome && (decide (PySem.W.subIn K (.type T) (.ref (He.ga K x)) = some false) && decide (PySem.W.subIn K (.ref (He.ga K x)) (.type T) = some false)))
theorem right_ok {K : Fr} {x : Str} {nm T : String} (c : tRight x nm T K = true) : RightT K (He.ga K x) nm T := by
  obtain ⟨c1, c⟩ := He.ba c
  obtain ⟨c2, c⟩ := He.ba c
  obtain ⟨c3, c4⟩ := He.ba c
  exact ⟨Option.isSome_iff_exists.mp c1, Option.isSome_iff_exists.mp c2, of_decide_eq_true c3, of_decide_eq_true c4⟩
/-- the type has no such operator -/
def tNoOp (nm : String) (T : String) : Tst := fun K => He.eqO (PySem.W.findIn K (.type T) (PySem.dunder nm)) (some none) && He.eqO (PySem.W.findIn K (.type T) (dunderR nm)) (some none)
section
variable {prog : Program} {w : World} {A : Around} {E : Value → Shared → Prop} {s : Shared} {K : Fr} {x C f g : Addr} {ox : Obj} {od : Option Obj}
theorem bin1_ty {nm T : String} {b : Value} {Q : Value → Shared → Prop} (Y : K.In s.heap) (I : PySem.W.InstAt s.heap x ox C od) (B : BinF K C nm f) (R : RightT K C nm T) (hb : PySem.W.Looks (model prog w) s.heap (typeOf b) (.type T))
    (h : wpAny (model prog w) A (call (.ref f) [.ref x, b]) (PySem.W.CmpBack Q) E s) : wpAny (model prog w) A (binaryOp1 nm (.ref x) b) (fun r s' => ∃ v, r = some v ∧ Q v s') E s := by
  obtain ⟨cd, rest, hcd, hm⟩ := PySem.W.ksp_first B.self
  have one := PySem.W.ksp_try Y I B.at_ B.fn h
  obtain ⟨rc, hr, hp⟩ := B.rr
  obtain ⟨fo, h1⟩ := R.i1
  obtain ⟨ro, h2⟩ := R.i2
  obtain ⟨hh, gg, d, tt, os⟩ := s
  have L1 : PySem.W.Looks (model prog w) hh (typeOf (.ref x)) (.ref C) := I.type
  have L2 : PySem.W.Looks (model prog w) hh (typeOf b) (.type T) := hb
  have L3 : PySem.W.Looks (model prog w) hh (fillsNumberSlot (.ref C) nm) true := PySem.W.fills_K Y hcd hm B.at_
  have L4 : PySem.W.Looks (model prog w) hh (fillsNumberSlot (.type T) nm) ((fo.isSome && !isSeqSlot fo) || (ro.isSome && !isSeqSlot ro)) := PySem.W.ksp_fillsT Y h1 h2
  have L5 : PySem.W.Looks (model prog w) hh (isSubtype (.type T) (.ref C)) false := PySem.W.looks_subIn Y R.sub
  have L6 : PySem.W.Looks (model prog w) hh (numberSlotInPython (.ref C) nm) true := PySem.W.ksp_inPy Y B.at_ hr hp
  have L7 : PySem.W.Looks (model prog w) hh (numberSlotInPython (.type T) nm) false := PySem.W.Looks.of_pure rfl
  have L8 : PySem.W.Looks (model prog w) hh (typeLookup (.type T) (dunderR nm)) ro := PySem.W.looks_findIn Y h2
  generalize ((fo.isSome && !isSeqSlot fo) || (ro.isSome && !isSeqSlot ro)) = right at L4
  have hne : (Value.ref C == Value.type T) = false := Bool.eq_false_iff.mpr fun q => nomatch beq_iff_eq.mp q
  unfold binaryOp1
  refine wpAny_bind (L1.at (wpAny_bind (L2.at (wpAny_bind (L3.at ?_)))))
  simp only [hne, Bool.false_eq_true, if_false]
  cases right with
  | false =>
    ksp_lk
    refine wpAny_mono one (fun r s' hr' => ?_) fun _ _ e => e
    obtain ⟨v, rfl, hq⟩ := hr'
    ksp_lk
    exact ⟨v, rfl, hq⟩
  | true =>
    ksp_lk
    refine wpAny_mono one (fun r s' hr' => ?_) fun _ _ e => e
    obtain ⟨v, rfl, hq⟩ := hr'
    ksp_lk
    exact ⟨v, rfl, hq⟩
/-- v op instance: the class's reflected operator; v's own one, where there is one, declines -/
theorem rbin_ty {op : Operator} {T : String} {v : Value} {Q : Value → Shared → Prop} (Y : K.In s.heap) (I : PySem.W.InstAt s.heap x ox C od) (hc : PySem.W.selfFirst K C = true) (R : RightT K C op.info.2 T) (hv : PySem.W.Looks (model prog w) s.heap (typeOf v) (.type T))
    (dec : (∃ fo ro, PySem.W.findIn K (.type T) (PySem.dunder op.info.2) = some fo ∧ PySem.W.findIn K (.type T) (dunderR op.info.2) = some ro ∧ ((fo.isSome && !isSeqSlot fo) || (ro.isSome && !isSeqSlot ro)) = false) ∨
      (∃ id, s.TypeIs v T ∧ Slot T (PySem.dunder op.info.2) id ∧ ∀ Q : Value → Shared → Prop, Q .notImplemented s → wpAny (model prog w) A (call (.builtin id) [v, .ref x]) Q E s))
    (hs : PySem.W.findIn K (.ref C) (PySem.dunder op.info.2) = some (some (.ref f))) (hr : PySem.W.findIn K (.ref C) (dunderR op.info.2) = some (some (.ref g))) (hg : PySem.W.isFn K (.ref g) = true)
    (h : wpAny (model prog w) A (call (.ref g) [.ref x, v]) (PySem.W.CmpBack Q) E s) : wpAny (model prog w) A (binaryOp op v (.ref x)) Q E s := by
  obtain ⟨cd, rest, hcd, hm⟩ := PySem.W.ksp_first hc
  obtain ⟨fo, h1⟩ := R.i1
  obtain ⟨ro, h2⟩ := R.i2
  have hsub := R.cub
  rcases hi : op.info with ⟨sym, nm⟩
  rw [hi] at hs hr h1 h2 dec
  dsimp only at hs hr h1 h2 dec
  simp only [binaryOp, hi]
  refine wpAny_holding ?_
  simp only [binaryOp1]
  have L4 : PySem.W.Looks (model prog w) s.heap (fillsNumberSlot (.type T) nm) ((fo.isSome && !isSeqSlot fo) || (ro.isSome && !isSeqSlot ro)) := PySem.W.ksp_fillsT Y h1 h2
  refine wpAny_bind (wpAny_bind (hv.here ?_))
  refine wpAny_bind (I.type.here (wpAny_bind (L4.here ?_)))
  have hne : (Value.type T == Value.ref C) = false := Bool.eq_false_iff.mpr fun q => nomatch beq_iff_eq.mp q
  simp only [hne, Bool.false_eq_true, if_false]
  refine wpAny_bind ((PySem.W.fills_K Y hcd hm hs).here ?_)
  have hpy : numberSlotInPython (.type T) nm = pure false := rfl
  have fin : wpAny (model prog w) A (tryMethod (.ref x) (dunderR nm) v) (fun r s' => ∃ u, r = some u ∧ Q u s') E s := by
    unfold tryMethod
    refine wpAny_bind (PySem.W.special_fn Y I hr (beq_iff_eq.mp hg) (wpAny_mono h (fun v s' hv => ?_) fun _ _ e => e))
    cases v <;> first | exact hv.elim | exact wpAny_pure ⟨_, rfl, hv⟩
  cases hl : ((fo.isSome && !isSeqSlot fo) || (ro.isSome && !isSeqSlot ro)) with
  | false =>
    simp only [Bool.false_and, Bool.false_eq_true, if_false, pure_bind, Bool.not_false, Bool.and_self, if_true, Bool.true_and]
    refine wpAny_bind (wpAny_mono fin (fun r s' hr' => ?_) fun _ _ e => e)
    obtain ⟨u, rfl, hq⟩ := hr'
    exact wpAny_bind (wpAny_rule (wpAny_pure (wpAny_pure hq)))
  | true =>
    simp only [Bool.and_self, if_true]
    refine wpAny_bind ((PySem.W.looks_subIn Y hsub).here ?_)
    simp only [Bool.false_eq_true, if_false, pure_bind, Bool.not_false, Bool.and_self, if_true, hpy]
    rcases dec with ⟨fo', ro', e1, e2, e3⟩ | ⟨id, hT, slot, hd⟩
    · rw [h1] at e1; cases e1
      rw [h2] at e2; cases e2
      rw [hl] at e3
      cases e3
    · refine wpAny_bind (wpAny_tryMethod_declines hT slot (hd _ ⟨rfl, ?_⟩))
      refine wpAny_bind (wpAny_mono fin (fun r s' hr' => ?_) fun _ _ e => e)
      obtain ⟨u, rfl, hq⟩ := hr'
      exact wpAny_bind (wpAny_rule (wpAny_pure (wpAny_pure hq)))
end
/-! ### a truth's own operators decline -/
def DeclB (id : String) : Prop := ∀ (prog : Program) (w : World) (A : Around) (E : Value → Shared → Prop) (s : Shared) (b : Bool) (x C dx : Addr) (Q : Value → Shared → Prop), s.heap.get? x = some (PySem.W.instObj C dx) → Q .notImplemented s →
  wpAny (model prog w) A (call (.builtin id) [.bool b, .ref x]) Q E s
theorem declB_add : DeclB "int.__add__" := by
  intro prog w A E s b x C dx Q ho q
  refine wpAny_call (codeAny_call_builtin F.slot_int_add.plain F.entry_int_add (F.slot_bool_add.check _ _ _ _ _ _ _ _ (PySem.typeIs_bool s b) (F.args_int_add_2 _ _) ?_))
  unfold Builtin.«int.__add__» Builtin.Int.intBinary
  refine wpAny_bind (m := slotArgs "__add__" 1 _) (wpAny_pure ?_)
  refine wpAny_bind (m := Builtin.Int.intOfSelf _) (wpAny_pure ?_)
  refine wpAny_bind (m := asInt? _) (wpAny_bind (wpAny_load ho (wpAny_pure ?_)))
  refine wpAny_bind (wpAny_rule (wpAny_pure ?_))
  exact q
theorem declB_sub : DeclB "int.__sub__" := by
  intro prog w A E s b x C dx Q ho q
  refine wpAny_call (codeAny_call_builtin F.slot_int_sub.plain F.entry_int_sub (F.slot_bool_sub.check _ _ _ _ _ _ _ _ (PySem.typeIs_bool s b) (F.args_int_sub_2 _ _) ?_))
  unfold Builtin.«int.__sub__» Builtin.Int.intBinary
  refine wpAny_bind (m := slotArgs "__sub__" 1 _) (wpAny_pure ?_)
  refine wpAny_bind (m := Builtin.Int.intOfSelf _) (wpAny_pure ?_)
  refine wpAny_bind (m := asInt? _) (wpAny_bind (wpAny_load ho (wpAny_pure ?_)))
  refine wpAny_bind (wpAny_rule (wpAny_pure ?_))
  exact q
/-! ### rules -/
/-- y is of the built-in type T -/
def TyO (K : Fr) (H : Hp) (y : V) (T : String) : Prop := TyL K H y (.type T) ∨ (T = "dict" ∧ ∃ a kvs, y = .ref a ∧ H a = some (.dK kvs))
theorem TyO.same {K : Fr} {H H' : Hp} {y : V} {T : String} (h : TyO K H y T) (s : Same H H') : TyO K H' y T := by
  rcases h with h | ⟨rfl, a, kvs, rfl, e⟩
  · refine .inl ?_
    cases h with
    | non => exact .non
    | bl b => exact .bl b
    | int i => exact .int i
    | str y => exact .str y
    | lst e => exact .lst (s _ _ e)
    | tup e => exact .tup (s _ _ e)
  · exact .inr ⟨rfl, a, kvs, rfl, s _ _ e⟩
def rBinX (K : Fr) (C : Addr) (nm : String) (sp : Sp) (E : XK) : R2 := fun x y H Q => ∃ a dx fs, x = .ref a ∧ H a = some (.ins C dx fs) ∧ ((∃ T, TyO K H y T ∧ RightT K C nm T) ∨ ∃ b dy gs, y = .ref b ∧ H b = some (.ins C dy gs)) ∧ sp [x, y] H Q E
/-- of y op x, y no instance -/
def rRbinX (K : Fr) (C : Addr) (nm : String) (sp : Sp) (E : XK) : R2 := fun y x H Q => ∃ a dx fs T, x = .ref a ∧ H a = some (.ins C dx fs) ∧ TyO K H y T ∧ RightT K C nm T ∧ ((PySem.W.findIn K (.type T) (PySem.dunder nm) = some none ∧ PySem.W.findIn K (.type T) (dunderR nm) = some none) ∨ ∃ b, y = .bl b ∧ T = "bool") ∧ sp [x, y] H Q E
section
variable {X : Cx} {CX : CXT} {E : XK} {k : Nat} {C f g : Addr} {fd : FuncData} {ps : List Str} {sp : Sp} {op : Operator}
theorem TyO.looks {pins : List (Addr × Obj)} {s : Shared} {σ : L2.St} {H : Hp} {y : V} {u : Value} {T : String} {M : Model} (I : Inv X pins σ H s) (ry : RelV y u) (h : TyO X.K H y T) : PySem.W.Looks M s.heap (typeOf u) (.type T) := by
  rcases h with h | ⟨rfl, a, kvs, rfl, e⟩
  · exact TyL.looks I ry h
  · cases (show u = Value.ref a from ry)
    obtain ⟨_, hsm, vs, kv, o, es, ep, h1, h2, h3, h4, h5, h6⟩ := (show ObjOk X.prog X.w H s.heap a (.dK kvs) from I.hok a _ e)
    exact fun A Q E s2 k2 q2 => wpAny_typeOf_ref (k2 _ _ h1) (by rw [h2.1]; exact q2)
theorem op_binX (B : BinF X.K C op.info.2 f) (F : FnOk X.prog X.w X.K X.mg X.base CX k f fd ps sp) (hb : Binds X.K fd ps []) (hr : Room k X.A) (hx : ∀ σ, PassesAt CX X σ E) : OpR X (binaryOp op) (rBinX X.K C op.info.2 sp E) := by
  intro pins s σ H x y v u Q I rx ry h
  obtain ⟨a, dx, fs, rfl, ha, hy, q⟩ := h
  cases (show v = Value.ref a from rx)
  obtain ⟨mA, M, _⟩ := ins_get I.hok ha
  obtain ⟨od, J, _⟩ := M.look
  have run : wpAny (model X.prog X.w) X.A (call (.ref f) [.ref a, u]) (PySem.W.CmpBack (EP X pins σ Q)) X.xe s :=
    wpAny_mono (run_fnS (vs := [.ref a, y]) (E := fun _ => E) F hr hb (hx σ) I (.cons rfl (.cons ry .nil)) q) (fun w s' z => by
      obtain ⟨z', H', I', rz, qz⟩ := id z
      exact backC rz z) fun _ _ z => z
  rcases hy with ⟨T, ty, R⟩ | ⟨b, dy, gs, rfl, hb2⟩
  · exact bin_of1 (bin1_ty I.kIn J B R (TyO.looks I ry ty) run)
  · exact bin_of1 (bin1_own I.kIn J B (TyL.looks I ry (.ins hb2)) run)
theorem op_rbinX (B : BinF X.K C op.info.2 f) (R : RbinF X.K C op.info.2 g) (slot : ∃ id, Slot "bool" (PySem.dunder op.info.2) id ∧ DeclB id)
    (F : FnOk X.prog X.w X.K X.mg X.base CX k g fd ps sp) (hb : Binds X.K fd ps []) (hr : Room k X.A) (hx : ∀ σ, PassesAt CX X σ E) : OpR X (binaryOp op) (rRbinX X.K C op.info.2 sp E) := by
  intro pins s σ H y x u v Q I ry rx h
  obtain ⟨a, dx, fs, T, rfl, ha, ty, RT, how, q⟩ := h
  cases (show v = Value.ref a from rx)
  obtain ⟨mA, M, _⟩ := ins_get I.hok ha
  obtain ⟨od, J, _⟩ := M.look
  have run : wpAny (model X.prog X.w) X.A (call (.ref g) [.ref a, u]) (PySem.W.CmpBack (EP X pins σ Q)) X.xe s :=
    wpAny_mono (run_fnS (vs := [.ref a, y]) (E := fun _ => E) F hr hb (hx σ) I (.cons rfl (.cons ry .nil)) q) (fun w s' z => by
      obtain ⟨z', H', I', rz, qz⟩ := id z
      exact backC rz z) fun _ _ z => z
  refine rbin_ty I.kIn J B.self RT (TyO.looks I ry ty) ?_ B.at_ R.at_ R.fn run
  rcases how with ⟨e1, e2⟩ | ⟨b, rfl, rfl⟩
  · exact .inl ⟨none, none, e1, e2, rfl⟩
  · obtain ⟨id, sl, d⟩ := slot
    cases ry
    exact .inr ⟨id, PySem.typeIs_bool s b, sl, fun Q q => d _ _ _ _ _ _ _ _ _ _ J.at_ q⟩
end
end Hk

namespace K04
open PySem PySem.Spec PyProof.Rows L2 Hk
def top (i : Nat) : Stmt := PySem.Challenge.pw_delaynets_k04_numbers_refused.main.body.getD i (.Pass ⟨0, 0, 0, 0⟩)
abbrev s_InvalidText_init : Stmt := inClass (top 3) 0
def d_InvalidText_init : Dx := ⟨mAd "InvalidText" "__init__", "__init__", "InvalidText.__init__", s_InvalidText_init, []⟩
theorem sc_InvalidText_init : FnScope ["self", "value"] ["self", "value"] (defScope s_InvalidText_init) := ⟨rfl, rfl, rfl, by decide +kernel, rfl, by decide +kernel, by decide +kernel⟩
abbrev s_InvalidCount_init : Stmt := inClass (top 4) 0
def d_InvalidCount_init : Dx := ⟨mAd "InvalidCount" "__init__", "__init__", "InvalidCount.__init__", s_InvalidCount_init, []⟩
theorem sc_InvalidCount_init : FnScope ["self", "value"] ["self", "value"] (defScope s_InvalidCount_init) := ⟨rfl, rfl, rfl, by decide +kernel, rfl, by decide +kernel, by decide +kernel⟩
abbrev s_NotANumber_init : Stmt := inClass (top 5) 0
def d_NotANumber_init : Dx := ⟨mAd "NotANumber" "__init__", "__init__", "NotANumber.__init__", s_NotANumber_init, []⟩
theorem sc_NotANumber_init : FnScope ["self", "value"] ["self", "value"] (defScope s_NotANumber_init) := ⟨rfl, rfl, rfl, by decide +kernel, rfl, by decide +kernel, by decide +kernel⟩
abbrev s_is_integer : Stmt := top 10
def d_is_integer : Dx := ⟨gAd "is_integer", "is_integer", "is_integer", s_is_integer, []⟩
theorem sc_is_integer : FnScope ["value"] ["value"] (defScope s_is_integer) := ⟨rfl, rfl, rfl, by decide +kernel, rfl, by decide +kernel, by decide +kernel⟩
abbrev s_as_number : Stmt := top 11
def d_as_number : Dx := ⟨gAd "as_number", "as_number", "as_number", s_as_number, []⟩
theorem sc_as_number : FnScope ["value"] ["value"] (defScope s_as_number) := ⟨rfl, rfl, rfl, by decide +kernel, rfl, by decide +kernel, by decide +kernel⟩
abbrev s_Number_init : Stmt := inClass (top 12) 0
def d_Number_init : Dx := ⟨mAd "Number" "__init__", "__init__", "Number.__init__", s_Number_init, [.int 1]⟩
theorem sc_Number_init : FnScope ["self", "top", "bottom", "shared"] ["self", "top", "bottom"] (defScope s_Number_init) := ⟨rfl, rfl, rfl, by decide +kernel, rfl, by decide +kernel, by decide +kernel⟩
abbrev s_Number_read : Stmt := inClass (top 12) 1
def d_Number_read : Dx := ⟨statAd "Number" "read", "read", "Number.read", s_Number_read, []⟩
theorem sc_Number_read : FnScope ["text", "number"] ["text"] (defScope s_Number_read) := ⟨rfl, rfl, rfl, by decide +kernel, rfl, by decide +kernel, by decide +kernel⟩
abbrev s_Number_top : Stmt := inClass (top 12) 2
def d_Number_top : Dx := ⟨getAd "Number" "top", "top", "Number.top", s_Number_top, []⟩
theorem sc_Number_top : FnScope ["self"] ["self"] (defScope s_Number_top) := ⟨rfl, rfl, rfl, by decide +kernel, rfl, by decide +kernel, by decide +kernel⟩
abbrev s_Number_bottom : Stmt := inClass (top 12) 3
def d_Number_bottom : Dx := ⟨getAd "Number" "bottom", "bottom", "Number.bottom", s_Number_bottom, []⟩
theorem sc_Number_bottom : FnScope ["self"] ["self"] (defScope s_Number_bottom) := ⟨rfl, rfl, rfl, by decide +kernel, rfl, by decide +kernel, by decide +kernel⟩
abbrev s_Number_sign : Stmt := inClass (top 12) 4
def d_Number_sign : Dx := ⟨getAd "Number" "sign", "sign", "Number.sign", s_Number_sign, []⟩
theorem sc_Number_sign : FnScope ["self"] ["self"] (defScope s_Number_sign) := ⟨rfl, rfl, rfl, by decide +kernel, rfl, by decide +kernel, by decide +kernel⟩
abbrev s_Number_over : Stmt := inClass (top 12) 5
def d_Number_over : Dx := ⟨mAd "Number" "over", "over", "Number.over", s_Number_over, []⟩
theorem sc_Number_over : FnScope ["self", "other", "divisor"] ["self", "other"] (defScope s_Number_over) := ⟨rfl, rfl, rfl, by decide +kernel, rfl, by decide +kernel, by decide +kernel⟩
abbrev s_Number_add : Stmt := inClass (top 12) 6
def d_Number_add : Dx := ⟨mAd "Number" "__add__", "__add__", "Number.__add__", s_Number_add, []⟩
theorem sc_Number_add : FnScope ["self", "other", "right"] ["self", "other"] (defScope s_Number_add) := ⟨rfl, rfl, rfl, by decide +kernel, rfl, by decide +kernel, by decide +kernel⟩
abbrev s_Number_radd : Stmt := inClass (top 12) 7
def d_Number_radd : Dx := ⟨mAd "Number" "__radd__", "__radd__", "Number.__radd__", s_Number_radd, []⟩
theorem sc_Number_radd : FnScope ["self", "other"] ["self", "other"] (defScope s_Number_radd) := ⟨rfl, rfl, rfl, by decide +kernel, rfl, by decide +kernel, by decide +kernel⟩
abbrev s_Number_sub : Stmt := inClass (top 12) 8
def d_Number_sub : Dx := ⟨mAd "Number" "__sub__", "__sub__", "Number.__sub__", s_Number_sub, []⟩
theorem sc_Number_sub : FnScope ["self", "other", "right"] ["self", "other"] (defScope s_Number_sub) := ⟨rfl, rfl, rfl, by decide +kernel, rfl, by decide +kernel, by decide +kernel⟩
abbrev s_Number_rsub : Stmt := inClass (top 12) 9
def d_Number_rsub : Dx := ⟨mAd "Number" "__rsub__", "__rsub__", "Number.__rsub__", s_Number_rsub, []⟩
theorem sc_Number_rsub : FnScope ["self", "other"] ["self", "other"] (defScope s_Number_rsub) := ⟨rfl, rfl, rfl, by decide +kernel, rfl, by decide +kernel, by decide +kernel⟩
abbrev s_Number_mul : Stmt := inClass (top 12) 10
def d_Number_mul : Dx := ⟨mAd "Number" "__mul__", "__mul__", "Number.__mul__", s_Number_mul, []⟩
theorem sc_Number_mul : FnScope ["self", "other", "right"] ["self", "other"] (defScope s_Number_mul) := ⟨rfl, rfl, rfl, by decide +kernel, rfl, by decide +kernel, by decide +kernel⟩
abbrev s_Number_rmul : Stmt := inClass (top 12) 11
def d_Number_rmul : Dx := ⟨mAd "Number" "__rmul__", "__rmul__", "Number.__rmul__", s_Number_rmul, []⟩
theorem sc_Number_rmul : FnScope ["self", "other"] ["self", "other"] (defScope s_Number_rmul) := ⟨rfl, rfl, rfl, by decide +kernel, rfl, by decide +kernel, by decide +kernel⟩
abbrev s_Number_neg : Stmt := inClass (top 12) 12
def d_Number_neg : Dx := ⟨mAd "Number" "__neg__", "__neg__", "Number.__neg__", s_Number_neg, []⟩
theorem sc_Number_neg : FnScope ["self"] ["self"] (defScope s_Number_neg) := ⟨rfl, rfl, rfl, by decide +kernel, rfl, by decide +kernel, by decide +kernel⟩
abbrev s_Number_abs : Stmt := inClass (top 12) 13
def d_Number_abs : Dx := ⟨mAd "Number" "__abs__", "__abs__", "Number.__abs__", s_Number_abs, []⟩
theorem sc_Number_abs : FnScope ["self"] ["self"] (defScope s_Number_abs) := ⟨rfl, rfl, rfl, by decide +kernel, rfl, by decide +kernel, by decide +kernel⟩
abbrev s_Number_pow : Stmt := inClass (top 12) 14
def d_Number_pow : Dx := ⟨mAd "Number" "__pow__", "__pow__", "Number.__pow__", s_Number_pow, []⟩
theorem sc_Number_pow : FnScope ["self", "other", "power", "_"] ["self", "other"] (defScope s_Number_pow) := ⟨rfl, rfl, rfl, by decide +kernel, rfl, by decide +kernel, by decide +kernel⟩
abbrev s_Number_eq : Stmt := inClass (top 12) 15
def d_Number_eq : Dx := ⟨mAd "Number" "__eq__", "__eq__", "Number.__eq__", s_Number_eq, []⟩
theorem sc_Number_eq : FnScope ["self", "other"] ["self", "other"] (defScope s_Number_eq) := ⟨rfl, rfl, rfl, by decide +kernel, rfl, by decide +kernel, by decide +kernel⟩
abbrev s_Number_str : Stmt := inClass (top 12) 16
def d_Number_str : Dx := ⟨mAd "Number" "__str__", "__str__", "Number.__str__", s_Number_str, []⟩
theorem sc_Number_str : FnScope ["self"] ["self"] (defScope s_Number_str) := ⟨rfl, rfl, rfl, by decide +kernel, rfl, by decide +kernel, by decide +kernel⟩
abbrev s_Number_repr : Stmt := inClass (top 12) 17
def d_Number_repr : Dx := ⟨mAd "Number" "__repr__", "__repr__", "Number.__repr__", s_Number_repr, []⟩
theorem sc_Number_repr : FnScope ["self"] ["self"] (defScope s_Number_repr) := ⟨rfl, rfl, rfl, by decide +kernel, rfl, by decide +kernel, by decide +kernel⟩
abbrev s_number_in : Stmt := top 13
def d_number_in : Dx := ⟨gAd "_number_in", "_number_in", "_number_in", s_number_in, []⟩
theorem sc_number_in : FnScope ["text", "top", "slash", "bottom"] ["text"] (defScope s_number_in) := ⟨rfl, rfl, rfl, by decide +kernel, rfl, by decide +kernel, by decide +kernel⟩
abbrev s_is_digits : Stmt := top 14
def d_is_digits : Dx := ⟨gAd "_is_digits", "_is_digits", "_is_digits", s_is_digits, []⟩
theorem sc_is_digits : FnScope ["text"] ["text"] (defScope s_is_digits) := ⟨rfl, rfl, rfl, by decide +kernel, rfl, by decide +kernel, by decide +kernel⟩
abbrev s_l_spring : Stmt := top 16
def d_l_spring : Dx := ⟨gAd "_law_spring", "_law_spring", "_law_spring", s_l_spring, []⟩
theorem sc_l_spring : FnScope ["_law_script", "_law_spot", "_law_mixed", "_law_at", "_law_own", "_law_digits"] ["_law_script", "_law_spot"] (defScope s_l_spring) := ⟨rfl, rfl, rfl, by decide +kernel, rfl, by decide +kernel, by decide +kernel⟩
abbrev s_l_next : Stmt := top 17
def d_l_next : Dx := ⟨gAd "_law_next", "_law_next", "_law_next", s_l_next, []⟩
theorem sc_l_next : FnScope ["_law_spring_here", "_law_many", "_law_digit", "_law_state"] ["_law_spring_here", "_law_many"] (defScope s_l_next) := ⟨rfl, rfl, rfl, by decide +kernel, rfl, by decide +kernel, by decide +kernel⟩
abbrev s_l_one : Stmt := top 18
def d_l_one : Dx := ⟨gAd "_law_one", "_law_one", "_law_one", s_l_one, []⟩
theorem sc_l_one : FnScope ["_law_spring_here", "_law_things"] ["_law_spring_here", "_law_things"] (defScope s_l_one) := ⟨rfl, rfl, rfl, by decide +kernel, rfl, by decide +kernel, by decide +kernel⟩
abbrev s_l_told : Stmt := top 19
def d_l_told : Dx := ⟨gAd "_law_told", "_law_told", "_law_told", s_l_told, []⟩
theorem sc_l_told : FnScope ["_law_act", "e"] ["_law_act"] (defScope s_l_told) := ⟨rfl, rfl, rfl, by decide +kernel, rfl, by decide +kernel, by decide +kernel⟩
abbrev s_l_joined : Stmt := top 20
def d_l_joined : Dx := ⟨gAd "_law_joined", "_law_joined", "_law_joined", s_l_joined, []⟩
theorem sc_l_joined : FnScope ["_law_way", "_law_number", "_law_odd"] ["_law_way", "_law_number", "_law_odd"] (defScope s_l_joined) := ⟨rfl, rfl, rfl, by decide +kernel, rfl, by decide +kernel, by decide +kernel⟩
abbrev s_l_right : Stmt := top 21
def d_l_right : Dx := ⟨gAd "_law_right", "_law_right", "_law_right", s_l_right, []⟩
theorem sc_l_right : FnScope ["_law_spring_here", "_law_number", "_law_odd", "_law_way", "_law_line", "_law_bad", "_law_told_here"] ["_law_spring_here"] (defScope s_l_right) := ⟨rfl, rfl, rfl, by decide +kernel, rfl, by decide +kernel, by decide +kernel⟩
abbrev s_l_zero : Stmt := top 22
def d_l_zero : Dx := ⟨gAd "_law_zero", "_law_zero", "_law_zero", s_l_zero, []⟩
theorem sc_l_zero : FnScope ["_law_spring_here"] ["_law_spring_here"] (defScope s_l_zero) := ⟨rfl, rfl, rfl, by decide +kernel, rfl, by decide +kernel, by decide +kernel⟩
abbrev s_law : Stmt := top 23
def d_law : Dx := ⟨gAd "law", "law", "law", s_law, []⟩
theorem sc_law : FnScope ["_law_script", "_law_spot", "_law_spring_here", "_law_turn"] ["_law_script"] (defScope s_law) := ⟨rfl, rfl, rfl, by decide +kernel, rfl, by decide +kernel, by decide +kernel⟩
def FN : List Dx := [d_InvalidText_init, d_InvalidCount_init, d_NotANumber_init, d_is_integer, d_as_number, d_Number_init, d_Number_read, d_Number_top, d_Number_bottom, d_Number_sign, d_Number_over, d_Number_add, d_Number_radd, d_Number_sub, d_Number_rsub, d_Number_mul, d_Number_rmul, d_Number_neg, d_Number_abs, d_Number_pow, d_Number_eq, d_Number_str, d_Number_repr, d_number_in, d_is_digits, d_l_spring, d_l_next, d_l_one, d_l_told, d_l_joined, d_l_right, d_l_zero, d_law]
def FA : List Tst := [tGlo "is_integer",
  tGlo "as_number",
  tGlo "_number_in",
  tGlo "_is_digits",
  tGlo "_law_spring",
  tGlo "_law_next",
  tGlo "_law_one",
  tGlo "_law_told",
  tGlo "_law_joined",
  tGlo "_law_right",
  tGlo "_law_zero",
  tGlo "law",
  tBlt "gcd" "math.gcd",
  tInt "MAX_POWER" 20,
  tFree "RuntimeError",
  tFree "ValueError",
  tFree "abs",
  tFree "all",
  tFree "bool",
  tFree "int",
  tFree "isinstance",
  tFree "len",
  tFree "max",
  tFree "min",
  tFree "property",
  tFree "range",
  tFree "repr",
  tFree "staticmethod",
  tFree "str",
  tGlo "InputError",
  tGlo "InvalidText",
  tGlo "InvalidCount",
  tGlo "NotANumber",
  tGlo "StateError",
  tGlo "DividedByZero",
  tGlo "Number",
  tCls "Number",
  tMkr "Number",
  tNoat "Number" "_top",
  tNoat "Number" "_bottom",
  tProp "Number" "top",
  tProp "Number" "bottom",
  tProp "Number" "sign",
  tMeth "Number" "__init__",
  tMeth "Number" "__str__",
  tMeth "Number" "__repr__",
  tMeth "Number" "over",
  tIns "Number",
  tKitO "Number" "Number" true,
  tKit "int" "Number" false,
  tKit "NoneType" "Number" false,
  tKit "bool" "Number" false,
  tKit "str" "Number" false,
  tKit "tuple" "Number" false,
  tKit "list" "Number" false,
  tKit "dict" "Number" false,
  tKitB "Number" "int" false,
  tBin "Number" "add",
  tBin "Number" "sub",
  tBin "Number" "mul",
  tBin "Number" "pow",
  tRbin "Number" "add",
  tRbin "Number" "sub",
  tRight "Number" "add" "int",
  tRight "Number" "add" "NoneType",
  tRight "Number" "add" "bool",
  tRight "Number" "add" "str",
  tRight "Number" "add" "tuple",
  tRight "Number" "add" "list",
  tRight "Number" "add" "dict",
  tRight "Number" "sub" "int",
  tRight "Number" "sub" "NoneType",
  tRight "Number" "sub" "bool",
  tRight "Number" "sub" "str",
  tRight "Number" "sub" "tuple",
  tRight "Number" "sub" "list",
  tRight "Number" "sub" "dict",
  tRight "Number" "mul" "int",
  tRight "Number" "mul" "NoneType",
  tRight "Number" "mul" "bool",
  tRight "Number" "mul" "str",
  tRight "Number" "mul" "tuple",
  tRight "Number" "mul" "list",
  tRight "Number" "mul" "dict",
  tRight "Number" "pow" "int",
  tNoOp "add" "NoneType",
  tNoOp "add" "dict",
  tNoOp "sub" "NoneType",
  tNoOp "sub" "dict",
  tOex "InvalidCount",
  tXfc "InvalidCount",
  tNof "InvalidCount" "value",
  tInit "InvalidCount",
  tExc "InvalidCount",
  tOex "NotANumber",
  tXfc "NotANumber",
  tNof "NotANumber" "value",
  tInit "NotANumber",
  tExc "NotANumber",
  tEx0 "DividedByZero" tlR "RuntimeError.__new__",
  tExc "DividedByZero",
  tExm "InvalidCount" "InputError" true,
  tExm "NotANumber" "InputError" true,
  tExm "DividedByZero" "InputError" false,
  tExm "DividedByZero" "DividedByZero" true,
  tKitO "InvalidCount" "InvalidCount" true,
  tKitO "NotANumber" "InvalidCount" false,
  tKitO "NotANumber" "NotANumber" true,
  tKitO "DividedByZero" "StateError" true,
  tKitB "InvalidCount" "ValueError" true,
  tKitB "DividedByZero" "RuntimeError" true]
abbrev Sy (K : Fr) : Prop := Says FA FN K
theorem f_glo_is_integer {K : Fr} (c : Sy K) : (tGlo "is_integer") K = true := c.tst 0
theorem f_glo_as_number {K : Fr} (c : Sy K) : (tGlo "as_number") K = true := c.tst 1
theorem f_glo_number_in {K : Fr} (c : Sy K) : (tGlo "_number_in") K = true := c.tst 2
theorem f_glo_is_digits {K : Fr} (c : Sy K) : (tGlo "_is_digits") K = true := c.tst 3
theorem f_glo_l_spring {K : Fr} (c : Sy K) : (tGlo "_law_spring") K = true := c.tst 4
theorem f_glo_l_next {K : Fr} (c : Sy K) : (tGlo "_law_next") K = true := c.tst 5
theorem f_glo_l_one {K : Fr} (c : Sy K) : (tGlo "_law_one") K = true := c.tst 6
theorem f_glo_l_told {K : Fr} (c : Sy K) : (tGlo "_law_told") K = true := c.tst 7
theorem f_glo_l_joined {K : Fr} (c : Sy K) : (tGlo "_law_joined") K = true := c.tst 8
theorem f_glo_l_right {K : Fr} (c : Sy K) : (tGlo "_law_right") K = true := c.tst 9
theorem f_glo_l_zero {K : Fr} (c : Sy K) : (tGlo "_law_zero") K = true := c.tst 10
theorem f_glo_law {K : Fr} (c : Sy K) : (tGlo "law") K = true := c.tst 11
theorem f_blt_gcd {K : Fr} (c : Sy K) : (tBlt "gcd" "math.gcd") K = true := c.tst 12
theorem f_int_MAX_POWER {K : Fr} (c : Sy K) : (tInt "MAX_POWER" 20) K = true := c.tst 13
theorem f_free_RuntimeError {K : Fr} (c : Sy K) : (tFree "RuntimeError") K = true := c.tst 14
theorem f_free_ValueError {K : Fr} (c : Sy K) : (tFree "ValueError") K = true := c.tst 15
theorem f_free_abs {K : Fr} (c : Sy K) : (tFree "abs") K = true := c.tst 16
theorem f_free_all {K : Fr} (c : Sy K) : (tFree "all") K = true := c.tst 17
theorem f_free_bool {K : Fr} (c : Sy K) : (tFree "bool") K = true := c.tst 18
theorem f_free_int {K : Fr} (c : Sy K) : (tFree "int") K = true := c.tst 19
theorem f_free_isinstance {K : Fr} (c : Sy K) : (tFree "isinstance") K = true := c.tst 20
theorem f_free_len {K : Fr} (c : Sy K) : (tFree "len") K = true := c.tst 21
theorem f_free_max {K : Fr} (c : Sy K) : (tFree "max") K = true := c.tst 22
theorem f_free_min {K : Fr} (c : Sy K) : (tFree "min") K = true := c.tst 23
theorem f_free_property {K : Fr} (c : Sy K) : (tFree "property") K = true := c.tst 24
theorem f_free_range {K : Fr} (c : Sy K) : (tFree "range") K = true := c.tst 25
theorem f_free_repr {K : Fr} (c : Sy K) : (tFree "repr") K = true := c.tst 26
theorem f_free_staticmethod {K : Fr} (c : Sy K) : (tFree "staticmethod") K = true := c.tst 27
theorem f_free_str {K : Fr} (c : Sy K) : (tFree "str") K = true := c.tst 28
theorem f_glo_InputError {K : Fr} (c : Sy K) : (tGlo "InputError") K = true := c.tst 29
theorem f_glo_InvalidText {K : Fr} (c : Sy K) : (tGlo "InvalidText") K = true := c.tst 30
theorem f_glo_InvalidCount {K : Fr} (c : Sy K) : (tGlo "InvalidCount") K = true := c.tst 31
theorem f_glo_NotANumber {K : Fr} (c : Sy K) : (tGlo "NotANumber") K = true := c.tst 32
theorem f_glo_StateError {K : Fr} (c : Sy K) : (tGlo "StateError") K = true := c.tst 33
theorem f_glo_DividedByZero {K : Fr} (c : Sy K) : (tGlo "DividedByZero") K = true := c.tst 34
theorem f_glo_Number {K : Fr} (c : Sy K) : (tGlo "Number") K = true := c.tst 35
theorem f_cls_Number {K : Fr} (c : Sy K) : (tCls "Number") K = true := c.tst 36
theorem f_mkr_Number {K : Fr} (c : Sy K) : (tMkr "Number") K = true := c.tst 37
theorem f_noat_top {K : Fr} (c : Sy K) : (tNoat "Number" "_top") K = true := c.tst 38
theorem f_noat_bot {K : Fr} (c : Sy K) : (tNoat "Number" "_bottom") K = true := c.tst 39
theorem f_prop_top {K : Fr} (c : Sy K) : (tProp "Number" "top") K = true := c.tst 40
theorem f_prop_bottom {K : Fr} (c : Sy K) : (tProp "Number" "bottom") K = true := c.tst 41
theorem f_prop_sign {K : Fr} (c : Sy K) : (tProp "Number" "sign") K = true := c.tst 42
theorem f_meth_init {K : Fr} (c : Sy K) : (tMeth "Number" "__init__") K = true := c.tst 43
theorem f_meth_str {K : Fr} (c : Sy K) : (tMeth "Number" "__str__") K = true := c.tst 44
theorem f_meth_repr {K : Fr} (c : Sy K) : (tMeth "Number" "__repr__") K = true := c.tst 45
theorem f_meth_over {K : Fr} (c : Sy K) : (tMeth "Number" "over") K = true := c.tst 46
theorem f_ins {K : Fr} (c : Sy K) : (tIns "Number") K = true := c.tst 47
theorem f_kitO {K : Fr} (c : Sy K) : (tKitO "Number" "Number" true) K = true := c.tst 48
theorem f_kit_int {K : Fr} (c : Sy K) : (tKit "int" "Number" false) K = true := c.tst 49
theorem f_kit_NoneType {K : Fr} (c : Sy K) : (tKit "NoneType" "Number" false) K = true := c.tst 50
theorem f_kit_bool {K : Fr} (c : Sy K) : (tKit "bool" "Number" false) K = true := c.tst 51
theorem f_kit_str {K : Fr} (c : Sy K) : (tKit "str" "Number" false) K = true := c.tst 52
theorem f_kit_tuple {K : Fr} (c : Sy K) : (tKit "tuple" "Number" false) K = true := c.tst 53
theorem f_kit_list {K : Fr} (c : Sy K) : (tKit "list" "Number" false) K = true := c.tst 54
theorem f_kit_dict {K : Fr} (c : Sy K) : (tKit "dict" "Number" false) K = true := c.tst 55
theorem f_kitB_int {K : Fr} (c : Sy K) : (tKitB "Number" "int" false) K = true := c.tst 56
theorem f_bin_add {K : Fr} (c : Sy K) : (tBin "Number" "add") K = true := c.tst 57
theorem f_bin_sub {K : Fr} (c : Sy K) : (tBin "Number" "sub") K = true := c.tst 58
theorem f_bin_mul {K : Fr} (c : Sy K) : (tBin "Number" "mul") K = true := c.tst 59
theorem f_bin_pow {K : Fr} (c : Sy K) : (tBin "Number" "pow") K = true := c.tst 60
theorem f_rbin_add {K : Fr} (c : Sy K) : (tRbin "Number" "add") K = true := c.tst 61
theorem f_rbin_sub {K : Fr} (c : Sy K) : (tRbin "Number" "sub") K = true := c.tst 62
theorem f_right_add_int {K : Fr} (c : Sy K) : (tRight "Number" "add" "int") K = true := c.tst 63
theorem f_right_add_NoneType {K : Fr} (c : Sy K) : (tRight "Number" "add" "NoneType") K = true := c.tst 64
theorem f_right_add_bool {K : Fr} (c : Sy K) : (tRight "Number" "add" "bool") K = true := c.tst 65
theorem f_right_add_str {K : Fr} (c : Sy K) : (tRight "Number" "add" "str") K = true := c.tst 66
theorem f_right_add_tuple {K : Fr} (c : Sy K) : (tRight "Number" "add" "tuple") K = true := c.tst 67
theorem f_right_add_list {K : Fr} (c : Sy K) : (tRight "Number" "add" "list") K = true := c.tst 68
theorem f_right_add_dict {K : Fr} (c : Sy K) : (tRight "Number" "add" "dict") K = true := c.tst 69
theorem f_right_sub_int {K : Fr} (c : Sy K) : (tRight "Number" "sub" "int") K = true := c.tst 70
theorem f_right_sub_NoneType {K : Fr} (c : Sy K) : (tRight "Number" "sub" "NoneType") K = true := c.tst 71
theorem f_right_sub_bool {K : Fr} (c : Sy K) : (tRight "Number" "sub" "bool") K = true := c.tst 72
theorem f_right_sub_str {K : Fr} (c : Sy K) : (tRight "Number" "sub" "str") K = true := c.tst 73
theorem f_right_sub_tuple {K : Fr} (c : Sy K) : (tRight "Number" "sub" "tuple") K = true := c.tst 74
theorem f_right_sub_list {K : Fr} (c : Sy K) : (tRight "Number" "sub" "list") K = true := c.tst 75
theorem f_right_sub_dict {K : Fr} (c : Sy K) : (tRight "Number" "sub" "dict") K = true := c.tst 76
theorem f_right_mul_int {K : Fr} (c : Sy K) : (tRight "Number" "mul" "int") K = true := c.tst 77
theorem f_right_mul_NoneType {K : Fr} (c : Sy K) : (tRight "Number" "mul" "NoneType") K = true := c.tst 78
theorem f_right_mul_bool {K : Fr} (c : Sy K) : (tRight "Number" "mul" "bool") K = true := c.tst 79
theorem f_right_mul_str {K : Fr} (c : Sy K) : (tRight "Number" "mul" "str") K = true := c.tst 80
theorem f_right_mul_tuple {K : Fr} (c : Sy K) : (tRight "Number" "mul" "tuple") K = true := c.tst 81
theorem f_right_mul_list {K : Fr} (c : Sy K) : (tRight "Number" "mul" "list") K = true := c.tst 82
theorem f_right_mul_dict {K : Fr} (c : Sy K) : (tRight "Number" "mul" "dict") K = true := c.tst 83
theorem f_right_pow_int {K : Fr} (c : Sy K) : (tRight "Number" "pow" "int") K = true := c.tst 84
theorem f_noop_add_NoneType {K : Fr} (c : Sy K) : (tNoOp "add" "NoneType") K = true := c.tst 85
theorem f_noop_add_dict {K : Fr} (c : Sy K) : (tNoOp "add" "dict") K = true := c.tst 86
theorem f_noop_sub_NoneType {K : Fr} (c : Sy K) : (tNoOp "sub" "NoneType") K = true := c.tst 87
theorem f_noop_sub_dict {K : Fr} (c : Sy K) : (tNoOp "sub" "dict") K = true := c.tst 88
theorem f_oex_InvalidCount {K : Fr} (c : Sy K) : (tOex "InvalidCount") K = true := c.tst 89
theorem f_xfc_InvalidCount {K : Fr} (c : Sy K) : (tXfc "InvalidCount") K = true := c.tst 90
theorem f_nof_InvalidCount {K : Fr} (c : Sy K) : (tNof "InvalidCount" "value") K = true := c.tst 91
theorem f_init_InvalidCount {K : Fr} (c : Sy K) : (tInit "InvalidCount") K = true := c.tst 92
theorem f_exc_InvalidCount {K : Fr} (c : Sy K) : (tExc "InvalidCount") K = true := c.tst 93
theorem f_oex_NotANumber {K : Fr} (c : Sy K) : (tOex "NotANumber") K = true := c.tst 94
theorem f_xfc_NotANumber {K : Fr} (c : Sy K) : (tXfc "NotANumber") K = true := c.tst 95
theorem f_nof_NotANumber {K : Fr} (c : Sy K) : (tNof "NotANumber" "value") K = true := c.tst 96
theorem f_init_NotANumber {K : Fr} (c : Sy K) : (tInit "NotANumber") K = true := c.tst 97
theorem f_exc_NotANumber {K : Fr} (c : Sy K) : (tExc "NotANumber") K = true := c.tst 98
theorem f_ex0_zero {K : Fr} (c : Sy K) : (tEx0 "DividedByZero" tlR "RuntimeError.__new__") K = true := c.tst 99
theorem f_exc_zero {K : Fr} (c : Sy K) : (tExc "DividedByZero") K = true := c.tst 100
theorem f_exm_InvalidCount_InputError {K : Fr} (c : Sy K) : (tExm "InvalidCount" "InputError" true) K = true := c.tst 101
theorem f_exm_NotANumber_InputError {K : Fr} (c : Sy K) : (tExm "NotANumber" "InputError" true) K = true := c.tst 102
theorem f_exm_DividedByZero_InputError {K : Fr} (c : Sy K) : (tExm "DividedByZero" "InputError" false) K = true := c.tst 103
theorem f_exm_DividedByZero_DividedByZero {K : Fr} (c : Sy K) : (tExm "DividedByZero" "DividedByZero" true) K = true := c.tst 104
theorem f_kit_InvalidCount_InvalidCount {K : Fr} (c : Sy K) : (tKitO "InvalidCount" "InvalidCount" true) K = true := c.tst 105
theorem f_kit_NotANumber_InvalidCount {K : Fr} (c : Sy K) : (tKitO "NotANumber" "InvalidCount" false) K = true := c.tst 106
theorem f_kit_NotANumber_NotANumber {K : Fr} (c : Sy K) : (tKitO "NotANumber" "NotANumber" true) K = true := c.tst 107
theorem f_kit_DividedByZero_StateError {K : Fr} (c : Sy K) : (tKitO "DividedByZero" "StateError" true) K = true := c.tst 108
theorem f_kitB_InvalidCount_ve {K : Fr} (c : Sy K) : (tKitB "InvalidCount" "ValueError" true) K = true := c.tst 109
theorem f_kitB_zero_re {K : Fr} (c : Sy K) : (tKitB "DividedByZero" "RuntimeError" true) K = true := c.tst 110
structure Tx (K : Fr) (mg : Str → Option Value) : Prop where
  c : Sy K
  g : ∃ h, K.In h ∧ h.Ns mainGlobals mg
theorem g_is_integer {K : Fr} {mg : Str → Option Value} (T : Tx K mg) : mg "is_integer" = some (.ref (gAd "is_integer" K)) := by
  obtain ⟨h, X, G⟩ := T.g
  exact He.glo_ok X G (f_glo_is_integer T.c)
theorem g_as_number {K : Fr} {mg : Str → Option Value} (T : Tx K mg) : mg "as_number" = some (.ref (gAd "as_number" K)) := by
  obtain ⟨h, X, G⟩ := T.g
  exact He.glo_ok X G (f_glo_as_number T.c)
theorem g_number_in {K : Fr} {mg : Str → Option Value} (T : Tx K mg) : mg "_number_in" = some (.ref (gAd "_number_in" K)) := by
  obtain ⟨h, X, G⟩ := T.g
  exact He.glo_ok X G (f_glo_number_in T.c)
theorem g_is_digits {K : Fr} {mg : Str → Option Value} (T : Tx K mg) : mg "_is_digits" = some (.ref (gAd "_is_digits" K)) := by
  obtain ⟨h, X, G⟩ := T.g
  exact He.glo_ok X G (f_glo_is_digits T.c)
theorem g_l_spring {K : Fr} {mg : Str → Option Value} (T : Tx K mg) : mg "_law_spring" = some (.ref (gAd "_law_spring" K)) := by
  obtain ⟨h, X, G⟩ := T.g
  exact He.glo_ok X G (f_glo_l_spring T.c)
theorem g_l_next {K : Fr} {mg : Str → Option Value} (T : Tx K mg) : mg "_law_next" = some (.ref (gAd "_law_next" K)) := by
  obtain ⟨h, X, G⟩ := T.g
  exact He.glo_ok X G (f_glo_l_next T.c)
theorem g_l_one {K : Fr} {mg : Str → Option Value} (T : Tx K mg) : mg "_law_one" = some (.ref (gAd "_law_one" K)) := by
  obtain ⟨h, X, G⟩ := T.g
  exact He.glo_ok X G (f_glo_l_one T.c)
theorem g_l_told {K : Fr} {mg : Str → Option Value} (T : Tx K mg) : mg "_law_told" = some (.ref (gAd "_law_told" K)) := by
  obtain ⟨h, X, G⟩ := T.g
  exact He.glo_ok X G (f_glo_l_told T.c)
theorem g_l_joined {K : Fr} {mg : Str → Option Value} (T : Tx K mg) : mg "_law_joined" = some (.ref (gAd "_law_joined" K)) := by
  obtain ⟨h, X, G⟩ := T.g
  exact He.glo_ok X G (f_glo_l_joined T.c)
theorem g_l_right {K : Fr} {mg : Str → Option Value} (T : Tx K mg) : mg "_law_right" = some (.ref (gAd "_law_right" K)) := by
  obtain ⟨h, X, G⟩ := T.g
  exact He.glo_ok X G (f_glo_l_right T.c)
theorem g_l_zero {K : Fr} {mg : Str → Option Value} (T : Tx K mg) : mg "_law_zero" = some (.ref (gAd "_law_zero" K)) := by
  obtain ⟨h, X, G⟩ := T.g
  exact He.glo_ok X G (f_glo_l_zero T.c)
theorem g_law {K : Fr} {mg : Str → Option Value} (T : Tx K mg) : mg "law" = some (.ref (gAd "law" K)) := by
  obtain ⟨h, X, G⟩ := T.g
  exact He.glo_ok X G (f_glo_law T.c)
theorem m_gcd {K : Fr} {mg : Str → Option Value} (T : Tx K mg) : mg "gcd" = some (.builtin "math.gcd") := by
  obtain ⟨h, X, G⟩ := T.g
  exact blt_ok X G (f_blt_gcd T.c)
theorem i_MAX_POWER {K : Fr} {mg : Str → Option Value} (T : Tx K mg) : ∃ t, mg "MAX_POWER" = some (.int 20 t) := by
  obtain ⟨h, X, G⟩ := T.g
  exact He.int_ok X G (f_int_MAX_POWER T.c)
theorem n_RuntimeError {K : Fr} {mg : Str → Option Value} (T : Tx K mg) : mg "RuntimeError" = none := by
  obtain ⟨h, X, G⟩ := T.g
  exact He.free_ok X G (f_free_RuntimeError T.c)
theorem n_ValueError {K : Fr} {mg : Str → Option Value} (T : Tx K mg) : mg "ValueError" = none := by
  obtain ⟨h, X, G⟩ := T.g
  exact He.free_ok X G (f_free_ValueError T.c)
theorem n_abs {K : Fr} {mg : Str → Option Value} (T : Tx K mg) : mg "abs" = none := by
  obtain ⟨h, X, G⟩ := T.g
  exact He.free_ok X G (f_free_abs T.c)
theorem n_all {K : Fr} {mg : Str → Option Value} (T : Tx K mg) : mg "all" = none := by
  obtain ⟨h, X, G⟩ := T.g
  exact He.free_ok X G (f_free_all T.c)
theorem n_bool {K : Fr} {mg : Str → Option Value} (T : Tx K mg) : mg "bool" = none := by
  obtain ⟨h, X, G⟩ := T.g
  exact He.free_ok X G (f_free_bool T.c)
theorem n_int {K : Fr} {mg : Str → Option Value} (T : Tx K mg) : mg "int" = none := by
  obtain ⟨h, X, G⟩ := T.g
  exact He.free_ok X G (f_free_int T.c)
theorem n_isinstance {K : Fr} {mg : Str → Option Value} (T : Tx K mg) : mg "isinstance" = none := by
  obtain ⟨h, X, G⟩ := T.g
  exact He.free_ok X G (f_free_isinstance T.c)
theorem n_len {K : Fr} {mg : Str → Option Value} (T : Tx K mg) : mg "len" = none := by
  obtain ⟨h, X, G⟩ := T.g
  exact He.free_ok X G (f_free_len T.c)
theorem n_max {K : Fr} {mg : Str → Option Value} (T : Tx K mg) : mg "max" = none := by
  obtain ⟨h, X, G⟩ := T.g
  exact He.free_ok X G (f_free_max T.c)
theorem n_min {K : Fr} {mg : Str → Option Value} (T : Tx K mg) : mg "min" = none := by
  obtain ⟨h, X, G⟩ := T.g
  exact He.free_ok X G (f_free_min T.c)
theorem n_property {K : Fr} {mg : Str → Option Value} (T : Tx K mg) : mg "property" = none := by
  obtain ⟨h, X, G⟩ := T.g
  exact He.free_ok X G (f_free_property T.c)
theorem n_range {K : Fr} {mg : Str → Option Value} (T : Tx K mg) : mg "range" = none := by
  obtain ⟨h, X, G⟩ := T.g
  exact He.free_ok X G (f_free_range T.c)
theorem n_repr {K : Fr} {mg : Str → Option Value} (T : Tx K mg) : mg "repr" = none := by
  obtain ⟨h, X, G⟩ := T.g
  exact He.free_ok X G (f_free_repr T.c)
theorem n_staticmethod {K : Fr} {mg : Str → Option Value} (T : Tx K mg) : mg "staticmethod" = none := by
  obtain ⟨h, X, G⟩ := T.g
  exact He.free_ok X G (f_free_staticmethod T.c)
theorem n_str {K : Fr} {mg : Str → Option Value} (T : Tx K mg) : mg "str" = none := by
  obtain ⟨h, X, G⟩ := T.g
  exact He.free_ok X G (f_free_str T.c)
theorem g_InputError {K : Fr} {mg : Str → Option Value} (T : Tx K mg) : mg "InputError" = some (.ref (gAd "InputError" K)) := by
  obtain ⟨h, X, G⟩ := T.g
  exact He.glo_ok X G (f_glo_InputError T.c)
theorem g_InvalidText {K : Fr} {mg : Str → Option Value} (T : Tx K mg) : mg "InvalidText" = some (.ref (gAd "InvalidText" K)) := by
  obtain ⟨h, X, G⟩ := T.g
  exact He.glo_ok X G (f_glo_InvalidText T.c)
theorem g_InvalidCount {K : Fr} {mg : Str → Option Value} (T : Tx K mg) : mg "InvalidCount" = some (.ref (gAd "InvalidCount" K)) := by
  obtain ⟨h, X, G⟩ := T.g
  exact He.glo_ok X G (f_glo_InvalidCount T.c)
theorem g_NotANumber {K : Fr} {mg : Str → Option Value} (T : Tx K mg) : mg "NotANumber" = some (.ref (gAd "NotANumber" K)) := by
  obtain ⟨h, X, G⟩ := T.g
  exact He.glo_ok X G (f_glo_NotANumber T.c)
theorem g_StateError {K : Fr} {mg : Str → Option Value} (T : Tx K mg) : mg "StateError" = some (.ref (gAd "StateError" K)) := by
  obtain ⟨h, X, G⟩ := T.g
  exact He.glo_ok X G (f_glo_StateError T.c)
theorem g_DividedByZero {K : Fr} {mg : Str → Option Value} (T : Tx K mg) : mg "DividedByZero" = some (.ref (gAd "DividedByZero" K)) := by
  obtain ⟨h, X, G⟩ := T.g
  exact He.glo_ok X G (f_glo_DividedByZero T.c)
theorem g_Number {K : Fr} {mg : Str → Option Value} (T : Tx K mg) : mg "Number" = some (.ref (gAd "Number" K)) := by
  obtain ⟨h, X, G⟩ := T.g
  exact He.glo_ok X G (f_glo_Number T.c)
theorem a_InvalidText_init {K : Fr} (c : Sy K) : ∃ fd, DAt K d_InvalidText_init fd := c.dat 0
theorem a_InvalidCount_init {K : Fr} (c : Sy K) : ∃ fd, DAt K d_InvalidCount_init fd := c.dat 1
theorem a_NotANumber_init {K : Fr} (c : Sy K) : ∃ fd, DAt K d_NotANumber_init fd := c.dat 2
theorem a_is_integer {K : Fr} (c : Sy K) : ∃ fd, DAt K d_is_integer fd := c.dat 3
theorem a_as_number {K : Fr} (c : Sy K) : ∃ fd, DAt K d_as_number fd := c.dat 4
theorem a_Number_init {K : Fr} (c : Sy K) : ∃ fd, DAt K d_Number_init fd := c.dat 5
theorem a_Number_read {K : Fr} (c : Sy K) : ∃ fd, DAt K d_Number_read fd := c.dat 6
theorem a_Number_top {K : Fr} (c : Sy K) : ∃ fd, DAt K d_Number_top fd := c.dat 7
theorem a_Number_bottom {K : Fr} (c : Sy K) : ∃ fd, DAt K d_Number_bottom fd := c.dat 8
theorem a_Number_sign {K : Fr} (c : Sy K) : ∃ fd, DAt K d_Number_sign fd := c.dat 9
theorem a_Number_over {K : Fr} (c : Sy K) : ∃ fd, DAt K d_Number_over fd := c.dat 10
theorem a_Number_add {K : Fr} (c : Sy K) : ∃ fd, DAt K d_Number_add fd := c.dat 11
theorem a_Number_radd {K : Fr} (c : Sy K) : ∃ fd, DAt K d_Number_radd fd := c.dat 12
theorem a_Number_sub {K : Fr} (c : Sy K) : ∃ fd, DAt K d_Number_sub fd := c.dat 13
theorem a_Number_rsub {K : Fr} (c : Sy K) : ∃ fd, DAt K d_Number_rsub fd := c.dat 14
theorem a_Number_mul {K : Fr} (c : Sy K) : ∃ fd, DAt K d_Number_mul fd := c.dat 15
theorem a_Number_rmul {K : Fr} (c : Sy K) : ∃ fd, DAt K d_Number_rmul fd := c.dat 16
theorem a_Number_neg {K : Fr} (c : Sy K) : ∃ fd, DAt K d_Number_neg fd := c.dat 17
theorem a_Number_abs {K : Fr} (c : Sy K) : ∃ fd, DAt K d_Number_abs fd := c.dat 18
theorem a_Number_pow {K : Fr} (c : Sy K) : ∃ fd, DAt K d_Number_pow fd := c.dat 19
theorem a_Number_eq {K : Fr} (c : Sy K) : ∃ fd, DAt K d_Number_eq fd := c.dat 20
theorem a_Number_str {K : Fr} (c : Sy K) : ∃ fd, DAt K d_Number_str fd := c.dat 21
theorem a_Number_repr {K : Fr} (c : Sy K) : ∃ fd, DAt K d_Number_repr fd := c.dat 22
theorem a_number_in {K : Fr} (c : Sy K) : ∃ fd, DAt K d_number_in fd := c.dat 23
theorem a_is_digits {K : Fr} (c : Sy K) : ∃ fd, DAt K d_is_digits fd := c.dat 24
theorem a_l_spring {K : Fr} (c : Sy K) : ∃ fd, DAt K d_l_spring fd := c.dat 25
theorem a_l_next {K : Fr} (c : Sy K) : ∃ fd, DAt K d_l_next fd := c.dat 26
theorem a_l_one {K : Fr} (c : Sy K) : ∃ fd, DAt K d_l_one fd := c.dat 27
theorem a_l_told {K : Fr} (c : Sy K) : ∃ fd, DAt K d_l_told fd := c.dat 28
theorem a_l_joined {K : Fr} (c : Sy K) : ∃ fd, DAt K d_l_joined fd := c.dat 29
theorem a_l_right {K : Fr} (c : Sy K) : ∃ fd, DAt K d_l_right fd := c.dat 30
theorem a_l_zero {K : Fr} (c : Sy K) : ∃ fd, DAt K d_l_zero fd := c.dat 31
theorem a_law {K : Fr} (c : Sy K) : ∃ fd, DAt K d_law fd := c.dat 32
abbrev R : PySem.W.OpenRow := PySem.W.OpenLaw.row PySem.Challenge.rw_delaynets_k04_numbers_refused
abbrev TS : List Dx := [d_l_right]
abbrev hk : PySem.W.Hook := hookT 5 FA FN TS
def ob (s : PySem.W.SharedT) : Al3 := lookT 5 FA FN TS (HeadRun.getT s)
theorem ob_eq (s : PySem.W.SharedT) : ob s = hk.obs s.abs := lookT_eq (HeadRun.getT_eq s)
def loose0 : List Str := ["InputError", "InvalidText", "InvalidCount", "NotANumber", "StateError", "DividedByZero", "MAX_POWER", "is_integer", "as_number", "Number", "_number_in", "_is_digits", "_law_spring", "_law_next", "_law_one", "_law_told", "_law_joined", "_law_right", "_law_zero"]
abbrev loose : List Str := loose0
abbrev qv : Program := PySem.W.view R.prog [0, 23]
abbrev lawAt : Nat := 23
end K04

namespace K04
open PySem PySem.Spec PyProof.Rows L2 Hk NumM NumT SX
open TL (numL)
section
variable {P : Program} {w : World} {K : Fr} {mg : Str → Option Value} {base : Heap}
/-- a spring's list: the digits left, the state, the count -/
structure Spr (d e c : Int) : Prop where
  d0 : 0 ≤ d
  e0 : 0 ≤ e
  e1 : e < 1000000007
  c0 : 0 ≤ c
def sprL (d e c : Int) : List V := [.int d, .int e, .int c]
/-- draws a number below many, turns the spring's list alone -/
def spNext : Sp := fun vs H Q _ => ∃ (a : Addr) (m d e c : Int), vs = [.ref a, .int m] ∧ H a = some (.lst (sprL d e c)) ∧ Spr d e c ∧ 0 < m ∧ m.natAbs < 2 ^ 200 ∧
  ∀ (v d' e' c' : Int), 0 ≤ v → v < m → Spr d' e' c' → Q (.int v) (upd H a (.lst (sprL d' e' c')))
theorem c_next (T : Tx K mg) : Cal P w K mg base 1 "_law_next" (gAd "_law_next" K) ["_law_spring_here", "_law_many"] spNext := by
  refine cal_of (d := d_l_next) (N := ["_law_spring_here", "_law_many", "_law_digit", "_law_state"]) (a_l_next T.c) rfl sc_l_next (g_l_next T) (fun _ _ _ _ _ _ us hl => match us, hl with | [_, _], _ => rfl) (fun vs H Q E h => ?_) (fun cdv A outer s H vs Q E hr h => ?_)
  · obtain ⟨a, m, d, e, c, rfl, _⟩ := h
    rfl
  · obtain ⟨a, m, d, e, c, rfl, hH, hs, hm, hm2, k⟩ := h
    refine ⟨_, pss_cons (ps_asg (pe_op op_add (pe_ix ix_list (pv 0) pe_int (fun _ _ => rfl)) pe_int) (pg_sub (pv 0) pe_int set_list))
      (pss_cons (ps_if (pt_cmpR op_gt (pe_ix ix_list (pv 0) pe_int (fun _ _ => rfl)) pe_int (nomark _))
        (pss_cons (ps_set (i := 2) sc_l_next.nd rfl (.inl rfl) (pe_op op_modN (pe_callTy call_int1 (by rfl) (n_int T) bo_int (pa_cons (pe_ix ix_list (pv 0) pe_int (fun _ _ => rfl)) pa_nil)) (pv 1)))
        (pss_cons (ps_asg (pe_op op_fdivW (pe_ix ix_list (pv 0) pe_int (fun _ _ => rfl)) (pv 1)) (pg_sub (pv 0) pe_int set_list))
        (pss_one (ps_ret (pv 2))))) pss_nil)
      (pss_cons (ps_set (i := 3) sc_l_next.nd rfl (.inl rfl) (pe_callTy call_int1 (by rfl) (n_int T) bo_int (pa_cons (pe_ix ix_list (pv 0) pe_int (fun _ _ => rfl)) pa_nil)))
      (pss_cons (ps_asg (pe_op op_mod (pe_callTy call_int1 (by rfl) (n_int T) bo_int (pa_cons
          (pe_op op_add (pe_op op_add (pe_op op_mul (pv 3) (pe_op op_add (pe_op op_mod (pv 3) pe_int) pe_int)) (pe_op op_mul pe_int (pe_ix ix_list (pv 0) pe_int (fun _ _ => rfl)))) pe_int) pa_nil)) pe_int) (pg_sub (pv 0) pe_int set_list))
      (pss_one (ps_ret (pe_op op_modN (pe_callTy call_int1 (by rfl) (n_int T) bo_int (pa_cons (pe_op op_fdiv (pe_ix ix_list (pv 0) pe_int (fun _ _ => rfl)) pe_int) pa_nil)) (pv 1))))))), ?_⟩
    refine ⟨_, rfl, a, _, 2, _, rfl, rfl, .inl (.inl hH), rfl, c, 1, rfl, rfl, _, rfl, a, _, 2, 2, rfl, rfl, hH, rfl, ?_⟩
    -- h[0] > 0
    refine ⟨_, rfl, a, _, 0, _, rfl, rfl, .inl (.inl upd_same), rfl, _, _, rfl, rfl, _, rfl, ?_⟩
    refine ite2 (fun hd => ?_) (fun hd => ?_)
    · have hd : 0 < d := of_decide_eq_true hd
      refine ⟨_, rfl, a, _, 0, _, rfl, rfl, .inl (.inl upd_same), rfl, .inl ⟨_, rfl, _, rfl, _, _, rfl, rfl, (by omega), ?_⟩⟩
      refine ⟨_, rfl, a, _, 0, _, rfl, rfl, .inl (.inl upd_same), rfl, _, rfl, _, _, rfl, rfl, wide_div hm hm2 (by decide) (by decide), _, rfl, a, _, 0, 0, rfl, rfl, upd_same, rfl, ?_⟩
      refine ⟨_, rfl, ?_⟩
      show Q _ _
      rw [upd_upd]
      refine k _ (d / m) e (c + 1) (Int.fmod_nonneg_of_pos _ hm) (Int.fmod_lt_of_pos _ hm) ⟨Int.ediv_nonneg hs.d0 (by omega), hs.e0, hs.e1, by have := hs.c0; omega⟩
    · refine ⟨_, rfl, a, _, 1, _, rfl, rfl, .inl (.inl upd_same), rfl, .inl ⟨_, rfl, ?_⟩⟩
      refine ⟨_, rfl, _, rfl, _, _, rfl, rfl, (by show (0 : Int) < 65521; decide), _, _, rfl, rfl, _, _, rfl, rfl, .inl ⟨by have := hs.e0; omega, by have := hs.e1; omega⟩, ?_⟩
      refine ⟨_, rfl, a, _, 2, _, rfl, rfl, .inl (.inl upd_same), rfl, _, _, rfl, rfl, .inl ⟨by decide, by decide⟩, _, _, rfl, rfl, _, _, rfl, rfl, .inl ⟨_, rfl, _, _, rfl, rfl, (by show (0 : Int) < 1000000007; decide), _, rfl, a, _, 1, 1, rfl, rfl, upd_same, rfl, ?_⟩⟩
      refine ⟨_, rfl, a, _, 1, _, rfl, rfl, .inl (.inl upd_same), rfl, _, _, rfl, rfl, ⟨by decide, by decide⟩, .inl ⟨_, rfl, _, rfl, _, _, rfl, rfl, (by omega), ?_⟩⟩
      show Q _ _
      rw [upd_upd]
      exact k _ d _ (c + 1) (Int.fmod_nonneg_of_pos _ hm) (Int.fmod_lt_of_pos _ hm) ⟨hs.d0, Int.emod_nonneg _ (by decide), Int.emod_lt_of_pos _ (by decide), by have := hs.c0; omega⟩
/-- an item of a list is drawn -/
def spOne : Sp := fun vs H Q _ => ∃ (a q : Addr) (d e c : Int) (xs : List V), vs = [.ref a, .ref q] ∧ H a = some (.lst (sprL d e c)) ∧ Spr d e c ∧ H q = some (.lst xs) ∧ a ≠ q ∧ xs ≠ [] ∧ xs.length ≤ 1000 ∧
  ∀ (x : V) (d' e' c' : Int), x ∈ xs → Spr d' e' c' → Q x (upd H a (.lst (sprL d' e' c')))
theorem c_one (T : Tx K mg) : Cal P w K mg base 2 "_law_one" (gAd "_law_one" K) ["_law_spring_here", "_law_things"] spOne := by
  have C_l_next := c_next (P := P) (w := w) (base := base) T
  refine cal_of (d := d_l_one) (N := ["_law_spring_here", "_law_things"]) (a_l_one T.c) rfl sc_l_one (g_l_one T) (fun _ _ _ _ _ _ us hl => match us, hl with | [_, _], _ => rfl) (fun vs H Q E h => ?_) (fun cdv A outer s H vs Q E hr h => ?_)
  · obtain ⟨a, q, d, e, c, xs, rfl, _⟩ := h
    rfl
  · obtain ⟨a, q, d, e, c, xs, rfl, ha, hs, hq, ne, nx, hl, k⟩ := h
    have lp : 0 < xs.length := List.length_pos_iff.mpr nx
    refine ⟨_, (pss_one (ps_ret (pe_ix ix_list (pv 1) (pe_c C_l_next hr (pa_cons (pv 0) (pa_cons (pe_callB call_len_seq (by rfl) (n_len T) bo_len (pa_cons (pv 1) pa_nil)) pa_nil))) (fun _ _ => rfl)))), ?_⟩
    refine ⟨_, rfl, _, rfl, _, rfl, q, xs, rfl, .inl (.inl (.inl hq)), a, _, d, e, c, rfl, ha, hs, by omega, ?_, fun v d' e' c' h0 h1 hs' => ?_⟩
    · have : ((xs.length : Nat) : Int).natAbs = xs.length := by omega
      rw [this]
      exact Nat.lt_of_le_of_lt hl (by decide +kernel)
    · obtain ⟨j, rfl⟩ := Int.eq_ofNat_of_zero_le h0
      have hj : j < xs.length := by omega
      have hx : xs[j]? = some xs[j] := by simp [hj]
      exact ⟨q, xs, _, xs[j], rfl, rfl, .inl (.inl (by rw [upd_ne (Ne.symm ne)]; exact hq)), atI_nat hx, k _ d' e' c' (List.getElem_mem hj) hs'⟩
abbrev CN (K : Fr) : Addr := He.ga K "Number"
theorem c_isint (T : Tx K mg) : Cal P w K mg base 1 "is_integer" (gAd "is_integer" K) ["value"] spIsInt := by
  refine cal_of (d := d_is_integer) (N := ["value"]) (a_is_integer T.c) rfl sc_is_integer (g_is_integer T) (fun _ _ _ _ _ _ us hl => match us, hl with | [_], _ => rfl) (fun vs H Q E h => ?_) (fun cdv A outer s H vs Q E hr h => ?_)
  · obtain ⟨i, rfl, _⟩ := h
    rfl
  · obtain ⟨i, rfl, k⟩ := h
    refine ⟨_, (pss_one (ps_ret (pe_and (pe_callB call_isi (by rfl) (n_isinstance T) bo_isinstance (pa_cons (pv 0) (pa_cons (pe_bltn (v := .ty "int") (by rfl) (n_int T) (by decide +kernel) rfl) pa_nil)))
      (pe_one (pe_not (pe_callB call_isi (by rfl) (n_isinstance T) bo_isinstance (pa_cons (pv 0) (pa_cons (pe_bltn (v := .ty "bool") (by rfl) (n_bool T) (by decide +kernel) rfl) pa_nil)))))))), ?_⟩
    refine ⟨_, rfl, _, _, .type "int", .type "int", true, rfl, .ty _, .base (.int i), kit_ty (by decide +kernel), true, rfl, iteT ?_⟩
    exact ⟨_, rfl, _, _, .type "int", .type "bool", false, rfl, .ty _, .base (.int i), kit_ty (by decide +kernel), false, rfl, k⟩
theorem f_init (T : Tx K mg) : ∃ fd, DAt K d_Number_init fd ∧ FnOk P w K mg base CX0 2 (d_Number_init.ad K) fd ["self", "top", "bottom"] (spInit (CN K)) := by
  obtain ⟨fd, D⟩ := a_Number_init T.c
  have C_is_integer := c_isint (P := P) (w := w) (base := base) T
  refine ⟨fd, D, ok_of (N := ["self", "top", "bottom", "shared"]) D sc_Number_init (fun vs H Q E h => ?_) (fun cdv A outer s H vs Q E hr h => ?_)⟩
  · obtain ⟨p, dx, h, b, rfl, _⟩ := h
    rfl
  · obtain ⟨p, dx, h, b, rfl, hp, hb, sb, k⟩ := h
    refine ⟨_, (pss_cons (ps_if (pt_not (pt_val (pe_c C_is_integer hr (pa_cons (pv 1) pa_nil)))) (pss_one ps_never) pss_nil)
      (pss_cons (ps_if (pt_not (pt_val (pe_c C_is_integer hr (pa_cons (pv 2) pa_nil)))) (pss_one ps_never) pss_nil)
      (pss_cons (ps_if (pt_cmpR op_eq (pv 2) pe_int (nomark _)) (pss_one ps_never) pss_nil)
      (pss_cons (ps_set (i := 3) sc_Number_init.nd rfl (.inl rfl) (pe_callBfun cr_gcd rfl (m_gcd T) (pa_cons (pv 1) (pa_cons (pv 2) pa_nil))))
      (pss_cons (ps_if (pt_cmpR op_lt (pv 2) pe_int (nomark _)) (pss_one (ps_set (i := 3) sc_Number_init.nd rfl (.inl rfl) (pe_un un_neg (pv 3)))) pss_nil)
      (pss_cons (ps_fld (pv 0) (pe_op op_fdivG (pv 1) (pv 3)) rfl)
      (pss_one (ps_fld (pv 0) (pe_op op_fdivG (pv 2) (pv 3)) rfl)))))))), ?_⟩
    refine ⟨_, rfl, h, rfl, _, rfl, iteF ?_⟩
    refine ⟨_, rfl, b, rfl, _, rfl, iteF ?_⟩
    refine ⟨_, rfl, rfl, _, rfl, ?_⟩
    refine ite2 (fun z => absurd (V.int.inj (of_decide_eq_true z)) hb) (fun _ => ?_)
    refine ⟨_, rfl, _, rfl, h, b, rfl, ?_⟩
    have cl := He.cls_ok (f_cls_Number T.c)
    have sz : CDivG h (shr h b) := ⟨shr_ne hb, by
      have := log2_sz (i := shr h b) (Nat.lt_of_le_of_lt (shr_le (h := h) hb) sb)
      omega⟩
    have szb : CDivG b (shr h b) := sz
    refine ⟨_, rfl, _, _, rfl, rfl, _, rfl, ?_⟩
    have fin : ∀ x : Int, x = shr h b → (fun (σ : L2.St) (H : Hp) => L2.tSeq (sFld K (tVar 0) (tOp (rI CDivG fun i j => .int (i.fdiv j)) (tVar 1) (tVar 3)) "_top") (sFld K (tVar 0) (tOp (rI CDivG fun i j => .int (i.fdiv j)) (tVar 2) (tVar 3)) "_bottom") { nx := fun _ H' => Q .non H', rt := Q } σ H) [some (.ref p), some (.int h), some (.int b), some (.int x)] H := by
      rintro x rfl
      refine ⟨_, rfl, _, rfl, h, _, rfl, rfl, sz, _, rfl, p, CN K, dx, _, rfl, hp, cl, He.noat_ok (f_noat_top T.c), (by show 0 < 1000; decide), ?_⟩
      refine ⟨_, rfl, _, rfl, b, _, rfl, rfl, szb, _, rfl, p, CN K, dx, _, rfl, upd_same, cl, He.noat_ok (f_noat_bot T.c), (by show 1 < 1000; decide), ?_⟩
      show Q .non _
      rw [upd_upd]
      rw [numF_eq, init_top hb, init_bot hb]
      exact k
    refine ite2 (fun z => ?_) (fun z => ?_)
    · refine ⟨_, rfl, _, rfl, ?_⟩
      exact fin _ (by unfold shr; rw [if_pos (of_decide_eq_true z)]; rfl)
    · exact fin _ (by unfold shr; rw [if_neg (fun q => z (decide_eq_true q))]; rfl)
theorem cl (T : Tx K mg) : Cls K (CN K) := He.cls_ok (f_cls_Number T.c)
theorem nT (T : Tx K mg) : NoAttr K (CN K) "_top" := He.noat_ok (f_noat_top T.c)
theorem nB (T : Tx K mg) : NoAttr K (CN K) "_bottom" := He.noat_ok (f_noat_bot T.c)
theorem f_str (T : Tx K mg) : ∃ fd, DAt K d_Number_str fd ∧ FnOk P w K mg base CX0 1 (d_Number_str.ad K) fd ["self"] (spGet (CN K) fun t b => .str (S (fL t b))) := by
  obtain ⟨fd, D⟩ := a_Number_str T.c
  refine ⟨fd, D, ok_of (N := ["self"]) D sc_Number_str (fun vs H Q E h => ?_) (fun cdv A outer s H vs Q E hr h => ?_)⟩
  · obtain ⟨p, t, b, rfl, _⟩ := h
    rfl
  · obtain ⟨p, t, b, rfl, ⟨⟨dx, hp⟩, _, _⟩, st, sb, k⟩ := h
    refine ⟨_, (pss_cons (ps_if (pt_cmpR op_eq (pe_fld (pv 0) rfl) pe_int (nomark _)) (pss_one (ps_ret (pe_callTy call_str_int (by rfl) (n_str T) bo_str (pa_cons (pe_fld (pv 0) rfl) pa_nil)))) pss_nil)
      (pss_one (ps_ret (pe_joined (.cons (pe_fmt (pe_fld (pv 0) rfl)) (.cons pe_str (.cons (pe_fmt (pe_fld (pv 0) rfl)) .nil))))))), ?_⟩
    refine ⟨_, rfl, p, CN K, dx, _, _, rfl, hp, cl T, nB T, numF_bot _ _, rfl, _, rfl, ?_⟩
    have l1 := i_len st
    have l2 := i_len sb
    refine ite2 (fun z => ?_) (fun z => ?_)
    · have e : b = 1 := V.int.inj (of_decide_eq_true z)
      refine ⟨_, rfl, p, CN K, dx, _, _, rfl, hp, cl T, nT T, numF_top _ _, _, rfl, log2_small st, ?_⟩
      show Q (.str _) H
      rw [toS]
      have k' : Q (.str (S (fL t b))) H := k
      unfold fL at k'
      rw [if_pos e] at k'
      exact k'
    · have e : ¬ b = 1 := fun q => z (decide_eq_true (by rw [q]))
      refine ⟨_, rfl, p, CN K, dx, _, _, rfl, hp, cl T, nT T, numF_top _ _, .inr ⟨_, rfl, log2_small st, _, rfl, ?_, _, rfl, ?_, ?_⟩⟩
      · rw [toS, empty_S, S_cat, S_len]
        exact line_ge (by rw [List.nil_append]; omega)
      · rw [toS, empty_S, slash_S, S_cat, S_cat, S_len]
        exact line_ge (by rw [List.nil_append, List.length_append]; simp; omega)
      · refine ⟨_, rfl, p, CN K, dx, _, _, rfl, hp, cl T, nB T, numF_bot _ _, .inr ⟨_, rfl, log2_small sb, _, rfl, ?_, ?_⟩⟩
        · rw [toS, toS, empty_S, slash_S, S_cat, S_cat, S_cat, S_len]
          exact line_ge (by rw [List.nil_append, List.length_append, List.length_append]; simp; omega)
        · show Q (.str _) H
          rw [toS, toS, empty_S, slash_S, S_cat, S_cat, S_cat, List.nil_append, List.append_assoc]
          have k' : Q (.str (S (fL t b))) H := k
          unfold fL at k'
          rw [if_neg e] at k'
          exact k'
theorem f_repr (T : Tx K mg) : ∃ fd, DAt K d_Number_repr fd ∧ FnOk P w K mg base CX0 4 (d_Number_repr.ad K) fd ["self"] (spGet (CN K) fun t b => .str (("Number(" : Str) ++ S (fL t b) ++ (")" : Str))) := by
  obtain ⟨fd, D⟩ := a_Number_repr T.c
  obtain ⟨fs, Ds, Fs⟩ := f_str (P := P) (w := w) (base := base) T
  have bs : Binds K fs ["self"] [] := FunD.bindsN Ds fun _ _ _ _ _ _ us hl => match us, hl with | [_], _ => rfl
  refine ⟨fd, D, ok_of (N := ["self"]) D sc_Number_repr (fun vs H Q E h => ?_) (fun cdv A outer s H vs Q E hr h => ?_)⟩
  · obtain ⟨p, t, b, rfl, _⟩ := h
    rfl
  · obtain ⟨p, t, b, rfl, N, st, sb, k⟩ := h
    obtain ⟨dx, hp⟩ := id N.at_
    refine ⟨_, (pss_one (ps_ret (pe_joined (.cons pe_str (.cons (pe_fmt (pe_callTy (call_strO (own_ok (f_meth_str T.c)) Fs bs hr) (by rfl) (n_str T) bo_str (pa_cons (pv 0) pa_nil))) (.cons pe_str .nil)))))), ?_⟩
    have l := f_len st sb
    have e1 : Str.empty ++ ("Number(" : Str) = ("Number(" : Str) := by decide +kernel
    have l1 : ("Number(" : Str).length = 7 := by decide +kernel
    have l2 : (")" : Str).length = 1 := by decide +kernel
    have lap : ∀ x y : Str, (x ++ y).length = x.length + y.length := fun x y => by
      show (x.cps ++ y.cps).size = _
      rw [Array.size_append]
      rfl
    refine ⟨_, rfl, ?_, _, rfl, p, dx, _, rfl, hp, p, t, b, rfl, N, st, sb, _, rfl, .inl ⟨_, rfl, ?_, _, rfl, ?_, _, rfl, ?_, ?_⟩⟩
    · rw [e1, l1]
      exact line_ge (by decide)
    · rw [S_len]
      exact line_ge (by omega)
    · rw [e1, lap, l1, S_len]
      exact line_ge (by omega)
    · rw [e1, lap, lap, l1, l2, S_len]
      exact line_ge (by omega)
    · show Q (.str _) H
      rw [e1]
      exact k
theorem mkN (T : Tx K mg) : Mk K (CN K) (d_Number_init.ad K) := He.mkr_ok (f_mkr_Number T.c)
theorem b_init2 {fd : FuncData} (D : DAt K d_Number_init fd) : Binds K fd ["self", "top", "bottom"] [] := by
  obtain ⟨ds, r, b⟩ := FunD.binds1 (ps := ["self", "top", "bottom"]) D 3 1 (by intro z; exact nomatch z) rfl (fun T kV doc pm an cdv ct us its hu hi => match us, its, hu, hi with | [_, _, _], [_], _, _ => ⟨_, rfl, rfl⟩)
  cases r
  exact b
theorem b_init1 {fd : FuncData} (D : DAt K d_Number_init fd) : ∃ ds, Vals [.int 1] ds ∧ Binds K fd ["self", "top", "bottom"] ds :=
  FunD.binds1 (ps := ["self", "top", "bottom"]) D 2 0 (by intro z; exact nomatch z) rfl (fun T kV doc pm an cdv ct us its hu hi => match us, its, hu, hi with | [_, _], [_], _, _ => ⟨_, rfl, rfl⟩)
/-- a new spring from the script -/
def spSpring (K : Fr) : Sp := fun vs H Q _ => ∃ (a : Addr) (ns : List Int) (j : Nat), vs = [.ref a, .int j] ∧ SqL K H a (ns.map V.int) ∧ ns.length ≤ 63 ∧ j ≤ 63 ∧
  ∀ (p : Addr) (d e c : Int), H p = none → Spr d e c → Q (.ref p) (upd H p (.lst (sprL d e c)))
theorem c_spring (T : Tx K mg) : Cal P w K mg base 1 "_law_spring" (gAd "_law_spring" K) ["_law_script", "_law_spot"] (spSpring K) := by
  refine cal_of (d := d_l_spring) (N := ["_law_script", "_law_spot", "_law_mixed", "_law_at", "_law_own", "_law_digits"]) (a_l_spring T.c) rfl sc_l_spring (g_l_spring T) (fun _ _ _ _ _ _ us hl => match us, hl with | [_, _], _ => rfl) (fun vs H Q E h => ?_) (fun cdv A outer s H vs Q E hr h => ?_)
  · obtain ⟨a, ns, j, rfl, _⟩ := h
    rfl
  · obtain ⟨a, ns, j, rfl, hS, hn, hj, k⟩ := h
    refine ⟨_, (pss_cons (ps_set (i := 2) sc_l_spring.nd rfl (.inl rfl) pe_int)
 (pss_cons (ps_for PassesOwn.never rfl (pi_range1 (by rfl) (n_range T) (pa_cons (pe_callB (call_min2 rfl) (by rfl) (n_min T) bo_min (pa_cons (pe_callB call_len_seq (by rfl) (n_len T) bo_len (pa_cons (pv 0) pa_nil)) (pa_cons pe_int pa_nil))) pa_nil)) (pg_name (i := 3) sc_l_spring.nd rfl (.inl rfl))
 (pss_one (ps_set (i := 2) sc_l_spring.nd rfl (.inl rfl) (pe_op op_mod (pe_callTy call_int1 (by rfl) (n_int T) bo_int (pa_cons (pe_op op_add (pe_op op_add (pe_op op_mul (pv 2) pe_int) (pe_op op_mul (pe_ix ix_list (pv 0) (pv 3) (fun _ _ => rfl)) (pe_op op_add (pv 3) pe_int))) pe_int) pa_nil)) pe_int))))
 (pss_cons (ps_set (i := 4) sc_l_spring.nd rfl (.inl rfl) (pe_ifExp (pt_cmpR op_lt (pv 1) (pe_callB call_len_seq (by rfl) (n_len T) bo_len (pa_cons (pv 0) pa_nil)) (nomark _)) (pe_ix ix_list (pv 0) (pv 1) (fun _ _ => rfl)) (pe_op op_add (pe_op op_mul (pv 2) pe_int) (pe_op op_mul (pv 1) pe_int))))
 (pss_cons (ps_set (i := 5) sc_l_spring.nd rfl (.inl rfl) (pe_ifExp (PW.pt (pw_or (pt_cmpR op_lt (pv 4) pe_int (nomark _)) (pw_or1 (pt_cmpR op_ge (pv 4) (pe_op op_pow pe_int pe_int) (nomark _))))) (pe_callB call_abs (by rfl) (n_abs T) bo_abs (pa_cons (pv 4) pa_nil)) pe_int))
 (pss_one (ps_ret (pe_lst (pa_cons (pv 5) (pa_cons (pe_op op_mod (pe_callTy call_int1 (by rfl) (n_int T) bo_int (pa_cons (pe_op op_add (pe_op op_add (pe_op op_mul (pv 4) pe_int) (pv 2)) pe_int) pa_nil)) pe_int) (pa_cons pe_int pa_nil)))))))))), ?_⟩
    -- mixed = 23; for at in range(min(len(script), 5))
    have hlen : ((ns.map V.int).length : Int) = (ns.length : Int) := by rw [List.length_map]
    refine ⟨_, rfl, a, _, rfl, .inl hS, _, _, rfl, _, rfl, ?_, ?_, ?_⟩
    · rw [hlen]; split <;> omega
    · rw [hlen]; split <;> omega
    rw [hlen]
    generalize hm : (if (5 : Int) < (ns.length : Int) then (5 : Int) else (ns.length : Int)) = m
    have hm2 : m ≤ ns.length := by rw [← hm]; split <;> omega
    refine for_range (lo := 0) (n := m.toNat) (fun i σ H' => H' = H ∧ ∃ (x : Int) (y : Option V), σ = [some (.ref a), some (.int j), some (.int x), y, none, none]) ⟨rfl, 23, none, rfl⟩ ?_ ?_
    · rintro i σ H' hi ⟨rfl, x, y, rfl⟩
      have hi2 : i < ns.length := by omega
      obtain ⟨n, h1, h2⟩ := map_int_get hi2
      have e0 : (0 : Int) + (i : Int) = ((i : Nat) : Int) := by omega
      rw [e0]
      refine ⟨_, rfl, _, _, rfl, rfl, .inr ⟨by decide, by decide⟩, _, rfl, _, rfl, a, _, _, _, rfl, rfl, hS, h2, _, rfl, _, _, rfl, rfl, _, _, rfl, rfl, .inr ⟨by omega, by omega⟩, ?_⟩
      refine ⟨_, _, rfl, rfl, _, _, rfl, rfl, .inl ⟨_, rfl, _, _, rfl, rfl, (by show (0 : Int) < 1000000007; decide), rfl, _, _, rfl⟩⟩
    · rintro σ H' ⟨rfl, x, y, rfl⟩
      -- own
      refine ⟨_, rfl, _, rfl, a, _, rfl, .inl hS, _, _, rfl, rfl, _, rfl, ?_⟩
      have fin : ∀ o : Int, (fun (σ : L2.St) (H : Hp) => L2.tSeq (tAsg (tIf (tOr (tTest (tOp (rI0 fun i j => V.bl (decide (i < j))) (tVar 4) (tC (.int 0)))) (tTest (tOp (rI0 fun i j => V.bl (decide (j ≤ i))) (tVar 4) (tOp (rI CPow fun i j => V.int (i ^ j.toNat)) (tC (.int 10)) (tC (.int 18)))))) (tCB (fun xs H Q => ∃ i, xs = [.int i] ∧ Q (.int (if i < 0 then -i else i)) H) (tCons (tVar 4) tNil)) (tC (.int 0))) (gName 5))
          (tRet (tLst (tCons (tVar 5) (tCons (tOp (rI (fun _ j => 0 < j) fun i j => V.int (i % j)) (tCB (fun xs H Q => (∃ i, xs = [V.int i] ∧ Q (V.int i) H) ∨ ∃ k, xs = [V.bl k] ∧ Q (V.int (if k then 1 else 0)) H) (tCons (tOp (rI0 fun i j => V.int (i + j)) (tOp (rI0 fun i j => V.int (i + j)) (tOp (rI CMul fun i j => V.int (i * j)) (tVar 4) (tC (.int 2654435))) (tVar 2)) (tC (.int 12345))) tNil)) (tC (.int 1000000007))) (tCons (tC (.int 0)) tNil))))) { nx := fun _ H' => Q .non H', rt := Q } σ H) [some (.ref a), some (.int j), some (.int x), y, some (.int o), none] H' := by
        intro o
        refine ⟨_, rfl, _, _, rfl, rfl, _, rfl, ?_⟩
        have last : ∀ d : Int, 0 ≤ d → (fun (σ : L2.St) (H : Hp) => tRet (tLst (tCons (tVar 5) (tCons (tOp (rI (fun _ j => 0 < j) fun i j => V.int (i % j)) (tCB (fun xs H Q => (∃ i, xs = [V.int i] ∧ Q (V.int i) H) ∨ ∃ k, xs = [V.bl k] ∧ Q (V.int (if k then 1 else 0)) H) (tCons (tOp (rI0 fun i j => V.int (i + j)) (tOp (rI0 fun i j => V.int (i + j)) (tOp (rI CMul fun i j => V.int (i * j)) (tVar 4) (tC (.int 2654435))) (tVar 2)) (tC (.int 12345))) tNil)) (tC (.int 1000000007))) (tCons (tC (.int 0)) tNil)))) { nx := fun _ H' => Q .non H', rt := Q } σ H) [some (.ref a), some (.int j), some (.int x), y, some (.int o), some (.int d)] H' := by
          intro d hd
          refine ⟨_, rfl, _, rfl, _, _, rfl, rfl, .inr ⟨by decide, by decide⟩, _, rfl, _, _, rfl, rfl, _, _, rfl, rfl, .inl ⟨_, rfl, _, _, rfl, rfl, (by show (0 : Int) < 1000000007; decide), (by show 3 ≤ sizeLine; decide), fun p np => ?_⟩⟩
          exact k p _ _ 0 np ⟨hd, Int.emod_nonneg _ (by decide), Int.emod_lt_of_pos _ (by decide), by decide⟩
        refine ite2 (fun z => ?_) (fun z => ?_)
        · refine iteT ⟨_, rfl, _, rfl, ?_⟩
          exact last _ (by have := of_decide_eq_true z; split <;> omega)
        · refine ⟨_, rfl, _, _, rfl, rfl, ⟨by decide, by decide, by decide⟩, _, _, rfl, rfl, _, rfl, ?_⟩
          refine ite2 (fun z2 => ⟨_, rfl, _, rfl, ?_⟩) (fun z2 => ?_)
          · exact last _ (by split <;> omega)
          · exact last 0 (by omega)
      refine ite2 (fun z => ?_) (fun z => ?_)
      · have hj2 : j < ns.length := by
          have := of_decide_eq_true z
          rw [hlen] at this
          omega
        obtain ⟨n, h1, h2⟩ := map_int_get hj2
        exact ⟨_, rfl, _, rfl, a, _, _, _, rfl, rfl, hS, h2, fin n⟩
      · exact ⟨_, rfl, _, _, rfl, rfl, .inr ⟨by decide, by decide⟩, _, rfl, _, _, rfl, rfl, .inr ⟨by decide, by decide⟩, _, _, rfl, rfl, fin _⟩

end
end K04

namespace K04
open PySem PySem.Spec PyProof.Rows L2 Hk NumM NumT SX
/-- no integer: a truth, or of a type that is none -/
def NotInt (K : Fr) (H : Hp) (x : V) : Prop := (∃ b, x = .bl b) ∨ ∃ ty, TyX K H x ty ∧ PySem.W.kitOne K ty (.type "int") = some false
/-- is_integer of any value -/
def spIsI (K : Fr) : Sp := fun vs H Q _ => ∃ x : V, vs = [x] ∧ ((∃ i, x = .int i ∧ Q (.bl true) H) ∨ (NotInt K H x ∧ Q (.bl false) H))
/-- the error of the class c with this value is let out -/
abbrev Bad (c : Str) (K : Fr) (H : Hp) (E : XK) (x : V) : Prop := ∀ (H' : Hp) (d : Addr), Same H H' → H' d = none → E (.ref (He.ga K c)) (some d) (upd H' d (.xd [("value", x)]))
abbrev Zero (K : Fr) (H : Hp) (E : XK) : Prop := ∀ H', Same H H' → E (.ref (He.ga K "DividedByZero")) none H'
def spInitX (C : Addr) (K : Fr) : Sp := fun vs H Q E => ∃ (p dx : Addr) (x y : V), vs = [.ref p, x, y] ∧ H p = some (.ins C dx []) ∧
  ((∃ h b : Int, x = .int h ∧ y = .int b ∧ b ≠ 0 ∧ Sz b ∧ Q .non (upd H p (.ins C dx (numF (lowT h b) (lowB h b))))) ∨ (NotInt K H x ∧ Bad "InvalidCount" K H E x) ∨
   (∃ h : Int, x = .int h ∧ NotInt K H y ∧ Bad "InvalidCount" K H E y) ∨ (∃ h : Int, x = .int h ∧ y = .int 0 ∧ Zero K H E))
section
variable {P : Program} {w : World} {K : Fr} {mg : Str → Option Value} {base : Heap}
theorem c_isI (T : Tx K mg) : Cal P w K mg base 1 "is_integer" (gAd "is_integer" K) ["value"] (spIsI K) := by
  refine cal_of (d := d_is_integer) (N := ["value"]) (a_is_integer T.c) rfl sc_is_integer (g_is_integer T) (fun _ _ _ _ _ _ us hl => match us, hl with | [_], _ => rfl) (fun vs H Q E h => ?_) (fun cdv A outer s H vs Q E hr h => ?_)
  · obtain ⟨x, rfl, _⟩ := h
    rfl
  · obtain ⟨x, rfl, h⟩ := h
    refine ⟨_, (pss_one (ps_ret (pe_and (pe_callB call_isi (by rfl) (n_isinstance T) bo_isinstance (pa_cons (pv 0) (pa_cons (pe_bltn (v := .ty "int") (by rfl) (n_int T) (by decide +kernel) rfl) pa_nil)))
      (pe_one (pe_not (pe_callB call_isi (by rfl) (n_isinstance T) bo_isinstance (pa_cons (pv 0) (pa_cons (pe_bltn (v := .ty "bool") (by rfl) (n_bool T) (by decide +kernel) rfl) pa_nil)))))))), ?_⟩
    rcases h with ⟨i, rfl, k⟩ | ⟨⟨b, rfl⟩ | ⟨ty, hty, hk⟩, k⟩
    · refine ⟨_, rfl, _, _, .type "int", .type "int", true, rfl, .ty _, .base (.int i), kit_ty (by decide +kernel), true, rfl, iteT ?_⟩
      exact ⟨_, rfl, _, _, .type "int", .type "bool", false, rfl, .ty _, .base (.int i), kit_ty (by decide +kernel), false, rfl, k⟩
    · refine ⟨_, rfl, _, _, .type "bool", .type "int", true, rfl, .ty _, .base (.bl b), kit_ty (by decide +kernel), true, rfl, iteT ?_⟩
      exact ⟨_, rfl, _, _, .type "bool", .type "bool", true, rfl, .ty _, .base (.bl b), kit_ty (by decide +kernel), true, rfl, k⟩
    · exact ⟨_, rfl, _, _, ty, .type "int", false, rfl, .ty _, hty, hk, false, rfl, iteF k⟩
theorem xr_of {x : Str} {fd : FuncData} {d : Dx} (D : DAt K d fd) (ha : d.ad K = mAd x "__init__" K) (S : FnScope [("self" : Str), "value"] [("self" : Str), "value"] (defScope d.st)) (c1 : tOex x K = true) (c2 : tNof x "value" K = true) (c3 : tInit x K = true) (gm : mg x = some (.ref (He.ga K x)))
    (b : Binds K fd [("self" : Str), "value"] [])
    (hb : ∀ (cdv : Value) (A : Around) (outer : List Env) (s : Shared) (H : Hp) (E : XK), PSs (cxOf CX0 P w K mg base [("self" : Str), "value"] d.ql (defScope d.st) (d.ad K) cdv A outer s H E).nox (defBody d.st) (tSeq (tOst K "value" (tVar 0) (tVar 1)) tNext)) : XrC P w K mg base x "value" := by
  obtain ⟨e1, e2⟩ := He.ba c3
  have F := xin_ok (P := P) (w := w) (mg := mg) (base := base) D S (oexB_ok c1) (He.eqO_ok c2) hb
  rw [ha] at F
  exact ⟨oexB_ok c1, (own_ok e1).at_, of_decide_eq_true e2, gm, fd, F, b⟩
theorem xr_count (T : Tx K mg) : XrC P w K mg base "InvalidCount" "value" := by
  obtain ⟨fd, D⟩ := a_InvalidCount_init T.c
  exact xr_of D rfl sc_InvalidCount_init (f_oex_InvalidCount T.c) (f_nof_InvalidCount T.c) (f_init_InvalidCount T.c) (g_InvalidCount T) (FunD.bindsN D fun _ _ _ _ _ _ us hl => match us, hl with | [_, _], _ => rfl) fun cdv A outer s H E => pss_one (ps_ost (pv 0) (pv 1))
theorem xr_num (T : Tx K mg) : XrC P w K mg base "NotANumber" "value" := by
  obtain ⟨fd, D⟩ := a_NotANumber_init T.c
  exact xr_of D rfl sc_NotANumber_init (f_oex_NotANumber T.c) (f_nof_NotANumber T.c) (f_init_NotANumber T.c) (g_NotANumber T) (FunD.bindsN D fun _ _ _ _ _ _ us hl => match us, hl with | [_, _], _ => rfl) fun cdv A outer s H E => pss_one (ps_ost (pv 0) (pv 1))
theorem f_initX (T : Tx K mg) : ∃ fd, DAt K d_Number_init fd ∧ FnOk P w K mg base (L2N.CX P w) 3 (d_Number_init.ad K) fd ["self", "top", "bottom"] (spInitX (CN K) K) := by
  obtain ⟨fd, D⟩ := a_Number_init T.c
  have C_is_integer := c_isI (P := P) (w := w) (base := base) T
  have XC := xr_count (P := P) (w := w) (base := base) T
  have xz := excB_ok (f_exc_zero T.c)
  refine ⟨fd, D, okn_of (N := ["self", "top", "bottom", "shared"]) D sc_Number_init (fun vs H Q E h => ?_) (fun cdv A outer s H vs Q E hr h => ?_)⟩
  · obtain ⟨p, dx, x, y, rfl, _⟩ := h
    rfl
  · obtain ⟨p, dx, x, y, rfl, hp, h⟩ := h
    have r1 : Room 1 _ := hr.mono (by decide)
    refine ⟨_, (pss_cons (ps_if (pt_not (pt_val (pe_c C_is_integer r1 (pa_cons (pv 1) pa_nil)))) (pss_one (ps_rz XC hr rfl (L2N.takes_of rfl rfl rfl rfl) (pa_cons (pv 1) pa_nil))) pss_nil)
      (pss_cons (ps_if (pt_not (pt_val (pe_c C_is_integer r1 (pa_cons (pv 2) pa_nil)))) (pss_one (ps_rz XC hr rfl (L2N.takes_of rfl rfl rfl rfl) (pa_cons (pv 2) pa_nil))) pss_nil)
      (pss_cons (ps_if (pt_cmpR op_eq (pv 2) pe_int (nomark _)) (pss_one (ps_rz0 basR (f_ex0_zero T.c) xz (g_DividedByZero T) rfl (L2N.takes_of rfl rfl rfl rfl))) pss_nil)
      (pss_cons (ps_set (i := 3) sc_Number_init.nd rfl (.inl rfl) (pe_callBfun cr_gcd rfl (m_gcd T) (pa_cons (pv 1) (pa_cons (pv 2) pa_nil))))
      (pss_cons (ps_if (pt_cmpR op_lt (pv 2) pe_int (nomark _)) (pss_one (ps_set (i := 3) sc_Number_init.nd rfl (.inl rfl) (pe_un un_neg (pv 3)))) pss_nil)
      (pss_cons (ps_fld (pv 0) (pe_op op_fdivG (pv 1) (pv 3)) rfl)
      (pss_one (ps_fld (pv 0) (pe_op op_fdivG (pv 2) (pv 3)) rfl)))))))), ?_⟩
    have fin : ∀ (h b : Int), b ≠ 0 → Sz b → Q .non (upd H p (.ins (CN K) dx (numF (lowT h b) (lowB h b)))) → ∀ g : Int, g = shr h b → (fun (σ : L2.St) (H : Hp) => L2.tSeq (sFld K (tVar 0) (tOp (rI CDivG fun i j => .int (i.fdiv j)) (tVar 1) (tVar 3)) "_top") (sFld K (tVar 0) (tOp (rI CDivG fun i j => .int (i.fdiv j)) (tVar 2) (tVar 3)) "_bottom") { nx := fun _ H' => Q .non H', rt := Q } σ H) [some (.ref p), some (.int h), some (.int b), some (.int g)] H := by
      intro h b hb sb k g eg
      subst eg
      have cl := He.cls_ok (f_cls_Number T.c)
      have sz : CDivG h (shr h b) := ⟨shr_ne hb, by
        have := log2_sz (i := shr h b) (Nat.lt_of_le_of_lt (shr_le (h := h) hb) sb)
        omega⟩
      have szb : CDivG b (shr h b) := sz
      refine ⟨_, rfl, _, rfl, h, _, rfl, rfl, sz, _, rfl, p, CN K, dx, _, rfl, hp, cl, He.noat_ok (f_noat_top T.c), (by show 0 < 1000; decide), ?_⟩
      refine ⟨_, rfl, _, rfl, b, _, rfl, rfl, szb, _, rfl, p, CN K, dx, _, rfl, upd_same, cl, He.noat_ok (f_noat_bot T.c), (by show 1 < 1000; decide), ?_⟩
      show Q .non _
      rw [upd_upd]
      rw [numF_eq, init_top hb, init_bot hb]
      exact k
    rcases h with ⟨h, b, rfl, rfl, hb, sb, k⟩ | ⟨nx, bad⟩ | ⟨h, rfl, ny, bad⟩ | ⟨h, rfl, rfl, bad⟩
    · refine ⟨_, rfl, _, rfl, .inl ⟨h, rfl, _, rfl, iteF ?_⟩⟩
      refine ⟨_, rfl, _, rfl, .inl ⟨b, rfl, _, rfl, iteF ?_⟩⟩
      refine ⟨_, rfl, rfl, _, rfl, ?_⟩
      refine iteFd (fun z => hb (V.int.inj z)) ?_
      refine ⟨_, rfl, _, rfl, h, b, rfl, ?_⟩
      refine ⟨_, rfl, _, _, rfl, rfl, _, rfl, ?_⟩
      refine ite2 (fun z => ?_) (fun z => ?_)
      · refine ⟨_, rfl, _, rfl, ?_⟩
        exact fin h b hb sb k _ (by unfold shr; rw [if_pos (of_decide_eq_true z)]; rfl)
      · exact fin h b hb sb k _ (by unfold shr; rw [if_neg (fun q => z (decide_eq_true q))]; rfl)
    · refine ⟨_, rfl, _, rfl, .inr ⟨nx, _, rfl, iteT ?_⟩⟩
      exact ⟨_, rfl, xin_mk fun dd nd => bad H dd (Same.refl H) nd⟩
    · refine ⟨_, rfl, _, rfl, .inl ⟨h, rfl, _, rfl, iteF ?_⟩⟩
      refine ⟨_, rfl, _, rfl, .inr ⟨ny, _, rfl, iteT ?_⟩⟩
      exact ⟨_, rfl, xin_mk fun dd nd => bad H dd (Same.refl H) nd⟩
    · refine ⟨_, rfl, _, rfl, .inl ⟨h, rfl, _, rfl, iteF ?_⟩⟩
      refine ⟨_, rfl, _, rfl, .inl ⟨0, rfl, _, rfl, iteF ?_⟩⟩
      refine ⟨_, rfl, rfl, _, rfl, iteTd rfl ?_⟩
      exact bad H (Same.refl H)
end
end K04

/-! Operands of a Number's operators, their promises. -/
namespace Hk
open PySem PySem.Spec PyProof.Rows L2 NumM NumT SX
/-- a Number u/c, or the int u (c = 1) -/
def Opd (C : Addr) (H : Hp) (y : V) (u c : Int) : Prop := (∃ q, y = .ref q ∧ NumAt C H q u c) ∨ (y = .int u ∧ c = 1)
theorem Opd.same {C : Addr} {H H' : Hp} {y : V} {u c : Int} (o : Opd C H y u c) (s : Same H H') : Opd C H' y u c := by
  rcases o with ⟨q, rfl, N⟩ | ⟨rfl, rfl⟩
  · exact .inl ⟨q, rfl, N.same s⟩
  · exact .inr ⟨rfl, rfl⟩
theorem Opd.pos {C : Addr} {H : Hp} {y : V} {u c : Int} (o : Opd C H y u c) : 0 < c := by
  rcases o with ⟨q, rfl, N⟩ | ⟨rfl, rfl⟩
  · exact N.pos
  · decide
/-- small enough to be multiplied -/
abbrev Sm (n : Int) : Prop := n.natAbs < 2 ^ 450
theorem sm_mul {x y : Int} (h : Sm x) (g : Sm y) : (x * y).natAbs < 2 ^ 900 := wide_lt h g
theorem sm_sz {x : Int} (h : Sm x) : Sz x := Nat.lt_of_lt_of_le h (by decide +kernel)
theorem p900 : (2 : Nat) ^ 900 + 2 ^ 900 ≤ 2 ^ 1000 := by decide +kernel
theorem sz_mulS {x y : Int} (h : Sm x) (g : Sm y) : Sz (x * y) := by
  have := sm_mul h g
  have := p900
  exact Nat.lt_of_lt_of_le (sm_mul h g) (by omega)
theorem sz_add {x y z u : Int} (h : Sm x) (g : Sm y) (h' : Sm z) (g' : Sm u) : Sz (x * y + z * u) := by
  have a := sm_mul h g
  have b := sm_mul h' g'
  have e := p900
  have t : (x * y + z * u).natAbs ≤ (x * y).natAbs + (z * u).natAbs := Int.natAbs_add_le _ _
  exact Nat.lt_of_lt_of_le (show (x * y + z * u).natAbs < 2 ^ 900 + 2 ^ 900 by omega) e
theorem sz_sub {x y z u : Int} (h : Sm x) (g : Sm y) (h' : Sm z) (g' : Sm u) : Sz (x * y - z * u) := by
  have a := sm_mul h g
  have b := sm_mul h' g'
  have e := p900
  have t : (x * y - z * u).natAbs ≤ (x * y).natAbs + (z * u).natAbs := Int.natAbs_sub_le _ _
  exact Nat.lt_of_lt_of_le (show (x * y - z * u).natAbs < 2 ^ 900 + 2 ^ 900 by omega) e
theorem cm {x y : Int} (h : Sm x) (g : Sm y) : CMulW x y := wide_mul h g (by decide) (by decide) (by decide)
/-- as_number -/
def spAsN (C : Addr) : Sp := fun vs H Q _ => ∃ (y : V) (u c : Int), vs = [y] ∧ Opd C H y u c ∧ Sz u ∧ ∀ (H' : Hp) (q : Addr), Same H H' → NumAt C H' q u c → Q (.ref q) H'
/-- a two-place method: num and den of the new fraction -/
def spBin (C : Addr) (num : Int → Int → Int → Int → Int) (den : Int → Int → Int → Int → Int) (ok : Int → Int → Int → Int → Prop) : Sp := fun vs H Q _ => ∃ (p : Addr) (y : V) (t b u c : Int), vs = [.ref p, y] ∧ NumAt C H p t b ∧ Opd C H y u c ∧ Sm t ∧ Sm b ∧ Sm u ∧ Sm c ∧ ok t b u c ∧
  ∀ (H' : Hp) (q : Addr), Same H H' → NumAt C H' q (lowT (num t b u c) (den t b u c)) (lowB (num t b u c) (den t b u c)) → Q (.ref q) H'
/-- the reflected one: an int first -/
def spRbin (C : Addr) (num : Int → Int → Int → Int) : Sp := fun vs H Q _ => ∃ (p : Addr) (i t b : Int), vs = [.ref p, .int i] ∧ NumAt C H p t b ∧ Sm t ∧ Sm b ∧ Sm i ∧
  ∀ (H' : Hp) (q : Addr), Same H H' → NumAt C H' q (lowT (num i t b) (1 * b)) (lowB (num i t b) (1 * b)) → Q (.ref q) H'
def spUn (C : Addr) (g : Int → Int) : Sp := fun vs H Q _ => ∃ (p : Addr) (t b : Int), vs = [.ref p] ∧ NumAt C H p t b ∧ Sm t ∧ Sm b ∧ ∀ (H' : Hp) (q : Addr), Same H H' → NumAt C H' q (g t) b → Q (.ref q) H'
end Hk

namespace K04
open PySem PySem.Spec PyProof.Rows L2 Hk NumM NumT SX
def NotNum (K : Fr) (C : Addr) (H : Hp) (x : V) : Prop := NotInt K H x ∧ ∃ ty, TyX K H x ty ∧ PySem.W.kitOne K ty (.ref C) = some false
def spAsX (C : Addr) (K : Fr) : Sp := fun vs H Q E => ∃ y : V, vs = [y] ∧ ((∃ u c, Opd C H y u c ∧ Sz u ∧ ∀ (H' : Hp) (q : Addr), Same H H' → NumAt C H' q u c → Q (.ref q) H') ∨ (NotNum K C H y ∧ Bad "NotANumber" K H E y))
def spBinX (C : Addr) (K : Fr) (num : Int → Int → Int → Int → Int) (den : Int → Int → Int → Int → Int) : Sp := fun vs H Q E => ∃ (p : Addr) (y : V) (t b : Int), vs = [.ref p, y] ∧ NumAt C H p t b ∧ Sm t ∧ Sm b ∧
  ((∃ u c, Opd C H y u c ∧ Sm u ∧ Sm c ∧ ∀ (H' : Hp) (q : Addr), Same H H' → NumAt C H' q (lowT (num t b u c) (den t b u c)) (lowB (num t b u c) (den t b u c)) → Q (.ref q) H') ∨ (NotNum K C H y ∧ Bad "NotANumber" K H E y))
section
variable {P : Program} {w : World} {K : Fr} {mg : Str → Option Value} {base : Heap}
theorem f_top (T : Tx K mg) : ∃ fd, DAt K d_Number_top fd ∧ FnOk P w K mg base CX0 1 (d_Number_top.ad K) fd ["self"] (spGet (CN K) fun t _ => .int t) := by
  obtain ⟨fd, D⟩ := a_Number_top T.c
  refine ⟨fd, D, ok_of (N := ["self"]) D sc_Number_top (fun vs H Q E h => ?_) (fun cdv A outer s H vs Q E hr h => ?_)⟩
  · obtain ⟨p, t, b, rfl, _⟩ := h
    rfl
  · obtain ⟨p, t, b, rfl, ⟨⟨dx, hp⟩, _, _⟩, _, _, k⟩ := h
    exact ⟨_, pss_one (ps_ret (pe_fld (pv 0) rfl)), _, rfl, p, CN K, dx, _, _, rfl, hp, cl T, nT T, numF_top _ _, k⟩
theorem f_bottom (T : Tx K mg) : ∃ fd, DAt K d_Number_bottom fd ∧ FnOk P w K mg base CX0 1 (d_Number_bottom.ad K) fd ["self"] (spGet (CN K) fun _ b => .int b) := by
  obtain ⟨fd, D⟩ := a_Number_bottom T.c
  refine ⟨fd, D, ok_of (N := ["self"]) D sc_Number_bottom (fun vs H Q E h => ?_) (fun cdv A outer s H vs Q E hr h => ?_)⟩
  · obtain ⟨p, t, b, rfl, _⟩ := h
    rfl
  · obtain ⟨p, t, b, rfl, ⟨⟨dx, hp⟩, _, _⟩, _, _, k⟩ := h
    exact ⟨_, pss_one (ps_ret (pe_fld (pv 0) rfl)), _, rfl, p, CN K, dx, _, _, rfl, hp, cl T, nB T, numF_bot _ _, k⟩
theorem sz1 : Sz 1 := by decide +kernel
theorem low_one (u : Int) : lowT u 1 = u ∧ lowB u 1 = 1 := low_red (t := u) (b := 1) (by decide) (by simp)
theorem c_asX (T : Tx K mg) : CalN P w K mg base 4 "as_number" (gAd "as_number" K) ["value"] (spAsX (CN K) K) := by
  have C_is_integer := c_isI (P := P) (w := w) (base := base) T
  have XN := xr_num (P := P) (w := w) (base := base) T
  obtain ⟨f0, D0, F0⟩ := f_init (P := P) (w := w) (base := base) T
  refine caln_of (d := d_as_number) (N := ["value"]) (a_as_number T.c) rfl sc_as_number (g_as_number T) (fun _ _ _ _ _ _ us hl => match us, hl with | [_], _ => rfl) (fun vs H Q E h => ?_) (fun cdv A outer s H vs Q E hr h => ?_)
  · obtain ⟨y, rfl, _⟩ := h
    rfl
  · obtain ⟨y, rfl, h⟩ := h
    obtain ⟨ds, Vd, B0⟩ := b_init1 D0
    refine ⟨_, (pss_cons (ps_if (pt_val (pe_callB call_isi (by rfl) (n_isinstance T) bo_isinstance (pa_cons (pv 0) (pa_cons (pe_glob (v := .ref (gAd "Number" K)) rfl (g_Number T) rfl) pa_nil))))
      (pss_one (ps_ret (pv 0))) pss_nil)
      (pss_cons (ps_if (pt_val (pe_c C_is_integer (hr.mono (by decide)) (pa_cons (pv 0) pa_nil)))
      (pss_one (ps_ret (pe_num (He.mkr_ok (f_mkr_Number T.c)) F0 hr (g_Number T) B0 Vd (pa_cons (pv 0) pa_nil)))) pss_nil)
      (pss_one (ps_rz XN (hr.mono (by decide)) rfl (L2N.takes_of rfl rfl rfl rfl) (pa_cons (pv 0) pa_nil))))), ?_⟩
    rcases h with ⟨u, c, ⟨q, rfl, N⟩ | ⟨rfl, rfl⟩, su, k⟩ | ⟨⟨ni, ty, hty, hk⟩, bad⟩
    · obtain ⟨dx, hp⟩ := id N.at_
      refine ⟨_, rfl, _, _, _, _, true, rfl, .own _, .base (ins_ok (f_ins T.c) hp (cl T)), of_decide_eq_true (f_kitO T.c), true, rfl, iteT ?_⟩
      exact ⟨_, rfl, k _ _ (Same.refl H) N⟩
    · refine ⟨_, rfl, _, _, _, _, false, rfl, .own _, .base (.int _), of_decide_eq_true (f_kit_int T.c), false, rfl, iteF ?_⟩
      refine ⟨_, rfl, _, rfl, .inl ⟨u, rfl, true, rfl, iteT ?_⟩⟩
      refine ⟨_, rfl, u, 1, rfl, by decide, sz1, fun H' p s np N => ?_⟩
      rw [(low_one u).1, (low_one u).2] at N
      exact k _ _ s N
    · refine ⟨_, rfl, _, _, _, _, false, rfl, .own _, hty, hk, false, rfl, iteF ?_⟩
      refine ⟨_, rfl, _, rfl, .inr ⟨ni, false, rfl, iteF ?_⟩⟩
      exact ⟨_, rfl, xin_mk fun dd nd => bad H dd (Same.refl H) nd⟩
theorem f_addX (T : Tx K mg) : ∃ fd, DAt K d_Number_add fd ∧ FnOk P w K mg base (L2N.CX P w) 5 (d_Number_add.ad K) fd ["self", "other"] (spBinX (CN K) K (fun t b u c => t * c + u * b) (fun t b u c => b * c)) := by
  obtain ⟨fd, D⟩ := a_Number_add T.c
  have C_as_number := c_asX (P := P) (w := w) (base := base) T
  obtain ⟨f0, D0, F0⟩ := f_init (P := P) (w := w) (base := base) T
  obtain ⟨f1, D1, F1⟩ := f_top (P := P) (w := w) (base := base) T
  obtain ⟨f2, D2, F2⟩ := f_bottom (P := P) (w := w) (base := base) T
  have b1 : Binds K f1 ["self"] [] := FunD.bindsN D1 fun _ _ _ _ _ _ us hl => match us, hl with | [_], _ => rfl
  have b2 : Binds K f2 ["self"] [] := FunD.bindsN D2 fun _ _ _ _ _ _ us hl => match us, hl with | [_], _ => rfl
  refine ⟨fd, D, okn_of (N := ["self", "other", "right"]) D sc_Number_add (fun vs H Q E h => ?_) (fun cdv A outer s H vs Q E hr h => ?_)⟩
  · obtain ⟨p, y, t, b, rfl, _⟩ := h
    rfl
  · obtain ⟨p, y, t, b, rfl, N, zt, zb, h⟩ := h
    refine ⟨_, (pss_cons (ps_set (i := 2) sc_Number_add.nd rfl (.inl rfl) (pe_cn C_as_number (L2N.takes_of rfl rfl rfl rfl) hr (pa_cons (pv 1) pa_nil)))
      (pss_one (ps_ret (pe_num (mkN T) F0 (hr.mono (by decide)) (g_Number T) (b_init2 D0) .nil (pa_cons (pe_op op_add (pe_op op_mulW (pe_fld (pv 0) rfl) (pe_prop (pv 2) (cl T) (prop_ok (f_prop_bottom T.c)) F2 (hr.mono (by decide)) b2 .nil pass0 rfl)) (pe_op op_mulW (pe_prop (pv 2) (cl T) (prop_ok (f_prop_top T.c)) F1 (hr.mono (by decide)) b1 .nil pass0 rfl) (pe_fld (pv 0) rfl))) (pa_cons (pe_op op_mulW (pe_fld (pv 0) rfl) (pe_prop (pv 2) (cl T) (prop_ok (f_prop_bottom T.c)) F2 (hr.mono (by decide)) b2 .nil pass0 rfl)) pa_nil)))))), ?_⟩
    rcases h with ⟨u, c, o, zu, zc, k⟩ | ⟨ny, bad⟩
    rotate_left
    · exact ⟨_, rfl, y, rfl, .inr ⟨ny, bad⟩⟩
    refine ⟨_, rfl, y, rfl, .inl ⟨u, c, o, sm_sz zu, fun H1 q s1 M => ?_⟩⟩
    have N1 := N.same s1
    obtain ⟨dp, hp⟩ := id N1.at_
    obtain ⟨dq, hq⟩ := id M.at_
    refine ⟨_, rfl, p, CN K, dp, _, _, rfl, hp, cl T, nT T, numF_top _ _, _, rfl, q, dq, _, rfl, hq, q, u, c, rfl, M, sm_sz zu, sm_sz zc, _, _, rfl, rfl, cm zt zc, _, rfl, q, dq, _, rfl, hq, q, u, c, rfl, M, sm_sz zu, sm_sz zc, _, rfl, p, CN K, dp, _, _, rfl, hp, cl T, nB T, numF_bot _ _, _, _, rfl, rfl, cm zu zb, _, _, rfl, rfl, _, rfl, p, CN K, dp, _, _, rfl, hp, cl T, nB T, numF_bot _ _, _, rfl, q, dq, _, rfl, hq, q, u, c, rfl, M, sm_sz zu, sm_sz zc, _, _, rfl, rfl, cm zb zc, ?_⟩
    exact ⟨_, _, rfl, (Int.mul_ne_zero (by have := N.pos; omega) (by have := M.pos; omega)), sz_mulS zb zc, fun H2 r s2 nr R => k H2 r (s1.trans s2) R⟩
theorem f_subX (T : Tx K mg) : ∃ fd, DAt K d_Number_sub fd ∧ FnOk P w K mg base (L2N.CX P w) 5 (d_Number_sub.ad K) fd ["self", "other"] (spBinX (CN K) K (fun t b u c => t * c - u * b) (fun t b u c => b * c)) := by
  obtain ⟨fd, D⟩ := a_Number_sub T.c
  have C_as_number := c_asX (P := P) (w := w) (base := base) T
  obtain ⟨f0, D0, F0⟩ := f_init (P := P) (w := w) (base := base) T
  obtain ⟨f1, D1, F1⟩ := f_top (P := P) (w := w) (base := base) T
  obtain ⟨f2, D2, F2⟩ := f_bottom (P := P) (w := w) (base := base) T
  have b1 : Binds K f1 ["self"] [] := FunD.bindsN D1 fun _ _ _ _ _ _ us hl => match us, hl with | [_], _ => rfl
  have b2 : Binds K f2 ["self"] [] := FunD.bindsN D2 fun _ _ _ _ _ _ us hl => match us, hl with | [_], _ => rfl
  refine ⟨fd, D, okn_of (N := ["self", "other", "right"]) D sc_Number_sub (fun vs H Q E h => ?_) (fun cdv A outer s H vs Q E hr h => ?_)⟩
  · obtain ⟨p, y, t, b, rfl, _⟩ := h
    rfl
  · obtain ⟨p, y, t, b, rfl, N, zt, zb, h⟩ := h
    refine ⟨_, (pss_cons (ps_set (i := 2) sc_Number_sub.nd rfl (.inl rfl) (pe_cn C_as_number (L2N.takes_of rfl rfl rfl rfl) hr (pa_cons (pv 1) pa_nil)))
      (pss_one (ps_ret (pe_num (mkN T) F0 (hr.mono (by decide)) (g_Number T) (b_init2 D0) .nil (pa_cons (pe_op op_sub (pe_op op_mulW (pe_fld (pv 0) rfl) (pe_prop (pv 2) (cl T) (prop_ok (f_prop_bottom T.c)) F2 (hr.mono (by decide)) b2 .nil pass0 rfl)) (pe_op op_mulW (pe_prop (pv 2) (cl T) (prop_ok (f_prop_top T.c)) F1 (hr.mono (by decide)) b1 .nil pass0 rfl) (pe_fld (pv 0) rfl))) (pa_cons (pe_op op_mulW (pe_fld (pv 0) rfl) (pe_prop (pv 2) (cl T) (prop_ok (f_prop_bottom T.c)) F2 (hr.mono (by decide)) b2 .nil pass0 rfl)) pa_nil)))))), ?_⟩
    rcases h with ⟨u, c, o, zu, zc, k⟩ | ⟨ny, bad⟩
    rotate_left
    · exact ⟨_, rfl, y, rfl, .inr ⟨ny, bad⟩⟩
    refine ⟨_, rfl, y, rfl, .inl ⟨u, c, o, sm_sz zu, fun H1 q s1 M => ?_⟩⟩
    have N1 := N.same s1
    obtain ⟨dp, hp⟩ := id N1.at_
    obtain ⟨dq, hq⟩ := id M.at_
    refine ⟨_, rfl, p, CN K, dp, _, _, rfl, hp, cl T, nT T, numF_top _ _, _, rfl, q, dq, _, rfl, hq, q, u, c, rfl, M, sm_sz zu, sm_sz zc, _, _, rfl, rfl, cm zt zc, _, rfl, q, dq, _, rfl, hq, q, u, c, rfl, M, sm_sz zu, sm_sz zc, _, rfl, p, CN K, dp, _, _, rfl, hp, cl T, nB T, numF_bot _ _, _, _, rfl, rfl, cm zu zb, _, _, rfl, rfl, _, rfl, p, CN K, dp, _, _, rfl, hp, cl T, nB T, numF_bot _ _, _, rfl, q, dq, _, rfl, hq, q, u, c, rfl, M, sm_sz zu, sm_sz zc, _, _, rfl, rfl, cm zb zc, ?_⟩
    exact ⟨_, _, rfl, (Int.mul_ne_zero (by have := N.pos; omega) (by have := M.pos; omega)), sz_mulS zb zc, fun H2 r s2 nr R => k H2 r (s1.trans s2) R⟩
theorem f_mulX (T : Tx K mg) : ∃ fd, DAt K d_Number_mul fd ∧ FnOk P w K mg base (L2N.CX P w) 5 (d_Number_mul.ad K) fd ["self", "other"] (spBinX (CN K) K (fun t b u c => t * u) (fun t b u c => b * c)) := by
  obtain ⟨fd, D⟩ := a_Number_mul T.c
  have C_as_number := c_asX (P := P) (w := w) (base := base) T
  obtain ⟨f0, D0, F0⟩ := f_init (P := P) (w := w) (base := base) T
  obtain ⟨f1, D1, F1⟩ := f_top (P := P) (w := w) (base := base) T
  obtain ⟨f2, D2, F2⟩ := f_bottom (P := P) (w := w) (base := base) T
  have b1 : Binds K f1 ["self"] [] := FunD.bindsN D1 fun _ _ _ _ _ _ us hl => match us, hl with | [_], _ => rfl
  have b2 : Binds K f2 ["self"] [] := FunD.bindsN D2 fun _ _ _ _ _ _ us hl => match us, hl with | [_], _ => rfl
  refine ⟨fd, D, okn_of (N := ["self", "other", "right"]) D sc_Number_mul (fun vs H Q E h => ?_) (fun cdv A outer s H vs Q E hr h => ?_)⟩
  · obtain ⟨p, y, t, b, rfl, _⟩ := h
    rfl
  · obtain ⟨p, y, t, b, rfl, N, zt, zb, h⟩ := h
    refine ⟨_, (pss_cons (ps_set (i := 2) sc_Number_mul.nd rfl (.inl rfl) (pe_cn C_as_number (L2N.takes_of rfl rfl rfl rfl) hr (pa_cons (pv 1) pa_nil)))
      (pss_one (ps_ret (pe_num (mkN T) F0 (hr.mono (by decide)) (g_Number T) (b_init2 D0) .nil (pa_cons (pe_op op_mulW (pe_fld (pv 0) rfl) (pe_prop (pv 2) (cl T) (prop_ok (f_prop_top T.c)) F1 (hr.mono (by decide)) b1 .nil pass0 rfl)) (pa_cons (pe_op op_mulW (pe_fld (pv 0) rfl) (pe_prop (pv 2) (cl T) (prop_ok (f_prop_bottom T.c)) F2 (hr.mono (by decide)) b2 .nil pass0 rfl)) pa_nil)))))), ?_⟩
    rcases h with ⟨u, c, o, zu, zc, k⟩ | ⟨ny, bad⟩
    rotate_left
    · exact ⟨_, rfl, y, rfl, .inr ⟨ny, bad⟩⟩
    refine ⟨_, rfl, y, rfl, .inl ⟨u, c, o, sm_sz zu, fun H1 q s1 M => ?_⟩⟩
    have N1 := N.same s1
    obtain ⟨dp, hp⟩ := id N1.at_
    obtain ⟨dq, hq⟩ := id M.at_
    refine ⟨_, rfl, p, CN K, dp, _, _, rfl, hp, cl T, nT T, numF_top _ _, _, rfl, q, dq, _, rfl, hq, q, u, c, rfl, M, sm_sz zu, sm_sz zc, _, _, rfl, rfl, cm zt zu, _, rfl, p, CN K, dp, _, _, rfl, hp, cl T, nB T, numF_bot _ _, _, rfl, q, dq, _, rfl, hq, q, u, c, rfl, M, sm_sz zu, sm_sz zc, _, _, rfl, rfl, cm zb zc, ?_⟩
    exact ⟨_, _, rfl, (Int.mul_ne_zero (by have := N.pos; omega) (by have := M.pos; omega)), sz_mulS zb zc, fun H2 r s2 nr R => k H2 r (s1.trans s2) R⟩
end
end K04

namespace K04
open PySem PySem.Spec PyProof.Rows L2 Hk NumM NumT SX
/-- a method of a Number with an operand that is none -/
def spOddX (C : Addr) (K : Fr) : Sp := fun vs H _ E => ∃ (p : Addr) (y : V) (t b : Int), vs = [.ref p, y] ∧ NumAt C H p t b ∧ NotNum K C H y ∧ Bad "NotANumber" K H E y
def spOverX (C : Addr) (K : Fr) : Sp := fun vs H Q E => ∃ (p : Addr) (y : V) (t b : Int), vs = [.ref p, y] ∧ NumAt C H p t b ∧ ((∃ c, Opd C H y 0 c ∧ Sm c ∧ Zero K H E) ∨ (NotNum K C H y ∧ Bad "NotANumber" K H E y))
def spPowX (C : Addr) (K : Fr) : Sp := fun vs H Q E => ∃ (p : Addr) (t b n : Int), vs = [.ref p, .int n] ∧ NumAt C H p t b ∧ ((n = 0 ∧ NewNum C H Q 1 1) ∨ (20 < n ∧ Bad "InvalidCount" K H E (.int n)))
section
variable {P : Program} {w : World} {K : Fr} {mg : Str → Option Value} {base : Heap}
theorem f_sign (T : Tx K mg) : ∃ fd, DAt K d_Number_sign fd ∧ FnOk P w K mg base CX0 1 (d_Number_sign.ad K) fd ["self"] (spGet (CN K) fun t _ => .int (sgn t)) := by
  obtain ⟨fd, D⟩ := a_Number_sign T.c
  refine ⟨fd, D, ok_of (N := ["self"]) D sc_Number_sign (fun vs H Q E h => ?_) (fun cdv A outer s H vs Q E hr h => ?_)⟩
  · obtain ⟨p, t, b, rfl, _⟩ := h
    rfl
  · obtain ⟨p, t, b, rfl, ⟨⟨dx, hp⟩, _, _⟩, _, _, k⟩ := h
    refine ⟨_, (pss_cons (ps_if (pt_cmpR op_eq (pe_fld (pv 0) rfl) pe_int (nomark _)) (pss_one (ps_ret pe_int)) pss_nil)
      (pss_one (ps_ret (pe_ifExp (pt_cmpR op_gt (pe_fld (pv 0) rfl) pe_int (nomark _)) pe_int (pe_un un_neg pe_int))))), ?_⟩
    refine ⟨_, rfl, p, CN K, dx, _, _, rfl, hp, cl T, nT T, numF_top _ _, rfl, _, rfl, ?_⟩
    refine ite2 (fun z => ?_) (fun z => ?_)
    · have e : t = 0 := V.int.inj (of_decide_eq_true z)
      subst e
      exact k
    · have e : ¬ t = 0 := fun q => z (decide_eq_true (by rw [q]))
      refine ⟨_, rfl, p, CN K, dx, _, _, rfl, hp, cl T, nT T, numF_top _ _, _, _, rfl, rfl, _, rfl, ?_⟩
      refine ite2 (fun q => ?_) (fun q => ?_)
      · have q' : 0 < t := of_decide_eq_true q
        have es : sgn t = 1 := by unfold sgn; rw [if_neg e, if_pos q']
        have k' : Q (.int (sgn t)) H := k
        rw [es] at k'
        exact k'
      · have q' : ¬ 0 < t := fun q2 => q (decide_eq_true q2)
        have es : sgn t = -1 := by unfold sgn; rw [if_neg e, if_neg q']
        have k' : Q (.int (sgn t)) H := k
        rw [es] at k'
        exact ⟨_, rfl, k'⟩
theorem f_raddX (T : Tx K mg) : ∃ fd, DAt K d_Number_radd fd ∧ FnOk P w K mg base (L2N.CX P w) 5 (d_Number_radd.ad K) fd ["self", "other"] (spOddX (CN K) K) := by
  obtain ⟨fd, D⟩ := a_Number_radd T.c
  have C_as_number := c_asX (P := P) (w := w) (base := base) T
  refine ⟨fd, D, okn_of (N := ["self", "other"]) D sc_Number_radd (fun vs H Q E h => ?_) (fun cdv A outer s H vs Q E hr h => ?_)⟩
  · obtain ⟨p, y, t, b, rfl, _⟩ := h
    rfl
  · obtain ⟨p, y, t, b, rfl, N, ny, bad⟩ := h
    exact ⟨_, (pss_one (ps_ret (pe_op op_add (pe_cn C_as_number (L2N.takes_of rfl rfl rfl rfl) hr (pa_cons (pv 1) pa_nil)) (pv 0)))), _, rfl, y, rfl, .inr ⟨ny, bad⟩⟩
theorem f_rsubX (T : Tx K mg) : ∃ fd, DAt K d_Number_rsub fd ∧ FnOk P w K mg base (L2N.CX P w) 5 (d_Number_rsub.ad K) fd ["self", "other"] (spOddX (CN K) K) := by
  obtain ⟨fd, D⟩ := a_Number_rsub T.c
  have C_as_number := c_asX (P := P) (w := w) (base := base) T
  refine ⟨fd, D, okn_of (N := ["self", "other"]) D sc_Number_rsub (fun vs H Q E h => ?_) (fun cdv A outer s H vs Q E hr h => ?_)⟩
  · obtain ⟨p, y, t, b, rfl, _⟩ := h
    rfl
  · obtain ⟨p, y, t, b, rfl, N, ny, bad⟩ := h
    exact ⟨_, (pss_one (ps_ret (pe_op op_sub (pe_cn C_as_number (L2N.takes_of rfl rfl rfl rfl) hr (pa_cons (pv 1) pa_nil)) (pv 0)))), _, rfl, y, rfl, .inr ⟨ny, bad⟩⟩
theorem f_overX (T : Tx K mg) : ∃ fd, DAt K d_Number_over fd ∧ FnOk P w K mg base (L2N.CX P w) 5 (d_Number_over.ad K) fd ["self", "other"] (spOverX (CN K) K) := by
  obtain ⟨fd, D⟩ := a_Number_over T.c
  have C_as_number := c_asX (P := P) (w := w) (base := base) T
  obtain ⟨f0, D0, F0⟩ := f_init (P := P) (w := w) (base := base) T
  obtain ⟨f1, D1, F1⟩ := f_top (P := P) (w := w) (base := base) T
  obtain ⟨f2, D2, F2⟩ := f_bottom (P := P) (w := w) (base := base) T
  obtain ⟨f3, D3, F3⟩ := f_sign (P := P) (w := w) (base := base) T
  have b1 : Binds K f1 ["self"] [] := FunD.bindsN D1 fun _ _ _ _ _ _ us hl => match us, hl with | [_], _ => rfl
  have b2 : Binds K f2 ["self"] [] := FunD.bindsN D2 fun _ _ _ _ _ _ us hl => match us, hl with | [_], _ => rfl
  have b3 : Binds K f3 ["self"] [] := FunD.bindsN D3 fun _ _ _ _ _ _ us hl => match us, hl with | [_], _ => rfl
  have xz := excB_ok (f_exc_zero T.c)
  refine ⟨fd, D, okn_of (N := ["self", "other", "divisor"]) D sc_Number_over (fun vs H Q E h => ?_) (fun cdv A outer s H vs Q E hr h => ?_)⟩
  · obtain ⟨p, y, t, b, rfl, _⟩ := h
    rfl
  · obtain ⟨p, y, t, b, rfl, N, h⟩ := h
    refine ⟨_, (pss_cons (ps_set (i := 2) sc_Number_over.nd rfl (.inl rfl) (pe_cn C_as_number (L2N.takes_of rfl rfl rfl rfl) hr (pa_cons (pv 1) pa_nil)))
      (pss_cons (ps_if (pt_cmpR op_eq (pe_prop (pv 2) (cl T) (prop_ok (f_prop_sign T.c)) F3 (hr.mono (by decide)) b3 .nil pass0 rfl) pe_int (nomark _)) (pss_one (ps_rz0 basR (f_ex0_zero T.c) xz (g_DividedByZero T) rfl (L2N.takes_of rfl rfl rfl rfl))) pss_nil)
      (pss_one (ps_ret (pe_num (mkN T) F0 (hr.mono (by decide)) (g_Number T) (b_init2 D0) .nil (pa_cons (pe_op op_mulW (pe_fld (pv 0) rfl) (pe_prop (pv 2) (cl T) (prop_ok (f_prop_bottom T.c)) F2 (hr.mono (by decide)) b2 .nil pass0 rfl)) (pa_cons (pe_op op_mulW (pe_fld (pv 0) rfl) (pe_prop (pv 2) (cl T) (prop_ok (f_prop_top T.c)) F1 (hr.mono (by decide)) b1 .nil pass0 rfl)) pa_nil))))))), ?_⟩
    rcases h with ⟨c, o, zc, ze⟩ | ⟨ny, bad⟩
    · refine ⟨_, rfl, y, rfl, .inl ⟨0, c, o, by decide +kernel, fun H1 q s1 M => ?_⟩⟩
      obtain ⟨dq, hq⟩ := id M.at_
      refine ⟨_, rfl, q, dq, _, rfl, hq, q, 0, c, rfl, M, by decide +kernel, sm_sz zc, rfl, _, rfl, iteTd (by show V.int (sgn 0) = V.int 0; decide +kernel) ?_⟩
      exact ze H1 s1
    · exact ⟨_, rfl, y, rfl, .inr ⟨ny, bad⟩⟩
theorem f_powX (T : Tx K mg) : ∃ fd, DAt K d_Number_pow fd ∧ FnOk P w K mg base (L2N.CX P w) 6 (d_Number_pow.ad K) fd ["self", "other"] (spPowX (CN K) K) := by
  obtain ⟨fd, D⟩ := a_Number_pow T.c
  have C_is_integer := c_isI (P := P) (w := w) (base := base) T
  have XC := xr_count (P := P) (w := w) (base := base) T
  obtain ⟨f0, D0, F0⟩ := f_init (P := P) (w := w) (base := base) T
  obtain ⟨f1, D1, F1⟩ := f_mulX (P := P) (w := w) (base := base) T
  obtain ⟨ds, Vd, B0⟩ := b_init1 D0
  have b1 : Binds K f1 ["self", "other"] [] := FunD.bindsN D1 fun _ _ _ _ _ _ us hl => match us, hl with | [_, _], _ => rfl
  obtain ⟨tm, im⟩ := i_MAX_POWER T
  refine ⟨fd, D, okn_of (N := ["self", "other", "power", "_"]) D sc_Number_pow (fun vs H Q E h => ?_) (fun cdv A outer s H vs Q E hr h => ?_)⟩
  · obtain ⟨p, t, b, n, rfl, _⟩ := h
    rfl
  · obtain ⟨p, t, b, n, rfl, N, h⟩ := h
    refine ⟨_, (pss_cons (ps_if (PW.pt (pw_or (pt_not (pt_val (pe_c C_is_integer (hr.mono (by decide)) (pa_cons (pv 1) pa_nil)))) (pw_or1 (pt_not (pt_chain op_le op_le pe_int (pv 1) (pe_glob (v := .int 20) rfl im ⟨_, rfl⟩))))))
 (pss_one (ps_rz XC (hr.mono (by decide)) rfl (L2N.takes_of rfl rfl rfl rfl) (pa_cons (pv 1) pa_nil)))
 pss_nil)
 (pss_cons (ps_set (i := 2) sc_Number_pow.nd rfl (.inl rfl) (pe_num (mkN T) F0 (hr.mono (by decide)) (g_Number T) B0 Vd (pa_cons pe_int pa_nil)))
 (pss_cons (ps_for PassesOwn.leaving rfl (pi_range1 (by rfl) (n_range T) (pa_cons (pv 1) pa_nil)) (pg_name (i := 3) sc_Number_pow.nd rfl (.inl rfl))
 (pss_one (ps_set (i := 2) sc_Number_pow.nd rfl (.inl rfl) (pe_op (op_binX (E := E) (bin_ok (f_bin_mul T.c)) F1 b1 hr (fun σ => L2N.passAt (L2N.takes_of rfl rfl rfl rfl) σ)) (pv 2) (pv 0)))))
 (pss_one (ps_ret (pv 2)))))), ?_⟩
    rcases h with ⟨rfl, k⟩ | ⟨hn, bad⟩
    · refine ⟨_, rfl, _, rfl, .inl ⟨0, rfl, true, rfl, iteF ?_⟩⟩
      refine ⟨_, rfl, _, _, rfl, rfl, true, rfl, iteT ?_⟩
      refine ⟨_, _, rfl, rfl, true, rfl, iteF ?_⟩
      refine ⟨1, 1, rfl, by decide, sz1, fun H1 q s1 nq M => ?_⟩
      rw [(low_one 1).1, (low_one 1).2] at M
      refine ⟨_, rfl, _, rfl, by decide, by decide, ?_⟩
      refine for_range (lo := 0) (n := 0) (fun i σ H' => H' = H1 ∧ σ = [some (.ref p), some (.int 0), some (.ref q), none]) ⟨rfl, rfl⟩ (fun i σ H' hi => absurd hi (Nat.not_lt_zero _)) ?_
      rintro σ H' ⟨rfl, rfl⟩
      exact ⟨_, rfl, k _ _ s1 nq M⟩
    · refine ⟨_, rfl, _, rfl, .inl ⟨n, rfl, true, rfl, iteF ?_⟩⟩
      refine ⟨_, rfl, _, _, rfl, rfl, true, congrArg V.bl (decide_eq_true (by omega)), iteT ?_⟩
      refine ⟨_, _, rfl, rfl, false, congrArg V.bl (decide_eq_false (by omega)), iteT ?_⟩
      exact ⟨_, rfl, xin_mk fun dd nd => bad H dd (Same.refl H) nd⟩
end
end K04

namespace K04
open PySem PySem.Spec PyProof.Rows L2 Hk NumM NumT SX
/-- an operand that is none, of the built-in type T -/
structure Odd (K : Fr) (H : Hp) (y : V) (T : String) : Prop where
  ty : TyO K H y T
  nn : NotNum K (CN K) H y
  ra : RightT K (CN K) "add" T
  rs : RightT K (CN K) "sub" T
  rm : RightT K (CN K) "mul" T
/-- it may stand on the left of + and - -/
def LeftOk (K : Fr) (y : V) (T : String) : Prop := (∃ b, y = .bl b ∧ T = "bool") ∨ ((PySem.W.findIn K (.type T) (PySem.dunder "add") = some none ∧ PySem.W.findIn K (.type T) (dunderR "add") = some none) ∧ (PySem.W.findIn K (.type T) (PySem.dunder "sub") = some none ∧ PySem.W.findIn K (.type T) (dunderR "sub") = some none))
def spJoined (K : Fr) : Sp := fun vs H _ E => ∃ (j : Int) (p : Addr) (y : V) (t b : Int) (T : String), vs = [.int j, .ref p, y] ∧ NumAt (CN K) H p t b ∧ Sm t ∧ Sm b ∧ Odd K H y T ∧ Bad "NotANumber" K H E y ∧
  (j = 0 ∨ j = 2 ∨ j = 4 ∨ j = 5 ∨ ((j = 1 ∨ j = 3) ∧ LeftOk K y T))
section
variable {P : Program} {w : World} {K : Fr} {mg : Str → Option Value} {base : Heap}
theorem c_joined (T : Tx K mg) : CalN P w K mg base 6 "_law_joined" (gAd "_law_joined" K) ["_law_way", "_law_number", "_law_odd"] (spJoined K) := by
  obtain ⟨fa, Da, Fa⟩ := f_addX (P := P) (w := w) (base := base) T
  obtain ⟨fs, Ds, Fs⟩ := f_subX (P := P) (w := w) (base := base) T
  obtain ⟨fm, Dm, Fm⟩ := f_mulX (P := P) (w := w) (base := base) T
  obtain ⟨fra, Dra, Fra⟩ := f_raddX (P := P) (w := w) (base := base) T
  obtain ⟨frs, Drs, Frs⟩ := f_rsubX (P := P) (w := w) (base := base) T
  obtain ⟨fo, Do, Fo⟩ := f_overX (P := P) (w := w) (base := base) T
  have ba : Binds K fa ["self", "other"] [] := FunD.bindsN Da fun _ _ _ _ _ _ us hl => match us, hl with | [_, _], _ => rfl
  have bs : Binds K fs ["self", "other"] [] := FunD.bindsN Ds fun _ _ _ _ _ _ us hl => match us, hl with | [_, _], _ => rfl
  have bm : Binds K fm ["self", "other"] [] := FunD.bindsN Dm fun _ _ _ _ _ _ us hl => match us, hl with | [_, _], _ => rfl
  have bra : Binds K fra ["self", "other"] [] := FunD.bindsN Dra fun _ _ _ _ _ _ us hl => match us, hl with | [_, _], _ => rfl
  have brs : Binds K frs ["self", "other"] [] := FunD.bindsN Drs fun _ _ _ _ _ _ us hl => match us, hl with | [_, _], _ => rfl
  have bo : Binds K fo ["self", "other"] [] := FunD.bindsN Do fun _ _ _ _ _ _ us hl => match us, hl with | [_, _], _ => rfl
  refine caln_of (d := d_l_joined) (N := ["_law_way", "_law_number", "_law_odd"]) (a_l_joined T.c) rfl sc_l_joined (g_l_joined T) (fun _ _ _ _ _ _ us hl => match us, hl with | [_, _, _], _ => rfl) (fun vs H Q E h => ?_) (fun cdv A outer s H vs Q E hr h => ?_)
  · obtain ⟨j, p, y, t, b, T', rfl, _⟩ := h
    rfl
  · obtain ⟨j, p, y, t, b, T', rfl, N, st, sb, od, bad, how⟩ := h
    refine ⟨_, (pss_cons (ps_if (pt_cmpR op_eq (pv 0) pe_int (nomark _)) (pss_one (ps_ret (pe_op (op_binX (E := E) (bin_ok (f_bin_add T.c)) Fa ba hr (fun σ => L2N.passAt (L2N.takes_of rfl rfl rfl rfl) σ)) (pv 1) (pv 2)))) pss_nil)
      (pss_cons (ps_if (pt_cmpR op_eq (pv 0) pe_int (nomark _)) (pss_one (ps_ret (pe_op (op_rbinX (E := E) (bin_ok (f_bin_add T.c)) (rbin_ok (f_rbin_add T.c)) ⟨_, PySem.F.slot_bool_add, declB_add⟩ Fra bra hr (fun σ => L2N.passAt (L2N.takes_of rfl rfl rfl rfl) σ)) (pv 2) (pv 1)))) pss_nil)
      (pss_cons (ps_if (pt_cmpR op_eq (pv 0) pe_int (nomark _)) (pss_one (ps_ret (pe_op (op_binX (E := E) (bin_ok (f_bin_sub T.c)) Fs bs hr (fun σ => L2N.passAt (L2N.takes_of rfl rfl rfl rfl) σ)) (pv 1) (pv 2)))) pss_nil)
      (pss_cons (ps_if (pt_cmpR op_eq (pv 0) pe_int (nomark _)) (pss_one (ps_ret (pe_op (op_rbinX (E := E) (bin_ok (f_bin_sub T.c)) (rbin_ok (f_rbin_sub T.c)) ⟨_, PySem.F.slot_bool_sub, declB_sub⟩ Frs brs hr (fun σ => L2N.passAt (L2N.takes_of rfl rfl rfl rfl) σ)) (pv 2) (pv 1)))) pss_nil)
      (pss_cons (ps_if (pt_cmpR op_eq (pv 0) pe_int (nomark _)) (pss_one (ps_ret (pe_op (op_binX (E := E) (bin_ok (f_bin_mul T.c)) Fm bm hr (fun σ => L2N.passAt (L2N.takes_of rfl rfl rfl rfl) σ)) (pv 1) (pv 2)))) pss_nil)
      (pss_one (ps_ret (pe_ifExp (pt_cmpR op_eq (pv 0) pe_int (nomark _)) (pe_meth (E := E) (pv 1) (cl T) (He.meth_ok (f_meth_over T.c)) Fo hr bo .nil (L2N.passes_call (L2N.takes_of rfl rfl rfl rfl) (fun _ _ _ _ z => z)) (pa_cons (pv 2) pa_nil)) (pe_op op_mul (pv 2) (pv 1)))))))))), ?_⟩
    obtain ⟨dx, hp⟩ := id N.at_
    rcases how with rfl | rfl | rfl | rfl | ⟨rfl | rfl, lo⟩
    · exact ⟨_, rfl, rfl, _, rfl, iteTd rfl ⟨_, rfl, _, rfl, p, dx, _, rfl, hp, .inl ⟨T', od.ty, od.ra⟩, p, y, t, b, rfl, N, st, sb, .inr ⟨od.nn, bad⟩⟩⟩
    · refine ⟨_, rfl, rfl, _, rfl, iteFd (by decide) ?_⟩
      refine ⟨_, rfl, rfl, _, rfl, iteFd (by decide) ?_⟩
      exact ⟨_, rfl, rfl, _, rfl, iteTd rfl ⟨_, rfl, _, rfl, p, dx, _, rfl, hp, .inl ⟨T', od.ty, od.rs⟩, p, y, t, b, rfl, N, st, sb, .inr ⟨od.nn, bad⟩⟩⟩
    · refine ⟨_, rfl, rfl, _, rfl, iteFd (by decide) ?_⟩
      refine ⟨_, rfl, rfl, _, rfl, iteFd (by decide) ?_⟩
      refine ⟨_, rfl, rfl, _, rfl, iteFd (by decide) ?_⟩
      refine ⟨_, rfl, rfl, _, rfl, iteFd (by decide) ?_⟩
      exact ⟨_, rfl, rfl, _, rfl, iteTd rfl ⟨_, rfl, _, rfl, p, dx, _, rfl, hp, .inl ⟨T', od.ty, od.rm⟩, p, y, t, b, rfl, N, st, sb, .inr ⟨od.nn, bad⟩⟩⟩
    · refine ⟨_, rfl, rfl, _, rfl, iteFd (by decide) ?_⟩
      refine ⟨_, rfl, rfl, _, rfl, iteFd (by decide) ?_⟩
      refine ⟨_, rfl, rfl, _, rfl, iteFd (by decide) ?_⟩
      refine ⟨_, rfl, rfl, _, rfl, iteFd (by decide) ?_⟩
      refine ⟨_, rfl, rfl, _, rfl, iteFd (by decide) ?_⟩
      refine ⟨_, rfl, rfl, _, rfl, iteTd rfl ?_⟩
      exact ⟨_, rfl, p, dx, _, rfl, hp, rfl, _, rfl, p, y, t, b, rfl, N, .inr ⟨od.nn, bad⟩⟩
    · refine ⟨_, rfl, rfl, _, rfl, iteFd (by decide) ?_⟩
      refine ⟨_, rfl, rfl, _, rfl, iteTd rfl ⟨_, rfl, _, rfl, p, dx, _, T', rfl, hp, od.ty, od.ra, ?_, p, y, t, b, rfl, N, od.nn, bad⟩⟩
      rcases lo with lo | lo
      · exact .inr lo
      · exact .inl lo.1
    · refine ⟨_, rfl, rfl, _, rfl, iteFd (by decide) ?_⟩
      refine ⟨_, rfl, rfl, _, rfl, iteFd (by decide) ?_⟩
      refine ⟨_, rfl, rfl, _, rfl, iteFd (by decide) ?_⟩
      refine ⟨_, rfl, rfl, _, rfl, iteTd rfl ⟨_, rfl, _, rfl, p, dx, _, T', rfl, hp, od.ty, od.rs, ?_, p, y, t, b, rfl, N, od.nn, bad⟩⟩
      rcases lo with lo | lo
      · exact .inr lo
      · exact .inl lo.2
end
end K04

namespace Hk
open PySem PySem.Spec PyProof.Rows L2
/-! ### of which classes an error is -/
def ownBs : List (Str × Nat) := [("InputError", 0), ("NetError", 1), ("StateError", 2), ("LimitError", 3)]
def pyBs : List (String × Nat) := [("ValueError", 0), ("LookupError", 1), ("RuntimeError", 2), ("ArithmeticError", 3)]
def kits (K : Fr) (C : Addr) (i : Nat) : Bool := (ownBs.all fun p => decide (PySem.W.kitOne K (.ref C) (.ref (He.ga K p.1)) = some (decide (p.2 = i)))) && (pyBs.all fun p => decide (PySem.W.kitOne K (.ref C) (.type p.1) = some (decide (p.2 = i))))
structure RowC (K : Fr) (D : Addr) (i : Nat) : Prop where
  x : ExcC K D
  o : ∀ p ∈ ownBs, PySem.W.kitOne K (.ref D) (.ref (He.ga K p.1)) = some (decide (p.2 = i))
  b : ∀ p ∈ pyBs, PySem.W.kitOne K (.ref D) (.type p.1) = some (decide (p.2 = i))
theorem kits_ok {K : Fr} {C : Addr} {i : Nat} (x : ExcC K C) (c : kits K C i = true) : RowC K C i := by
  obtain ⟨c1, c2⟩ := He.ba c
  exact ⟨x, fun p hp => of_decide_eq_true (List.all_eq_true.mp c1 p hp), fun p hp => of_decide_eq_true (List.all_eq_true.mp c2 p hp)⟩
/-- a class with fields over the base i: its facts; all its fields have no class attribute -/
def tEc (x : Str) (fs : List Str) (i : Nat) : Tst := fun K => tVe x K && (tInit x K && (kits K (He.ga K x) i && fs.all fun f => tNof x f K))
structure EcC (K : Fr) (C fI : Addr) (fs : List Str) (i : Nat) : Prop where
  v : VeC K C
  iC : PySem.W.findIn K (.ref C) "__init__" = some (some (.ref fI))
  tI : PySem.W.typeIn K (.ref fI) = some (.type "function")
  r : RowC K C i
  n : ∀ f ∈ fs, PySem.W.findIn K (.ref C) f = some none
theorem ec_ok {K : Fr} {x : Str} {fs : List Str} {i : Nat} (c : tEc x fs i K = true) : EcC K (He.ga K x) (mAd x "__init__" K) fs i := by
  obtain ⟨c1, c⟩ := He.ba c
  obtain ⟨c2, c⟩ := He.ba c
  obtain ⟨c3, c4⟩ := He.ba c
  obtain ⟨c5, c6⟩ := He.ba c2
  have v := veB_ok c1
  exact ⟨v, (own_ok c5).at_, of_decide_eq_true c6, kits_ok v.x c3, fun f hf => He.eqO_ok (List.all_eq_true.mp c4 f hf)⟩
/-- a class without a def of its own -/
def tEb (x : Str) (bm : List Value) (n : String) (i : Nat) : Tst := fun K => PySem.W.excIn K (He.ga K x) bm n && (PySem.W.keepIn K (.ref (He.ga K x)) && (excB K (He.ga K x) && kits K (He.ga K x) i))
structure EbC (K : Fr) (C : Addr) (i : Nat) : Prop where
  e : ∃ B newId initId bm, ExcBaseFacts B newId initId bm ∧ PySem.W.excIn K C bm newId = true
  kC : PySem.W.keepIn K (.ref C) = true
  r : RowC K C i
theorem eb_ok {K : Fr} {x : Str} {B n ii : String} {bm : List Value} {i : Nat} (b : Bas B n ii bm) (c : tEb x bm n i K = true) : EbC K (He.ga K x) i := by
  obtain ⟨c1, c⟩ := He.ba c
  obtain ⟨c2, c⟩ := He.ba c
  obtain ⟨c3, c4⟩ := He.ba c
  exact ⟨⟨B, n, ii, bm, b.f, c1⟩, c2, kits_ok (excB_ok c3) c4⟩
theorem kwN {K : Fr} {x qual : Str} {params : Arguments} {body : List Stmt} {scope : Scope} {kws : List (Str × V)} {f : Addr} {fd : FuncData} {ps ks : List Str} {g : List Value → List Value} (F : FunD K x qual params body scope [] kws f fd)
    (h : ∀ (kV doc pm : Value) (an : Option Addr) (cdv ct v : Value) (ws : List Value), ws.length = ks.length → bindArgs (PySem.W.fnOf x qual params body scope .none kV doc pm an cdv ct) ⟨[v], ks.zip ws⟩ = pure (ps.zip (v :: g ws))) :
    ∀ (s' : Shared) (a : Addr) (ws : List Value), K.In s'.heap → ws.length = ks.length → BindsTo s' fd ⟨[.ref a], ks.zip ws⟩ (ps.zip (.ref a :: g ws)) := by
  obtain ⟨oc, od, dV, kV, doc, pm, an, cdv, ct, osl, rfl, lk, hcd, hD, hK⟩ := F.ex
  rcases hD with ⟨_, rfl⟩ | ⟨e, _⟩
  · exact fun s' a ws _ hl => .of_eq (h kV doc pm an cdv ct (.ref a) ws hl)
  · exact absurd rfl e
/-- a class by its name: called with one value, or with it by its name -/
structure ErC (P : Program) (w : World) (K : Fr) (mg : Str → Option Value) (base : Heap) (x f : Str) (i : Nat) : Prop where
  c : EcC K (He.ga K x) (mAd x "__init__" K) [f] i
  m : mg x = some (.ref (He.ga K x))
  fn : ∃ fd, FnOk P w K mg base CX0 1 (mAd x "__init__" K) fd [("self" : Str), f] (spSet (He.ga K x) f) ∧ Binds K fd [("self" : Str), f] [] ∧
    ∀ (s' : Shared) (a : Addr) (ws : List Value), K.In s'.heap → ws.length = 1 → BindsTo s' fd ⟨[.ref a], List.zip [f] ws⟩ (List.zip [("self" : Str), f] (.ref a :: ws))
def tE1 (C : Addr) (f : Str) (t : TA) : TE := fun σ H Q => t σ H fun vs H1 => ∃ y, vs = [y] ∧ ∀ H' a, Same H1 H' → H1 a = none → VeAt H' a C [(f, y)] → Q (.ref a) H'
theorem set_same {H : Hp} {a dx C : Addr} {f : Str} {y : V} (na : H a = none) (nd : upd H a (exo a C none) dx = none) (ne : dx ≠ a) :
    Same H (upd (upd (upd H a (exo a C none)) dx (exd dx [(f, y)])) a (exo a C (some dx))) ∧ VeAt (upd (upd (upd H a (exo a C none)) dx (exd dx [(f, y)])) a (exo a C (some dx))) a C [(f, y)] := by
  rw [upd_ne ne] at nd
  refine ⟨fun b o e => ?_, dx, upd_same, ?_⟩
  · rw [upd_ne (ne_of_none e na), upd_ne (ne_of_none e nd), upd_ne (ne_of_none e na)]
    exact e
  · rw [upd_ne ne, upd_same]
theorem sp_set {H : Hp} {C a : Addr} {f : Str} {y : V} {Q : VK} (na : H a = none) (q : ∀ H' a, Same H H' → H a = none → VeAt H' a C [(f, y)] → Q (.ref a) H') :
    spSet C f [.ref a, y] (upd H a (exo a C none)) (fun v H2 => v = .non ∧ Q (.ref a) H2) E0 := by
  refine ⟨a, y, rfl, upd_same, fun dx nd ne => ⟨rfl, ?_⟩⟩
  obtain ⟨s, v⟩ := set_same (f := f) (y := y) na nd ne
  exact q _ a s na v
section
variable {X : Cx} {x f : Str} {i : Nat}
theorem pe_e1 {e : Expr} {t : TA} {p pos : Pos} (c : ErC X.prog X.w X.K X.mg X.base x f i) (hr : Room 2 X.A) (ha : PA X [e] t) (hg : Gl X x := by rfl)
    (hdb : (x == ("__debug__" : Str)) = false := by decide) (he : starEach [e] X.env = (false, eval e X.env) :: starEach [] X.env := by rfl) (hpl : (backTo pos (starEach [] X.env)).any (·.1) = false := by rfl) :
    PE X (.Call (.Name x p) [e] [] pos) (tE1 (He.ga X.K x) f t) := by
  obtain ⟨fd, F, b, _⟩ := c.fn
  refine ⟨fun pins s σ H Q I h => wpAny_Call_Name_kw (ld_glob I hg c.m ?_ hdb)⟩
  refine PySem.W.callWith_K (h₀ := X.base) I.ok.mod.kin c.c.v.kC (thn (ha.run pos pins s σ H _ I h) fun us s1 hu => ?_) he hpl
  obtain ⟨vs, H1, J, r, y, rfl, q⟩ := hu
  obtain ⟨u, rfl, ru⟩ := r.one
  refine ⟨J.kIn, run_ve (ks := []) (ws := []) (vl := fun a => [.ref a, y]) (al := fun a => [.ref a, u]) c.c.v c.c.iC c.c.tI F hr J (by show 1 ≤ sizeLine; decide) (fun s' a Y => ?_) (fun a => .cons rfl (.cons ru .nil)) fun a na => sp_set na q⟩
  exact b s' [.ref a, u] Y rfl
def tEK (C : Addr) (f : Str) (tk : TA) : TE := fun σ H Q => tk σ H fun zs H1 => ∃ y, zs = [y] ∧ ∀ H' a, Same H1 H' → H1 a = none → VeAt H' a C [(f, y)] → Q (.ref a) H'
theorem pe_eK {kws : List Keyword} {tk : TA} {p pos : Pos} (c : ErC X.prog X.w X.K X.mg X.base x f i) (hr : Room 2 X.A) (hk : PK X kws tk) (hg : Gl X x := by rfl)
    (hall : (backToKw pos (keywordEach kws X.env)).all (·.1.isSome) = true := by rfl) (hks : (backToKw pos (keywordEach kws X.env)).filterMap (·.1) = [f] := by rfl) (hdb : (x == ("__debug__" : Str)) = false := by decide)
    (hpl : ((backTo pos (starEach [] X.env)).any (·.1) || (backToKw pos (keywordEach kws X.env)).any (·.1.isNone)) = false := by rfl) : PE X (.Call (.Name x p) [] kws pos) (tEK (He.ga X.K x) f tk) := by
  obtain ⟨fd, F, _, b⟩ := c.fn
  refine ⟨fun pins s σ H Q I h => wpAny_Call_Name_kw (ld_glob I hg c.m ?_ hdb)⟩
  refine PySem.W.callWith_KW0 (h₀ := X.base) I.ok.mod.kin c.c.v.kC hall (thn (hk.run pos pins s σ H _ I h) fun ws s2 hu => ?_) hpl
  obtain ⟨zs, H2, J, rz, y, rfl, q⟩ := hu
  obtain ⟨u, rfl, ru⟩ := rz.one
  refine ⟨J.kIn, ?_⟩
  rw [hks]
  exact run_ve (us := []) (ws := [u]) (vl := fun a => [.ref a, y]) (al := fun a => [.ref a, u]) c.c.v c.c.iC c.c.tI F hr J (Nat.zero_le _) (fun s' a Y => b s' a [u] Y rfl) (fun a => .cons rfl (.cons ru .nil)) fun a na => sp_set na q
/-- C() -/
theorem pe_e0 {p pos : Pos} (c : EbC X.K (He.ga X.K x) i) (hm : X.mg x = some (.ref (He.ga X.K x))) (hg : Gl X x := by rfl) (hdb : (x == ("__debug__" : Str)) = false := by decide) :
    PE X (.Call (.Name x p) [] [] pos) (fun σ H Q => ∀ a, H a = none → Q (.ref a) (upd H a (ExO (.ref (He.ga X.K x)) a))) := by
  obtain ⟨B, n, ii, bm, F, q⟩ := c.e
  exact pe_ve0 F q hm c.kC hg hdb
end
/-! ### an error with two fields -/
def spSet2 (C : Addr) (f g : Str) : Sp := fun vs H Q _ => ∃ (a : Addr) (y z : V), vs = [.ref a, y, z] ∧ H a = some (exo a C none) ∧ ∀ dx, H dx = none → dx ≠ a → Q .non (upd (upd (upd H dx (exd dx [(f, y)])) a (exo a C (some dx))) dx (exd dx [(g, z), (f, y)]))
structure Er2C (P : Program) (w : World) (K : Fr) (mg : Str → Option Value) (base : Heap) (x f g : Str) (i : Nat) : Prop where
  c : EcC K (He.ga K x) (mAd x "__init__" K) [f, g] i
  m : mg x = some (.ref (He.ga K x))
  fn : ∃ fd, FnOk P w K mg base CX0 1 (mAd x "__init__" K) fd [("self" : Str), f, g] (spSet2 (He.ga K x) f g) ∧ Binds K fd [("self" : Str), f, g] [] ∧
    ∀ (s' : Shared) (a : Addr) (ws : List Value), K.In s'.heap → ws.length = 2 → BindsTo s' fd ⟨[.ref a], List.zip [g, f] ws⟩ (List.zip [("self" : Str), f, g] (.ref a :: ws.reverse))
theorem set2_same {H : Hp} {a dx C : Addr} {f g : Str} {y z : V} (na : H a = none) (nd : upd H a (exo a C none) dx = none) (ne : dx ≠ a) {G : Hp}
    (e : G = upd (upd (upd (upd H a (exo a C none)) dx (exd dx [(f, y)])) a (exo a C (some dx))) dx (exd dx [(g, z), (f, y)])) : Same H G ∧ VeAt G a C [(g, z), (f, y)] := by
  subst e
  rw [upd_ne ne] at nd
  refine ⟨fun b o e => ?_, dx, ?_, upd_same⟩
  · rw [upd_ne (ne_of_none e nd), upd_ne (ne_of_none e na), upd_ne (ne_of_none e nd), upd_ne (ne_of_none e na)]
    exact e
  · rw [upd_ne (Ne.symm ne), upd_same]
theorem sp_set2 {H : Hp} {C a : Addr} {f g : Str} {y z : V} {Q : VK} (na : H a = none) (q : ∀ H' a, Same H H' → H a = none → VeAt H' a C [(g, z), (f, y)] → Q (.ref a) H') :
    spSet2 C f g [.ref a, y, z] (upd H a (exo a C none)) (fun v H2 => v = .non ∧ Q (.ref a) H2) E0 := by
  refine ⟨a, y, z, rfl, upd_same, fun dx nd ne => ⟨rfl, ?_⟩⟩
  obtain ⟨s, v⟩ := set2_same (f := f) (g := g) (y := y) (z := z) na nd ne rfl
  exact q _ a s na v
section
variable {X : Cx} {x f g : Str} {i : Nat}
def tE2 (C : Addr) (f g : Str) (t : TA) : TE := fun σ H Q => t σ H fun vs H1 => ∃ y z, vs = [y, z] ∧ ∀ H' a, Same H1 H' → H1 a = none → VeAt H' a C [(g, z), (f, y)] → Q (.ref a) H'
theorem pe_e2 {e e2 : Expr} {t : TA} {p pos : Pos} (c : Er2C X.prog X.w X.K X.mg X.base x f g i) (hr : Room 2 X.A) (ha : PA X [e, e2] t) (hg : Gl X x := by rfl)
    (hdb : (x == ("__debug__" : Str)) = false := by decide) (he : starEach [e, e2] X.env = (false, eval e X.env) :: starEach [e2] X.env := by rfl) (hpl : (backTo pos (starEach [e2] X.env)).any (·.1) = false := by rfl) :
    PE X (.Call (.Name x p) [e, e2] [] pos) (tE2 (He.ga X.K x) f g t) := by
  obtain ⟨fd, F, b, _⟩ := c.fn
  refine ⟨fun pins s σ H Q I h => wpAny_Call_Name_kw (ld_glob I hg c.m ?_ hdb)⟩
  refine PySem.W.callWith_K (h₀ := X.base) I.ok.mod.kin c.c.v.kC (thn (ha.run pos pins s σ H _ I h) fun us s1 hu => ?_) he hpl
  obtain ⟨vs, H1, J, r, y, z, rfl, q⟩ := hu
  obtain ⟨u, u2, rfl, ru, ru2⟩ := vals2 r
  refine ⟨J.kIn, run_ve (ks := []) (ws := []) (vl := fun a => [.ref a, y, z]) (al := fun a => [.ref a, u, u2]) c.c.v c.c.iC c.c.tI F hr J (by show 2 ≤ sizeLine; decide) (fun s' a Y => ?_) (fun a => .cons rfl (.cons ru (.cons ru2 .nil))) fun a na => sp_set2 na q⟩
  exact b s' [.ref a, u, u2] Y rfl
def tE2K (C : Addr) (f g : Str) (tk : TA) : TE := fun σ H Q => tk σ H fun zs H1 => ∃ y z, zs = [z, y] ∧ ∀ H' a, Same H1 H' → H1 a = none → VeAt H' a C [(g, z), (f, y)] → Q (.ref a) H'
theorem pe_e2K {kws : List Keyword} {tk : TA} {p pos : Pos} (c : Er2C X.prog X.w X.K X.mg X.base x f g i) (hr : Room 2 X.A) (hk : PK X kws tk) (hg : Gl X x := by rfl)
    (hall : (backToKw pos (keywordEach kws X.env)).all (·.1.isSome) = true := by rfl) (hks : (backToKw pos (keywordEach kws X.env)).filterMap (·.1) = [g, f] := by rfl) (hdb : (x == ("__debug__" : Str)) = false := by decide)
    (hpl : ((backTo pos (starEach [] X.env)).any (·.1) || (backToKw pos (keywordEach kws X.env)).any (·.1.isNone)) = false := by rfl) : PE X (.Call (.Name x p) [] kws pos) (tE2K (He.ga X.K x) f g tk) := by
  obtain ⟨fd, F, _, b⟩ := c.fn
  refine ⟨fun pins s σ H Q I h => wpAny_Call_Name_kw (ld_glob I hg c.m ?_ hdb)⟩
  refine PySem.W.callWith_KW0 (h₀ := X.base) I.ok.mod.kin c.c.v.kC hall (thn (hk.run pos pins s σ H _ I h) fun ws s2 hu => ?_) hpl
  obtain ⟨zs, H2, J, rz, y, z, rfl, q⟩ := hu
  obtain ⟨u, u2, rfl, ru, ru2⟩ := vals2 rz
  refine ⟨J.kIn, ?_⟩
  rw [hks]
  exact run_ve (us := []) (ws := [u, u2]) (vl := fun a => [.ref a, y, z]) (al := fun a => [.ref a, u2, u]) c.c.v c.c.iC c.c.tI F hr J (Nat.zero_le _) (fun s' a Y => b s' a [u, u2] Y rfl) (fun a => .cons rfl (.cons ru2 (.cons ru .nil))) fun a na => sp_set2 na q
end
end Hk

namespace Hk
open PySem PySem.Spec PyProof.Rows L2
theorem Same.seqT {K : Fr} {H H' : Hp} {a : Addr} {xs : List V} (e : Same H H') (h : SqT K H a xs) : SqT K H' a xs := by
  rcases h with (h | ⟨o, h⟩) | h
  · exact .inl (.inl (e _ _ h))
  · exact .inl (.inr ⟨o, e _ _ h⟩)
  · exact .inr h
mutual
theorem dp_same {K : Fr} {H H' : Hp} (s : Same H H') : ∀ (d : PyData) (v : V), Dp K H v d → Dp K H' v d
  | .none, _, h => by cases h; exact .non
  | .bool _, _, h => by cases h; exact .bl _
  | .int _, _, h => by cases h; exact .int _
  | .str _, _, h => by cases h; exact .str _
  | .list ds, _, h => by
    cases h with
    | lst h1 h2 => exact .lst (s.seq h1) (dp_sames s ds _ h2)
  | .tuple ds, _, h => by
    cases h with
    | tup h1 h2 => exact .tup (Same.seqT s h1) (dp_sames s ds _ h2)
  | .dict _, _, h => by cases h
theorem dp_sames {K : Fr} {H H' : Hp} (s : Same H H') : ∀ (ds : List PyData) (vs : List V), DpAll K H vs ds → DpAll K H' vs ds
  | [], _, h => by cases h; exact .nil
  | d :: ds, _, h => by
    cases h with
    | cons h1 h2 => exact .cons (dp_same s d _ h1) (dp_sames s ds _ h2)
end
/-- z is what repr shows of x: data, or an empty dict -/
def Sh (K : Fr) (H : Hp) (x : V) (z : Str) : Prop := (∃ d, Dp K H x d ∧ d.showable = true ∧ d.depth ≤ 60 ∧ d.shown.length ≤ sizeLine ∧ z = d.shown) ∨ ∃ a, x = .ref a ∧ H a = some (.dK []) ∧ z = (PyData.dict []).shown
theorem Sh.same {K : Fr} {H H' : Hp} {x : V} {z : Str} (h : Sh K H x z) (s : Same H H') : Sh K H' x z := by
  rcases h with ⟨d, h1, h2⟩ | ⟨a, h1, h2, h3⟩
  · exact .inl ⟨d, dp_same s d _ h1, h2⟩
  · exact .inr ⟨a, h1, s _ _ h2, h3⟩
def rShow (K : Fr) : List V → Hp → VK → Prop := fun xs H Q => ∃ x z, xs = [x] ∧ Sh K H x z ∧ Q (.str z) H
theorem call_reprS {X : Cx} {k : Nat} (hc : Calm X.A) (hr : Room k X.A) : CallR X (.builtin "repr") (rShow X.K) := by
  intro pins s σ H xs us Q I r h
  obtain ⟨x, z, rfl, hz, q⟩ := h
  rcases hz with ⟨d, hd, h1, h2, h3, rfl⟩ | ⟨a, rfl, ha, rfl⟩
  · exact call_reprD hc hr pins s σ H [x] us Q I r ⟨x, d, rfl, hd, h1, h2, h3, q⟩
  · obtain ⟨u, rfl, ru⟩ := r.one
    cases (show u = Value.ref a from ru)
    obtain ⟨_, hsm, vs, kv, o, es, ep, h1, h2, h3, h4, h5, h6⟩ := (show ObjOk X.prog X.w H s.heap a (.dK []) from I.hok a _ ha)
    cases kv
    have e0 : es.toList = [] := by
      cases e : es.toList with
      | nil => rfl
      | cons k r =>
        rw [e] at h5
        exact nomatch h5
    have hrd : Reads s.heap (.ref a) (.dict []) (a :: [] ++ []) := Reads.dict h1 h2.1 h3 (by rw [e0]; exact .nil) (by rw [e0]; exact .nil)
    refine PySem.repr_of_reads' hrd (by simp [PyData.showable, PyData.showableKv]) (fun _ => ?_) hc ?_ (fun b o z => z) (fun h' u tk kp => ⟨.str _, H, I.kept kp, ⟨_, rfl⟩, q⟩) ?_
    · intro hm
      have e : sysModules = a := by simpa using hm
      rw [← e] at hsm
      simp at hsm
    · have := hr.units
      have e : (PyData.dict []).depth ≤ 1 := by simp [PyData.depth, PyData.depthKv]
      omega
    · decide +kernel
end Hk

namespace Hk
open PySem PySem.Spec PyProof.Rows L2
theorem call_reprSU {X : Cx} (hc : Calm X.A) (hu : X.A.units + 200 < cLine) : CallR X (.builtin "repr") (rShow X.K) := by
  intro pins s σ H xs us Q I r h
  obtain ⟨x, z, rfl, hz, q⟩ := h
  rcases hz with ⟨d, hd, h1, h2, h3, rfl⟩ | ⟨a, rfl, ha, rfl⟩
  · exact call_reprDU hc hu pins s σ H [x] us Q I r ⟨x, d, rfl, hd, h1, h2, h3, q⟩
  · obtain ⟨u, rfl, ru⟩ := r.one
    cases (show u = Value.ref a from ru)
    obtain ⟨_, hsm, vs, kv, o, es, ep, h1, h2, h3, h4, h5, h6⟩ := (show ObjOk X.prog X.w H s.heap a (.dK []) from I.hok a _ ha)
    cases kv
    have e0 : es.toList = [] := by
      cases e : es.toList with
      | nil => rfl
      | cons k r =>
        rw [e] at h5
        exact nomatch h5
    have hrd : Reads s.heap (.ref a) (.dict []) (a :: [] ++ []) := Reads.dict h1 h2.1 h3 (by rw [e0]; exact .nil) (by rw [e0]; exact .nil)
    refine PySem.repr_of_reads' hrd (by simp [PyData.showable, PyData.showableKv]) (fun _ => ?_) hc ?_ (fun b o z => z) (fun h' u tk kp => ⟨.str _, H, I.kept kp, ⟨_, rfl⟩, q⟩) ?_
    · intro hm
      have e : sysModules = a := by simpa using hm
      rw [← e] at hsm
      simp at hsm
    · have e : (PyData.dict []).depth ≤ 1 := by simp [PyData.depth, PyData.depthKv]
      omega
    · decide +kernel
end Hk
namespace K04
open PySem PySem.Spec PyProof.Rows L2 Hk NumM NumT SX L2H LamX
section
variable {P : Program} {w : World} {K : Fr} {mg : Str → Option Value} {base : Heap}
theorem f_strH (T : Tx K mg) : ∃ fd, DAt K d_Number_str fd ∧ FnH P w K mg base CX0 1 (d_Number_str.ad K) fd ["self"] (spGet (CN K) fun t b => .str (S (fL t b))) := by
  obtain ⟨fd, D⟩ := a_Number_str T.c
  refine ⟨fd, D, okh_n (N := ["self"]) D sc_Number_str (fun vs H Q E h => ?_) (fun cdv A outer s H vs Q E pp hot hr h => ?_)⟩
  · obtain ⟨p, t, b, rfl, _⟩ := h
    rfl
  · obtain ⟨p, t, b, rfl, ⟨⟨dx, hp⟩, _, _⟩, st, sb, k⟩ := h
    refine ⟨_, (pss_cons (ps_if (pt_cmpR op_eq (pe_fld (pv 0) rfl) pe_int (nomark _)) (pss_one (ps_ret (pe_callTy call_str_int (by rfl) (n_str T) bo_str (pa_cons (pe_fld (pv 0) rfl) pa_nil)))) pss_nil)
      (pss_one (ps_ret (pe_joined (.cons (pe_fmt (pe_fld (pv 0) rfl)) (.cons pe_str (.cons (pe_fmt (pe_fld (pv 0) rfl)) .nil))))))), ?_⟩
    refine ⟨_, rfl, p, CN K, dx, _, _, rfl, hp, cl T, nB T, numF_bot _ _, rfl, _, rfl, ?_⟩
    have l1 := i_len st
    have l2 := i_len sb
    refine ite2 (fun z => ?_) (fun z => ?_)
    · have e : b = 1 := V.int.inj (of_decide_eq_true z)
      refine ⟨_, rfl, p, CN K, dx, _, _, rfl, hp, cl T, nT T, numF_top _ _, _, rfl, log2_small st, ?_⟩
      show Q (.str _) H
      rw [toS]
      have k' : Q (.str (S (fL t b))) H := k
      unfold fL at k'
      rw [if_pos e] at k'
      exact k'
    · have e : ¬ b = 1 := fun q => z (decide_eq_true (by rw [q]))
      refine ⟨_, rfl, p, CN K, dx, _, _, rfl, hp, cl T, nT T, numF_top _ _, .inr ⟨_, rfl, log2_small st, _, rfl, ?_, _, rfl, ?_, ?_⟩⟩
      · rw [toS, empty_S, S_cat, S_len]
        exact line_ge (by rw [List.nil_append]; omega)
      · rw [toS, empty_S, slash_S, S_cat, S_cat, S_len]
        exact line_ge (by rw [List.nil_append, List.length_append]; simp; omega)
      · refine ⟨_, rfl, p, CN K, dx, _, _, rfl, hp, cl T, nB T, numF_bot _ _, .inr ⟨_, rfl, log2_small sb, _, rfl, ?_, ?_⟩⟩
        · rw [toS, toS, empty_S, slash_S, S_cat, S_cat, S_cat, S_len]
          exact line_ge (by rw [List.nil_append, List.length_append, List.length_append]; simp; omega)
        · show Q (.str _) H
          rw [toS, toS, empty_S, slash_S, S_cat, S_cat, S_cat, List.nil_append, List.append_assoc]
          have k' : Q (.str (S (fL t b))) H := k
          unfold fL at k'
          rw [if_neg e] at k'
          exact k'
theorem f_reprH (T : Tx K mg) : ∃ fd, DAt K d_Number_repr fd ∧ FnH P w K mg base CX0 4 (d_Number_repr.ad K) fd ["self"] (spGet (CN K) fun t b => .str (("Number(" : Str) ++ S (fL t b) ++ (")" : Str))) := by
  obtain ⟨fd, D⟩ := a_Number_repr T.c
  obtain ⟨fs, Ds, Fs⟩ := f_strH (P := P) (w := w) (base := base) T
  have bs : Binds K fs ["self"] [] := FunD.bindsN Ds fun _ _ _ _ _ _ us hl => match us, hl with | [_], _ => rfl
  refine ⟨fd, D, okh_n (N := ["self"]) D sc_Number_repr (fun vs H Q E h => ?_) (fun cdv A outer s H vs Q E pp hot hr h => ?_)⟩
  · obtain ⟨p, t, b, rfl, _⟩ := h
    rfl
  · obtain ⟨p, t, b, rfl, N, st, sb, k⟩ := h
    obtain ⟨dx, hp⟩ := id N.at_
    refine ⟨_, (pss_one (ps_ret (pe_joined (.cons pe_str (.cons (pe_fmt (pe_callTy (call_strOH (own_ok (f_meth_str T.c)) Fs bs (hr.mono (by decide)) (hotC_n hot List.mem_cons_self)) (by rfl) (n_str T) bo_str (pa_cons (pv 0) pa_nil))) (.cons pe_str .nil)))))), ?_⟩
    have l := f_len st sb
    have e1 : Str.empty ++ ("Number(" : Str) = ("Number(" : Str) := by decide +kernel
    have l1 : ("Number(" : Str).length = 7 := by decide +kernel
    have l2 : (")" : Str).length = 1 := by decide +kernel
    have lap : ∀ x y : Str, (x ++ y).length = x.length + y.length := fun x y => by
      show (x.cps ++ y.cps).size = _
      rw [Array.size_append]
      rfl
    refine ⟨_, rfl, ?_, _, rfl, p, dx, _, rfl, hp, p, t, b, rfl, N, st, sb, _, rfl, .inl ⟨_, rfl, ?_, _, rfl, ?_, _, rfl, ?_, ?_⟩⟩
    · rw [e1, l1]
      exact line_ge (by decide)
    · rw [S_len]
      exact line_ge (by omega)
    · rw [e1, lap, l1, S_len]
      exact line_ge (by omega)
    · rw [e1, lap, lap, l1, l2, S_len]
      exact line_ge (by omega)
    · show Q (.str _) H
      rw [e1]
      exact k
/-- what repr gives: data, {} or a Number -/
def rAll' (K : Fr) : List V → Hp → VK → Prop := fun xs H Q => rShow K xs H Q ∨ rText (CN K) (spGet (CN K) fun t b => .str (("Number(" : Str) ++ S (fL t b) ++ (")" : Str))) xs H Q
/-- repr of x gives z, wherever more stands -/
def Gives (K : Fr) (H : Hp) (x : V) (z : Str) : Prop := ∀ (H' : Hp) (Q : VK), Same H H' → Q (.str z) H' → rAll' K [x] H' Q
/-- a list of three is new -/
abbrev Three (H : Hp) (Q : VK) (a b c : V) : Prop := ∀ (l : Addr) (H' : Hp), Same H H' → H l = none → H' l = some (.lst [a, b, c]) → Q (.ref l) H'
/-- what _law_told makes of the lambda -/
def TTt (K : Fr) : (XK → Hp → VK → Prop) → Hp → VK → Prop := fun tl H Q =>
  tl (fun cls d H' => (cls = .ref (He.ga K "InvalidCount") ∧ ∃ dd x z, d = some dd ∧ H' dd = some (.xd [("value", x)]) ∧ Gives K H' x z ∧ Three H' Q (.str "count") (.str z) (.bl true)) ∨
      (cls = .ref (He.ga K "NotANumber") ∧ ∃ dd x z, d = some dd ∧ H' dd = some (.xd [("value", x)]) ∧ Gives K H' x z ∧ Three H' Q (.str "number") (.str z) (.bl true)) ∨
      (cls = .ref (He.ga K "DividedByZero") ∧ d = none ∧ Three H' Q (.str "zero") (.str "") (.bl true)))
    H (fun _ H' => [V.str "given", .str "", .bl true].length ≤ sizeLine ∧ ∀ l, H' l = none → Q (.ref l) (upd H' l (.lst [.str "given", .str "", .bl true])))
abbrev N_told : List Str := ["_law_act", "e"]
theorem g_told (T : Tx K mg) {X : Cx} (hP : X.prog = P) (hw : X.w = w) (hK : X.K = K) (hm : X.mg = mg) (hbase : X.base = base) (hc : Calm X.A) (q : Str) (cdv : Value) :
    GivesN 8 X N_told d_l_told.ql (defScope d_l_told.st) (d_l_told.ad X.K) cdv (defBody d_l_told.st) "_law_act" q (TTt K) := by
  subst hP hw hK hm hbase
  intro f c' s H Q tl act hr hco h
  obtain ⟨fp, Dp', Fp⟩ := f_reprH (P := X.prog) (w := X.w) (base := X.base) T
  have bp : Binds X.K fp ["self"] [] := FunD.bindsN Dp' fun _ _ _ _ _ _ us hl => match us, hl with | [_], _ => rfl
  have hu : (X.A.deeper (envOfC d_l_told.ql (defScope d_l_told.st) s.heap.objs.size (d_l_told.ad X.K) cdv)).units + 200 < cLine := by
    have := hr.un
    omega
  have RR : ∀ (a : Addr) (oe : Obj) (cls : Value) (d : Option Addr) (pn : List (Addr × Obj)), L2N.Zn cls d oe → (∃ vs, oe.data = .fields vs) →
      CallR (Cx.suite (cxOf CX0 X.prog X.w X.K X.mg X.base N_told d_l_told.ql (defScope d_l_told.st) (d_l_told.ad X.K) cdv X.A X.stack s H E0).nox a ((a, oe) :: pn)) (.builtin "repr") (rAll' X.K) := fun a oe cls d pn hz hf =>
    callr_or (call_reprSU hc hu) (call_reprOH (own_ok (f_meth_repr T.c)) Fp bp (roomH_mark (hr.mono (by decide)) _) (hotC_suite hz hf))
  refine ⟨_, pss_cons (ps_try_A (l := [(_, 1, _), (_, 1, _)]) rfl rfl sc_l_told.nd (takesN0 _)
      (tb := fun W D σ H => ∃ Ech : XK, (∀ cls d (σ' : L2.St) H', σ'.length = 2 → Ech cls d H' → W cls d σ' H') ∧ σ[0]? = some (some (.ref f)) ∧ H c' = some (CodeO c' q) ∧ tl Ech H (fun _ H' => D.nx σ H'))
      (fun W pn xe tk _ => ?body)
      (.cons (head_name ⟨rfl, by decide, .inl (g_InputError T)⟩) rfl rfl (fun a oe cls d pn hz hf =>
          pss_cons (ps_if (pt_val (pe_callB (call_isX hz.zc hf) (by rfl) (n_isinstance T) bo_isinstance (pa_cons (pv 1) (pa_cons (pe_glob (v := .ref (gAd "InvalidCount" X.K)) rfl (g_InvalidCount T) rfl) pa_nil))))
            (pss_one (ps_ret (pe_lst (pa_cons pe_str (pa_cons (pe_callB (RR a oe cls d pn hz hf) (by rfl) (n_repr T) bo_repr (pa_cons (pe_xfX hz.zc hf (pv 1)) pa_nil))
              (pa_cons (pe_callB (call_isX hz.zc hf) (by rfl) (n_isinstance T) bo_isinstance (pa_cons (pv 1) (pa_cons (pe_bltn (v := .ty "ValueError") (by rfl) (n_ValueError T) (by decide +kernel) rfl) pa_nil))) pa_nil)))))) pss_nil)
          (pss_one (ps_ret (pe_lst (pa_cons pe_str (pa_cons (pe_callB (RR a oe cls d pn hz hf) (by rfl) (n_repr T) bo_repr (pa_cons (pe_xfX hz.zc hf (pv 1)) pa_nil))
              (pa_cons (pe_callB (call_isX hz.zc hf) (by rfl) (n_isinstance T) bo_isinstance (pa_cons (pv 1) (pa_cons (pe_glob (v := .ref (gAd "NotANumber" X.K)) rfl (g_NotANumber T) rfl) pa_nil))) pa_nil)))))))
        (.cons (head_name ⟨rfl, by decide, .inl (g_DividedByZero T)⟩) rfl rfl (fun a oe cls d pn hz hf =>
          pss_one (ps_ret (pe_lst (pa_cons pe_str (pa_cons pe_str (pa_cons (pe_and (pe_callB (call_isX hz.zc hf) (by rfl) (n_isinstance T) bo_isinstance (pa_cons (pv 1) (pa_cons (pe_glob (v := .ref (gAd "StateError" X.K)) rfl (g_StateError T) rfl) pa_nil)))
              (pe_one (pe_callB (call_isX hz.zc hf) (by rfl) (n_isinstance T) bo_isinstance (pa_cons (pv 1) (pa_cons (pe_bltn (v := .ty "RuntimeError") (by rfl) (n_RuntimeError T) (by decide +kernel) rfl) pa_nil))))) pa_nil)))))) .nil)))
      (pss_one (ps_ret (pe_lst (pa_cons pe_str (pa_cons pe_str (pa_cons pe_bl pa_nil)))))), ?_⟩
  case body =>
    refine ⟨fun pins s' σ H' D I h' => ?_⟩
    obtain ⟨Ech, hW, h1, h2, h3⟩ := h'
    exact (pss_one (ps_expr (act W pn xe Ech _ _ tk hW))).run pins s' σ H' D I ⟨h1, h2, h3⟩
  have len2 : ∀ {σ' : L2.St} {v : V}, σ'.length = 2 → (σ'.set 1 (some v))[1]? = some (some v) := fun {σ' v} hl => by
    rw [List.getElem?_set_self (by omega)]
  refine ⟨_, fun cls d σ' H' hl he => ?_, rfl, hco, h⟩
  rcases he with ⟨rfl, dd, x, z, rfl, hdd, gz, k⟩ | ⟨rfl, dd, x, z, rfl, hdd, gz, k⟩ | ⟨rfl, rfl, k⟩
  · have xc := excB_ok (f_exc_InvalidCount T.c)
    refine ⟨true, of_decide_eq_true (f_exm_InvalidCount_InputError T.c), fun _ ax nax => ?_, fun z => nomatch z⟩
    refine ⟨_, len2 hl, _, _, _, true, rfl, xc, .inr ⟨dd, _, rfl, hdd⟩, rfl, fun u h => h, of_decide_eq_true (f_kit_InvalidCount_InvalidCount T.c), true, rfl, iteT ?_⟩
    refine ⟨_, len2 hl, rfl, _, dd, _, x, rfl, xfB_ok (f_xfc_InvalidCount T.c), He.eqO_ok (f_nof_InvalidCount T.c), rfl, hdd, rfl, gz H' _ (Same.refl _) ?_⟩
    refine ⟨_, len2 hl, _, _, _, true, rfl, xc, .inr ⟨dd, _, rfl, hdd⟩, rfl, fun u h => h, of_decide_eq_true (f_kitB_InvalidCount_ve T.c), ?_⟩
    exact ⟨(by show 3 ≤ sizeLine; decide), fun l nl => k l _ (same_upd nl) nl upd_same⟩
  · have xc := excB_ok (f_exc_NotANumber T.c)
    refine ⟨true, of_decide_eq_true (f_exm_NotANumber_InputError T.c), fun _ ax nax => ?_, fun z => nomatch z⟩
    refine ⟨_, len2 hl, _, _, _, false, rfl, xc, .inr ⟨dd, _, rfl, hdd⟩, rfl, fun u h => h, of_decide_eq_true (f_kit_NotANumber_InvalidCount T.c), false, rfl, iteF ?_⟩
    refine ⟨_, len2 hl, rfl, _, dd, _, x, rfl, xfB_ok (f_xfc_NotANumber T.c), He.eqO_ok (f_nof_NotANumber T.c), rfl, hdd, rfl, gz H' _ (Same.refl _) ?_⟩
    refine ⟨_, len2 hl, _, _, _, true, rfl, xc, .inr ⟨dd, _, rfl, hdd⟩, rfl, fun u h => h, of_decide_eq_true (f_kit_NotANumber_NotANumber T.c), ?_⟩
    exact ⟨(by show 3 ≤ sizeLine; decide), fun l nl => k l _ (same_upd nl) nl upd_same⟩
  · have xc := excB_ok (f_exc_zero T.c)
    refine ⟨false, of_decide_eq_true (f_exm_DividedByZero_InputError T.c), fun z => absurd z Bool.false_ne_true, fun _ => ?_⟩
    refine ⟨true, of_decide_eq_true (f_exm_DividedByZero_DividedByZero T.c), fun _ ax nax => ?_, fun z => nomatch z⟩
    refine ⟨_, len2 hl, _, _, _, true, rfl, xc, .inl rfl, rfl, fun u h => h, of_decide_eq_true (f_kit_DividedByZero_StateError T.c), true, rfl, iteT ?_⟩
    refine ⟨_, len2 hl, _, _, _, true, rfl, xc, .inl rfl, rfl, fun u h => h, of_decide_eq_true (f_kitB_zero_re T.c), ?_⟩
    exact ⟨(by show 3 ≤ sizeLine; decide), fun l nl => k l _ (same_upd nl) nl upd_same⟩
end
end K04

/-! Lists of Numbers, of pairs. -/
namespace Hk
open PySem PySem.Spec PyProof.Rows L2 NumM NumT SX
abbrev Ok2 (w : Int × Int) : Prop := 0 < w.2 ∧ Sz w.1 ∧ Sz w.2
theorem ok_low {h d : Int} (hd : d ≠ 0) (sh : Sz h) (sd : Sz d) : Ok2 (lowT h d, lowB h d) := ⟨low_pos hd, Nat.lt_of_le_of_lt (lowT_le hd) sh, Nat.lt_of_le_of_lt (lowB_le hd) sd⟩
/-- the text of a pair -/
abbrev tx (w : Int × Int) : Str := S (fL w.1 w.2)
def Nums (C : Addr) (H : Hp) : List V → List (Int × Int) → Prop
  | [], [] => True
  | v :: r, w :: s => (∃ p, v = .ref p ∧ NumAt C H p w.1 w.2) ∧ Nums C H r s
  | _, _ => False
theorem Nums.get {C : Addr} {H : Hp} : ∀ {rs : List V} {W : List (Int × Int)}, Nums C H rs W → ∀ {i : Nat} {x : V}, rs[i]? = some x → ∃ w p, W[i]? = some w ∧ x = .ref p ∧ NumAt C H p w.1 w.2
  | [], [], _, i, x, h => by simp at h
  | v :: r, w :: s, h, 0, x, e => by
    obtain ⟨⟨p, e1, N⟩, _⟩ := h
    simp only [List.getElem?_cons_zero, Option.some.injEq] at e
    subst e
    exact ⟨w, p, rfl, e1, N⟩
  | v :: r, w :: s, h, i + 1, x, e => by
    simp only [List.getElem?_cons_succ] at e ⊢
    exact Nums.get h.2 e
  | [], _ :: _, h, _, _, _ => h.elim
  | _ :: _, [], h, _, _, _ => h.elim
theorem Nums.len {C : Addr} {H : Hp} : ∀ {rs : List V} {W : List (Int × Int)}, Nums C H rs W → rs.length = W.length
  | [], [], _ => rfl
  | v :: r, w :: s, h => by
    simp only [List.length_cons]
    rw [Nums.len h.2]
  | [], _ :: _, h => h.elim
  | _ :: _, [], h => h.elim
theorem Nums.same {C : Addr} {H H' : Hp} (sm : Same H H') : ∀ {rs : List V} {W : List (Int × Int)}, Nums C H rs W → Nums C H' rs W
  | [], [], _ => trivial
  | v :: r, w :: s, h => by
    obtain ⟨⟨p, e1, N⟩, h2⟩ := h
    exact ⟨⟨p, e1, N.same sm⟩, Nums.same sm h2⟩
  | [], _ :: _, h => h.elim
  | _ :: _, [], h => h.elim
def Prs (H : Hp) : List V → List (Int × Int) → Prop
  | [], [] => True
  | v :: r, w :: s => (∃ p, v = .ref p ∧ H p = some (.tup [.int w.1, .int w.2])) ∧ Prs H r s
  | _, _ => False
theorem Prs.get {H : Hp} : ∀ {rs : List V} {W : List (Int × Int)}, Prs H rs W → ∀ {i : Nat} {x : V}, rs[i]? = some x → ∃ w p, W[i]? = some w ∧ x = .ref p ∧ H p = some (.tup [.int w.1, .int w.2])
  | [], [], _, i, x, h => by simp at h
  | v :: r, w :: s, h, 0, x, e => by
    obtain ⟨⟨p, e1, N⟩, _⟩ := h
    simp only [List.getElem?_cons_zero, Option.some.injEq] at e
    subst e
    exact ⟨w, p, rfl, e1, N⟩
  | v :: r, w :: s, h, i + 1, x, e => by
    simp only [List.getElem?_cons_succ] at e ⊢
    exact Prs.get h.2 e
  | [], _ :: _, h, _, _, _ => h.elim
  | _ :: _, [], h, _, _, _ => h.elim
theorem Prs.len {H : Hp} : ∀ {rs : List V} {W : List (Int × Int)}, Prs H rs W → rs.length = W.length
  | [], [], _ => rfl
  | v :: r, w :: s, h => by
    simp only [List.length_cons]
    rw [Prs.len h.2]
  | [], _ :: _, h => h.elim
  | _ :: _, [], h => h.elim
theorem Prs.same {H H' : Hp} (sm : Same H H') : ∀ {rs : List V} {W : List (Int × Int)}, Prs H rs W → Prs H' rs W
  | [], [], _ => trivial
  | v :: r, w :: s, h => by
    obtain ⟨⟨p, e1, N⟩, h2⟩ := h
    exact ⟨⟨p, e1, sm _ _ N⟩, Prs.same sm h2⟩
  | [], _ :: _, h => h.elim
  | _ :: _, [], h => h.elim
theorem take_snoc {α : Type} {W : List α} {i : Nat} {w : α} (h : W[i]? = some w) : W.take (i + 1) = W.take i ++ [w] := by
  rw [List.take_add_one, h]
  rfl
theorem tx_asc (W : List (Int × Int)) : ∀ x ∈ W.map tx, Asc x := fun x hx => by
  obtain ⟨w, _, rfl⟩ := List.mem_map.mp hx
  exact S_asc (fL_small _ _)
end Hk
namespace Hk
open PySem PySem.Spec PyProof.Rows L2 NumM NumT SX
theorem Nums.app {C : Addr} {H : Hp} : ∀ {a : List V} {A : List (Int × Int)} {b : List V} {B : List (Int × Int)}, Nums C H a A → Nums C H b B → Nums C H (a ++ b) (A ++ B)
  | [], [], _, _, _, h => h
  | v :: r, w :: s, _, _, h, g => ⟨h.1, Nums.app h.2 g⟩
  | [], _ :: _, _, _, h, _ => h.elim
  | _ :: _, [], _, _, h, _ => h.elim
theorem Prs.app {H : Hp} : ∀ {a : List V} {A : List (Int × Int)} {b : List V} {B : List (Int × Int)}, Prs H a A → Prs H b B → Prs H (a ++ b) (A ++ B)
  | [], [], _, _, _, h => h
  | v :: r, w :: s, _, _, h, g => ⟨h.1, Prs.app h.2 g⟩
  | [], _ :: _, _, _, h, _ => h.elim
  | _ :: _, [], _, _, h, _ => h.elim
theorem take_tx {W : List (Int × Int)} {i : Nat} {w : Int × Int} (h : W[i]? = some w) : ((W.take i).map tx).map V.str ++ [V.str (tx w)] = ((W.take (i + 1)).map tx).map V.str := by
  rw [take_snoc h, List.map_append, List.map_append]
  rfl
end Hk
namespace Hk
open PySem PySem.Spec PyProof.Rows L2 NumM NumT SX
theorem low_cross {h b h' b' : Int} (hb : b ≠ 0) (hb' : b' ≠ 0) (e : h * b' = h' * b) : lowT h b = lowT h' b' ∧ lowB h b = lowB h' b' := by
  refine low_of hb (low_pos hb') (low_cop hb') ?_
  have l := low_eq (h := h') (b := b') hb'
  refine Int.eq_of_mul_eq_mul_right hb' ?_
  grind
theorem Prs.old {a : Addr} {xs : List V} {H H' : Hp} (ha : H a = some (.lst xs)) (o : Old a H H') : ∀ {rs : List V} {W : List (Int × Int)}, Prs H rs W → Prs H' rs W
  | [], [], _ => trivial
  | v :: r, w :: s, h => by
    obtain ⟨⟨p, e1, N⟩, h2⟩ := h
    exact ⟨⟨p, e1, o _ _ N (ne_of N ha (by intro z; exact nomatch z))⟩, Prs.old ha o h2⟩
  | [], _ :: _, h => h.elim
  | _ :: _, [], h => h.elim
theorem Prs.three {H : Hp} {rs : List V} {W : List (Int × Int)} (h : Prs H rs W) (l : rs.length = 3) : ∃ p0 p1 p2 w0 w1 w2, rs = [.ref p0, .ref p1, .ref p2] ∧ W = [w0, w1, w2] ∧ H p0 = some (.tup [.int w0.1, .int w0.2]) ∧ H p1 = some (.tup [.int w1.1, .int w1.2]) ∧ H p2 = some (.tup [.int w2.1, .int w2.2]) := by
  match rs, W, h, l with
  | [_, _, _], [w0, w1, w2], h, _ =>
    obtain ⟨⟨p0, rfl, h0⟩, ⟨p1, rfl, h1⟩, ⟨p2, rfl, h2⟩, _⟩ := h
    exact ⟨p0, p1, p2, w0, w1, w2, rfl, rfl, h0, h1, h2⟩
  | [_, _, _], [], h, _ => exact h.elim
  | [_, _, _], [_], h, _ => exact h.2.elim
  | [_, _, _], [_, _], h, _ => exact h.2.2.elim
  | [_, _, _], _ :: _ :: _ :: _ :: _, h, _ => exact h.2.2.2.elim
theorem join_if {t : TS} {D : Ends} {σ : L2.St} {H : Hp} {b : Bool} (R : L2.St → Hp → Prop) (rest : ∀ σ' H', R σ' H' → D.nx σ' H') (h1 : b = true → (∀ σ' H', R σ' H' → D.nx σ' H') → t D σ H) (h2 : b = false → R σ H) : if b = true then t D σ H else tNext D σ H := by
  cases b with
  | true => exact iteT (h1 rfl rest)
  | false => exact iteF (rest _ _ (h2 rfl))
theorem if_cv {b : Bool} {y z : V} {i : Nat} {σ : L2.St} {H : Hp} {Q : VK} (hz : σ[i]? = some (some z)) (h : ∀ v, v = (if b = true then y else z) → Q v H) : if b = true then tC y σ H Q else tVar i σ H Q := by
  cases b with
  | true => exact iteT (h _ rfl)
  | false => exact iteF ⟨_, hz, h _ rfl⟩
theorem numF_no {m : Str} (h1 : ¬ (m = ("_top" : Str))) (h2 : ¬ (m = ("_bottom" : Str))) (t b : Int) : (numF t b).lookup m = none := by
  rw [← numF_eq, lookup_putF, if_neg h2, lookup_putF, if_neg h1]
  rfl
end Hk
namespace Hk
open PySem PySem.Spec PyProof.Rows L2 NumM NumT SX
theorem atI_end {α : Type} {xs : List α} {i : Nat} {v : α} (h : xs[i]? = some v) (hl : xs.length = i + 1) : atI xs (-1) = some v := by
  have e : xs = xs.take i ++ [v] := by
    rw [← take_snoc h, ← hl, List.take_length]
  rw [e]
  exact atI_last _ _
def pows (t b : Int) (i : Nat) : List (Int × Int) := (List.range (i + 1)).map fun k => (t ^ k, b ^ k)
theorem pows_zero (t b : Int) : pows t b 0 = [(1, 1)] := by simp [pows]
theorem pows_len (t b : Int) (i : Nat) : (pows t b i).length = i + 1 := by simp [pows]
theorem pows_get {t b : Int} {i k : Nat} (h : k ≤ i) : (pows t b i)[k]? = some (t ^ k, b ^ k) := by
  unfold pows
  rw [List.getElem?_map, List.getElem?_range (by omega)]
  rfl
theorem pows_succ (t b : Int) (i : Nat) : pows t b (i + 1) = pows t b i ++ [(t ^ (i + 1), b ^ (i + 1))] := by
  unfold pows
  rw [List.range_succ, List.map_append]
  rfl
theorem low_zero {b : Int} (hb : b ≠ 0) : lowT (0 * b) b = 0 ∧ lowB (0 * b) b = 1 := low_of hb (by decide) (by simp) (by simp)
theorem low_zero' {t b : Int} (hb : b ≠ 0) : lowT (0 * t) b = 0 ∧ lowB (0 * t) b = 1 := low_of hb (by decide) (by simp) (by simp)
/-- a sum of n + 1 equal fractions from one of n -/
theorem low_next {n t b : Int} (hb : 0 < b) : lowT (lowT (n * t) b * b + t * lowB (n * t) b) (lowB (n * t) b * b) = lowT ((n + 1) * t) b ∧ lowB (lowT (n * t) b * b + t * lowB (n * t) b) (lowB (n * t) b * b) = lowB ((n + 1) * t) b := by
  have l := low_eq (h := n * t) (b := b) (by omega)
  have p := low_pos (h := n * t) (b := b) (by omega)
  refine low_cross (Int.mul_ne_zero (by omega) (by omega)) (by omega) ?_
  generalize lowT (n * t) b = x at *
  generalize lowB (n * t) b = y at *
  grind
theorem Prs.at {H : Hp} {rs : List V} {W : List (Int × Int)} (h : Prs H rs W) {k : Nat} {w : Int × Int} (hw : W[k]? = some w) : ∃ p, rs[k]? = some (.ref p) ∧ H p = some (.tup [.int w.1, .int w.2]) := by
  have hk : k < rs.length := by rw [h.len]; exact (List.getElem?_eq_some_iff.mp hw).1
  obtain ⟨w', p, h1, h2, h3⟩ := h.get (i := k) (x := rs[k]) (by simp [hk])
  rw [hw] at h1
  cases h1
  exact ⟨p, by rw [← h2]; simp [hk], h3⟩
end Hk

namespace K04
open PySem PySem.Spec PyProof.Rows L2 Hk NumM NumT SX L2H LamX
def SprAt (a : Addr) (H : Hp) : Prop := ∃ d e c, H a = some (.lst (sprL d e c)) ∧ Spr d e c
theorem SprAt.same {a : Addr} {H H' : Hp} (s : SprAt a H) (h : Same H H') : SprAt a H' := by
  obtain ⟨d, e, c, h1, h2⟩ := s
  exact ⟨d, e, c, h _ _ h1, h2⟩
theorem SprAt.ne {a p : Addr} {H : Hp} (s : SprAt a H) (np : H p = none) : a ≠ p := by
  obtain ⟨d, e, c, h1, _⟩ := s
  exact ne_of_none h1 np
theorem SprAt.ext {a : Addr} {H H' : Hp} (s : SprAt a H) (h : ExtN H H') : SprAt a H' := by
  obtain ⟨d, e, c, h1, h2⟩ := s
  exact ⟨d, e, c, h _ _ h1 (fun ps z => nomatch z), h2⟩
def spNextO : Sp := fun vs H Q _ => ∃ (a : Addr) (m : Int), vs = [.ref a, .int m] ∧ SprAt a H ∧ 0 < m ∧ m.natAbs < 2 ^ 200 ∧ ∀ (v : Int) (H' : Hp), 0 ≤ v → v < m → Old a H H' → SprAt a H' → Q (.int v) H'
def spOneO : Sp := fun vs H Q _ => ∃ (a q : Addr) (xs : List V), vs = [.ref a, .ref q] ∧ SprAt a H ∧ H q = some (.lst xs) ∧ a ≠ q ∧ xs ≠ [] ∧ xs.length ≤ 1000 ∧ ∀ (x : V) (H' : Hp), x ∈ xs → Old a H H' → SprAt a H' → Q x H'
/-- what stays: all but the spring's list and the tables -/
def Kp (a : Addr) (H H' : Hp) : Prop := ∀ b o, H b = some o → b ≠ a → (∀ ps, o ≠ .tbl ps) → H' b = some o
theorem Kp.refl (a : Addr) (H : Hp) : Kp a H H := fun _ _ h _ _ => h
theorem Kp.trans {a : Addr} {H H1 H2 : Hp} (s : Kp a H H1) (t : Kp a H1 H2) : Kp a H H2 := fun b o h n m => t b o (s b o h n m) n m
theorem Kp.old {a : Addr} {H H1 : Hp} (s : Old a H H1) : Kp a H H1 := fun b o h n _ => s b o h n
theorem Kp.same {a : Addr} {H H1 : Hp} (s : Same H H1) : Kp a H H1 := fun b o h _ _ => s b o h
theorem Kp.ext {a : Addr} {H H1 : Hp} (s : ExtN H H1) : Kp a H H1 := fun b o h _ m => s b o h m
theorem Kp.new {a p : Addr} {H : Hp} {o : HO} (np : H p = none) : Kp a H (upd H p o) := Kp.same (same_upd np)
theorem num_kp {C : Addr} {H H' : Hp} {a p : Addr} {t b : Int} (N : NumAt C H p t b) (s : SprAt a H) (k : Kp a H H') : NumAt C H' p t b := by
  obtain ⟨d, e, c, h1, _⟩ := s
  obtain ⟨dx, h⟩ := N.at_
  exact ⟨⟨dx, k _ _ h (ne_of h h1 (by intro z; exact nomatch z)) (fun ps z => nomatch z)⟩, N.pos, N.cop⟩
theorem tabs_old {L : List (Addr × Str)} {a : Addr} {H H' : Hp} (h : Tabs L H) (s : SprAt a H) (o : Old a H H') : Tabs L H' := fun p hp => by
  obtain ⟨d, e, c, h1, _⟩ := s
  obtain ⟨ps, e1, e2, e3⟩ := h p hp
  refine ⟨ps, o _ _ e1 (ne_of e1 h1 (by intro z; exact nomatch z)), e2, fun pos cv hc => ?_⟩
  obtain ⟨c', r, g⟩ := e3 pos cv hc
  exact ⟨c', r, o _ _ g (ne_of g h1 (by intro z; exact nomatch z))⟩
/-- no number: of the built-in type T -/
inductive OkV (H : Hp) : V → String → Prop
  | non : OkV H .non "NoneType"
  | bl (b : Bool) : OkV H (.bl b) "bool"
  | dic {p : Addr} (e : H p = some (.dK [])) : OkV H (.ref p) "dict"
  | txt (z : Str) (h : (z.cps.toList.all (fun c => decide (c < 128)) && decide ((PyData.str z).shown.length ≤ sizeLine)) = true) : OkV H (.str z) "str"
  | tup {p : Addr} (xs : List Int) (h : xs = [1] ∨ xs = []) (e : H p = some (.tup (xs.map V.int))) : OkV H (.ref p) "tuple"
  | lst {p : Addr} (xs : List Int) (h : xs = [1] ∨ xs = []) (e : H p = some (.lst (xs.map V.int))) : OkV H (.ref p) "list"
theorem OkV.kp {H H' : Hp} {a : Addr} {x : V} {T : String} (h : OkV H x T) (s : SprAt a H) (k : Kp a H H') : OkV H' x T := by
  obtain ⟨d, e, c, h1, _⟩ := s
  cases h with
  | non => exact .non
  | bl b => exact .bl b
  | dic e => exact .dic (k _ _ e (ne_of e h1 (by intro z; exact nomatch z)) (fun ps z => nomatch z))
  | txt z h => exact .txt z h
  | tup xs h e => exact .tup xs h (k _ _ e (ne_of e h1 (by intro z; exact nomatch z)) (fun ps z => nomatch z))
  | lst xs h e =>
    refine .lst xs h (k _ _ e (ne_of e h1 (fun z => ?_)) (fun ps z => nomatch z))
    have := congrArg List.length (HO.lst.inj z)
    rcases h with rfl | rfl <;> simp [sprL] at this
theorem OkV.shown {K : Fr} {H : Hp} {a : Addr} {x : V} {T : String} (h : OkV H x T) (s : SprAt a H) : ∃ z, Asc z ∧ ∀ H', Kp a H H' → Gives K H' x z := by
  cases h with
  | non => exact ⟨(PyData.none).shown, lit_asc (by decide +kernel), fun H' k H'' Q s q => .inl ⟨_, _, rfl, .inl ⟨.none, .non, rfl, by decide, by decide +kernel, rfl⟩, q⟩⟩
  | bl b => exact ⟨(PyData.bool b).shown, lit_asc (by cases b <;> decide +kernel), fun H' k H'' Q s q => .inl ⟨_, _, rfl, .inl ⟨.bool b, .bl b, rfl, by cases b <;> decide, by cases b <;> decide +kernel, rfl⟩, q⟩⟩
  | @dic p e =>
    refine ⟨(PyData.dict []).shown, lit_asc (by decide +kernel), fun H' k H'' Q s' q => .inl ⟨_, _, rfl, .inr ⟨p, rfl, s' _ _ ?_, rfl⟩, q⟩⟩
    obtain ⟨d, e', c, h1, _⟩ := s
    exact k _ _ e (ne_of e h1 (by intro z; exact nomatch z)) (fun ps z => nomatch z)
  | txt z h =>
    obtain ⟨h1, h2⟩ := Bool.and_eq_true_iff.mp h
    refine ⟨(PyData.str z).shown, ?_, fun H' k H'' Q s q => .inl ⟨_, _, rfl, .inl ⟨.str z, .str z, ?_, by simp [PyData.depth], of_decide_eq_true h2, rfl⟩, q⟩⟩
    · rw [PyData.shown_str]; exact repr_asc (lit_asc h1)
    · rfl
  | @tup p xs h e =>
    have st : ∀ H', Kp a H H' → H' p = some (.tup (xs.map V.int)) := fun H' k => by
      obtain ⟨d, e', c, h1, _⟩ := s
      exact k _ _ e (ne_of e h1 (by intro z; exact nomatch z)) (fun ps z => nomatch z)
    rcases h with rfl | rfl
    · exact ⟨(PyData.tuple [.int 1]).shown, lit_asc (by decide +kernel), fun H' k H'' Q s' q => .inl ⟨_, _, rfl, .inl ⟨.tuple [.int 1], .tup (.inl (.inl (s' _ _ (st H' k)))) (.cons (.int 1) .nil), by decide +kernel, by decide +kernel, by decide +kernel, rfl⟩, q⟩⟩
    · exact ⟨(PyData.tuple []).shown, lit_asc (by decide +kernel), fun H' k H'' Q s' q => .inl ⟨_, _, rfl, .inl ⟨.tuple [], .tup (.inl (.inl (s' _ _ (st H' k)))) .nil, by decide +kernel, by decide +kernel, by decide +kernel, rfl⟩, q⟩⟩
  | @lst p xs h e =>
    have st : ∀ H', Kp a H H' → H' p = some (.lst (xs.map V.int)) := fun H' k => by
      have h2 := (OkV.lst xs h e).kp s k
      obtain ⟨d, e', c, h1, _⟩ := s
      refine k _ _ e (ne_of e h1 (fun z => ?_)) (fun ps z => nomatch z)
      have := congrArg List.length (HO.lst.inj z)
      rcases h with rfl | rfl <;> simp [sprL] at this
    rcases h with rfl | rfl
    · exact ⟨(PyData.list [.int 1]).shown, lit_asc (by decide +kernel), fun H' k H'' Q s' q => .inl ⟨_, _, rfl, .inl ⟨.list [.int 1], .lst (.inl (.inl (s' _ _ (st H' k)))) (.cons (.int 1) .nil), by decide +kernel, by decide +kernel, by decide +kernel, rfl⟩, q⟩⟩
    · exact ⟨(PyData.list []).shown, lit_asc (by decide +kernel), fun H' k H'' Q s' q => .inl ⟨_, _, rfl, .inl ⟨.list [], .lst (.inl (.inl (s' _ _ (st H' k)))) .nil, by decide +kernel, by decide +kernel, by decide +kernel, rfl⟩, q⟩⟩
section
variable {P : Program} {w : World} {K : Fr} {mg : Str → Option Value} {base : Heap}
theorem c_nextO (T : Tx K mg) : Cal P w K mg base 1 "_law_next" (gAd "_law_next" K) ["_law_spring_here", "_law_many"] spNextO :=
  (c_next T).imp fun vs H Q E ⟨a, m, e, ⟨d, x, c, h1, h2⟩, hm, hm2, k⟩ => ⟨a, m, d, x, c, e, h1, h2, hm, hm2, fun v d' e' c' v0 v1 s => k v _ v0 v1 Old.put ⟨d', e', c', upd_same, s⟩⟩
theorem c_oneO (T : Tx K mg) : Cal P w K mg base 2 "_law_one" (gAd "_law_one" K) ["_law_spring_here", "_law_things"] spOneO :=
  (c_one T).imp fun vs H Q E ⟨a, q, xs, e, ⟨d, x, c, h1, h2⟩, hq, ne, nx, hl, k⟩ => ⟨a, q, d, x, c, xs, e, h1, h2, hq, ne, nx, hl, fun v d' e' c' hv s => k v _ hv Old.put ⟨d', e', c', upd_same, s⟩⟩
theorem OkV.odd (T : Tx K mg) {H : Hp} {x : V} {t : String} (h : OkV H x t) : Odd K H x t := by
  cases h with
  | non => exact ⟨.inl .non, ⟨.inr ⟨_, .base .non, kit_ty (by decide +kernel)⟩, _, .base .non, of_decide_eq_true (f_kit_NoneType T.c)⟩, right_ok (f_right_add_NoneType T.c), right_ok (f_right_sub_NoneType T.c), right_ok (f_right_mul_NoneType T.c)⟩
  | bl b => exact ⟨.inl (.bl b), ⟨.inl ⟨b, rfl⟩, _, .base (.bl b), of_decide_eq_true (f_kit_bool T.c)⟩, right_ok (f_right_add_bool T.c), right_ok (f_right_sub_bool T.c), right_ok (f_right_mul_bool T.c)⟩
  | dic e => exact ⟨.inr ⟨rfl, _, _, rfl, e⟩, ⟨.inr ⟨_, .base (.dK e), kit_ty (by decide +kernel)⟩, _, .base (.dK e), of_decide_eq_true (f_kit_dict T.c)⟩, right_ok (f_right_add_dict T.c), right_ok (f_right_sub_dict T.c), right_ok (f_right_mul_dict T.c)⟩
  | txt z h => exact ⟨.inl (.str z), ⟨.inr ⟨_, .base (.str z), kit_ty (by decide +kernel)⟩, _, .base (.str z), of_decide_eq_true (f_kit_str T.c)⟩, right_ok (f_right_add_str T.c), right_ok (f_right_sub_str T.c), right_ok (f_right_mul_str T.c)⟩
  | tup xs h e => exact ⟨.inl (.tup e), ⟨.inr ⟨_, .base (.tup e), kit_ty (by decide +kernel)⟩, _, .base (.tup e), of_decide_eq_true (f_kit_tuple T.c)⟩, right_ok (f_right_add_tuple T.c), right_ok (f_right_sub_tuple T.c), right_ok (f_right_mul_tuple T.c)⟩
  | lst xs h e => exact ⟨.inl (.lst e), ⟨.inr ⟨_, .base (.lst e), kit_ty (by decide +kernel)⟩, _, .base (.lst e), of_decide_eq_true (f_kit_list T.c)⟩, right_ok (f_right_add_list T.c), right_ok (f_right_sub_list T.c), right_ok (f_right_mul_list T.c)⟩
theorem left_ok (T : Tx K mg) {H : Hp} {x : V} {t : String} (h : OkV H x t) (ht : t = "NoneType" ∨ t = "bool" ∨ t = "dict") : LeftOk K x t := by
  rcases ht with rfl | rfl | rfl
  · obtain ⟨a1, a2⟩ := He.ba (f_noop_add_NoneType T.c)
    obtain ⟨b1, b2⟩ := He.ba (f_noop_sub_NoneType T.c)
    exact .inr ⟨⟨He.eqO_ok a1, He.eqO_ok a2⟩, He.eqO_ok b1, He.eqO_ok b2⟩
  · generalize hh : ("bool" : String) = t at h
    cases h with
    | bl b => exact .inl ⟨_, rfl, hh⟩
    | _ => exact absurd hh (by decide)
  · obtain ⟨a1, a2⟩ := He.ba (f_noop_add_dict T.c)
    obtain ⟨b1, b2⟩ := He.ba (f_noop_sub_dict T.c)
    exact .inr ⟨⟨He.eqO_ok a1, He.eqO_ok a2⟩, He.eqO_ok b1, He.eqO_ok b2⟩
/-- no integer: what has no number's type, or a Number -/
def Val (K : Fr) (H : Hp) (x : V) : Prop := (∃ t, OkV H x t) ∨ ∃ p t b, x = .ref p ∧ NumAt (CN K) H p t b ∧ Sz t ∧ Sz b
theorem Val.kp {H H' : Hp} {a : Addr} {x : V} (h : Val K H x) (s : SprAt a H) (k : Kp a H H') : Val K H' x := by
  rcases h with ⟨t, h⟩ | ⟨p, t, b, rfl, N, st, sb⟩
  · exact .inl ⟨t, h.kp s k⟩
  · exact .inr ⟨p, t, b, rfl, (num_kp N s k), st, sb⟩
theorem Val.notInt (T : Tx K mg) {H : Hp} {x : V} (h : Val K H x) : NotInt K H x := by
  rcases h with ⟨t, h⟩ | ⟨p, t, b, rfl, N, _, _⟩
  · exact (h.odd T).nn.1
  · obtain ⟨dx, hp⟩ := N.at_
    exact .inr ⟨_, .base (ins_ok (f_ins T.c) hp (cl T)), of_decide_eq_true (f_kitB_int T.c)⟩
theorem Val.shown (T : Tx K mg) {H : Hp} {a : Addr} {x : V} (h : Val K H x) (s : SprAt a H) : ∃ z, Asc z ∧ ∀ H', Kp a H H' → Gives K H' x z := by
  rcases h with ⟨t, h⟩ | ⟨p, t, b, rfl, N, st, sb⟩
  · exact h.shown s
  · refine ⟨("Number(" : Str) ++ S (fL t b) ++ (")" : Str), ((lit_asc (by decide +kernel)).app (S_asc (fL_small t b))).app (lit_asc (by decide +kernel)), fun H' k H'' Q s' q => .inr ?_⟩
    have N' := (num_kp N s k).same s'
    obtain ⟨dx, hp⟩ := id N'.at_
    exact ⟨p, dx, _, rfl, hp, p, t, b, rfl, N', st, sb, _, rfl, q⟩
/-- 0 as an int or a Number -/
def spZero (K : Fr) : Sp := fun vs H Q _ => ∃ a : Addr, vs = [.ref a] ∧ SprAt a H ∧ ∀ y H', (∃ c, Opd (CN K) H' y 0 c ∧ Sm c) → Old a H H' → SprAt a H' → Q y H'
theorem c_zero (T : Tx K mg) : Cal P w K mg base 4 "_law_zero" (gAd "_law_zero" K) ["_law_spring_here"] (spZero K) := by
  have C_l_one := c_oneO (P := P) (w := w) (base := base) T
  obtain ⟨f0, D0, F0⟩ := f_init (P := P) (w := w) (base := base) T
  obtain ⟨ds, Vd, B0⟩ := b_init1 D0
  refine cal_of (d := d_l_zero) (N := ["_law_spring_here"]) (a_l_zero T.c) rfl sc_l_zero (g_l_zero T) (fun _ _ _ _ _ _ us hl => match us, hl with | [_], _ => rfl) (fun vs H Q E h => ?_) (fun cdv A outer s H vs Q E hr h => ?_)
  · obtain ⟨a, rfl, _⟩ := h
    rfl
  · obtain ⟨a, rfl, hs, k⟩ := h
    refine ⟨_, (pss_one (ps_ret (pe_c C_l_one (hr.mono (by decide)) (pa_cons (pv 0) (pa_cons (pe_lst (pa_cons pe_int (pa_cons (pe_num (mkN T) F0 hr (g_Number T) B0 Vd (pa_cons pe_int pa_nil)) (pa_cons (pe_num (mkN T) F0 hr (g_Number T) (b_init2 D0) .nil (pa_cons pe_int (pa_cons (pe_un un_neg pe_int) pa_nil))) pa_nil)))) pa_nil))))), ?_⟩
    refine ⟨_, rfl, 0, 1, rfl, by decide, by decide +kernel, fun H1 p1 s1 n1 N1 => ?_⟩
    refine ⟨_, rfl, 0, -7, rfl, by decide, by decide +kernel, fun H2 p2 s2 n2 N2 => ?_⟩
    refine ⟨(by show 3 ≤ sizeLine; decide), fun q nq => ?_⟩
    have z1 := low_zero (b := 1) (by decide)
    have z2 := low_zero (b := -7) (by decide)
    rw [Int.zero_mul] at z1 z2
    rw [z1.1, z1.2] at N1
    rw [z2.1, z2.2] at N2
    have hs2 := (hs.same s1).same s2
    have sq := same_upd (o := .lst [.int 0, .ref p1, .ref p2]) nq
    refine ⟨a, q, _, rfl, hs2.same sq, upd_same, hs2.ne nq, by simp, (by show 3 ≤ 1000; decide), fun x H3 hx o3 s3 => ?_⟩
    have M1 : NumAt (CN K) H3 p1 0 1 := num_kp ((N1.same s2).same sq) (hs2.same sq) (Kp.old o3)
    have M2 : NumAt (CN K) H3 p2 0 1 := num_kp (N2.same sq) (hs2.same sq) (Kp.old o3)
    refine k x H3 ⟨1, ?_, by decide +kernel⟩ ((Old.same ((s1.trans s2).trans sq)).trans o3) s3
    simp only [List.mem_cons, List.not_mem_nil, or_false] at hx
    rcases hx with rfl | rfl | rfl
    · exact .inr ⟨rfl, rfl⟩
    · exact .inl ⟨p1, rfl, M1⟩
    · exact .inl ⟨p2, rfl, M2⟩
end
end K04

namespace K04
open PySem PySem.Spec PyProof.Rows L2 Hk NumM NumT SX L2H LamX
abbrev N_right : List Str := ["_law_spring_here", "_law_number", "_law_odd", "_law_way", "_law_line", "_law_bad", "_law_told_here"]
abbrev TR (K : Fr) : List (Addr × Str) := [(pOf d_l_right K, ("_law_right" : Str) ++ ".<locals>." ++ "<lambda>")]
abbrev told3 (w z : Str) : PyData := .list [.str w, .str z, .bool true]
theorem dp_told {K : Fr} {H : Hp} {l : Addr} {w z : Str} (h : H l = some (.lst [.str w, .str z, .bl true])) : Dp K H (.ref l) (told3 w z) := .lst (.inl (.inl h)) (.cons (.str w) (.cons (.str z) (.cons (.bl true) .nil)))
theorem eqv_told {w z : Str} : PyData.eqv (told3 w z) (told3 w z) = true := by
  simp [PyData.eqv, PyData.eqvAll]
theorem asc_w {x : Str} (h : x.cps.toList.all (fun c => decide (c < 128)) = true) : Asc x := lit_asc h
theorem shaped_told {w z : Str} (hw : Asc w) (hz : Asc z) : SeqAt.shaped (told3 w z) = true := by
  have h1 := hw.ok
  have h2 := hz.ok
  simp [SeqAt.shaped, PyData.canLay0, PyData.canLayAll0, PyData.depth, PyData.depthAll, h1, h2]
/-- all is right that one number asks -/
def spRight (K : Fr) : Sp := fun vs H Q _ => ∃ a, vs = [.ref a] ∧ SprAt a H ∧ Tabs (TR K) H ∧ ∀ H', Kp a H H' → SprAt a H' → Tabs (TR K) H' → Q (.bl true) H'
abbrev ECH (K : Fr) (Q : VK) : XK := fun cls d H' => (cls = .ref (He.ga K "InvalidCount") ∧ ∃ dd x z, d = some dd ∧ H' dd = some (.xd [("value", x)]) ∧ Gives K H' x z ∧ Three H' Q (.str "count") (.str z) (.bl true)) ∨
      (cls = .ref (He.ga K "NotANumber") ∧ ∃ dd x z, d = some dd ∧ H' dd = some (.xd [("value", x)]) ∧ Gives K H' x z ∧ Three H' Q (.str "number") (.str z) (.bl true)) ∨
      (cls = .ref (He.ga K "DividedByZero") ∧ d = none ∧ Three H' Q (.str "zero") (.str "") (.bl true))
theorem none_same {H H' : Hp} {l : Addr} (s : Same H H') (n : H' l = none) : H l = none := by
  cases e : H l with
  | none => rfl
  | some o =>
    rw [s _ _ e] at n
    cases n
theorem bad_told {K : Fr} {a : Addr} {x : V} {z : Str} {H0 H1 H2 : Hp} {Q : VK} (gz : ∀ H', Kp a H0 H' → Gives K H' x z) (k1 : Kp a H0 H1) (s : Same H1 H2) (k : Three H1 Q (.str "count") (.str z) (.bl true)) : Bad "InvalidCount" K H2 (ECH K Q) x :=
  fun H3 d s3 nd => .inl ⟨rfl, d, x, z, rfl, upd_same, gz _ (k1.trans (Kp.same ((s.trans s3).trans (same_upd nd)))), fun l H4 s4 nl hl =>
    k l H4 (((s.trans s3).trans (same_upd nd)).trans s4) (none_same ((s.trans s3).trans (same_upd nd)) nl) hl⟩
theorem zero_told {K : Fr} {H1 H2 : Hp} {Q : VK} (s : Same H1 H2) (k : Three H1 Q (.str "zero") (.str "") (.bl true)) : Zero K H2 (ECH K Q) :=
  fun H3 s3 => .inr (.inr ⟨rfl, rfl, fun l H4 s4 nl hl => k l H4 ((s.trans s3).trans s4) (none_same (s.trans s3) nl) hl⟩)
theorem same_make {H : Hp} {x dx : Addr} {o o' : HO} (nx : H x = none) (ndx : H dx = none) (hne : dx ≠ x) : Same H (upd (upd H dx o) x o') :=
  (same_upd ndx).trans (same_upd (by rw [upd_ne (Ne.symm hne)]; exact nx))
inductive Lss (H : Hp) (m a : Addr) : List Addr → List (Str × Str) → Prop
  | nil : Lss H m a [] []
  | cons {l : Addr} {ls : List Addr} {w z : Str} {zs : List (Str × Str)} (h : H l = some (.lst [.str w, .str z, .bl true])) (n1 : l ≠ m) (n2 : l ≠ a) (r : Lss H m a ls zs) : Lss H m a (l :: ls) ((w, z) :: zs)
theorem Lss.kp {H H' : Hp} {m a : Addr} {ls : List Addr} {zs : List (Str × Str)} (I : Lss H m a ls zs) (k : Kp a H H') : Lss H' m a ls zs := by
  induction I with
  | nil => exact .nil
  | cons h n1 n2 r ih => exact .cons (k _ _ h n2 (fun ps q => nomatch q)) n1 n2 ih
theorem Lss.put {H : Hp} {m a : Addr} {o : HO} {ls : List Addr} {zs : List (Str × Str)} (I : Lss H m a ls zs) : Lss (upd H m o) m a ls zs := by
  induction I with
  | nil => exact .nil
  | cons h n1 n2 r ih => exact .cons (by rw [upd_ne n1]; exact h) n1 n2 ih
theorem Lss.snoc {H : Hp} {m a l : Addr} {w z : Str} {ls : List Addr} {zs : List (Str × Str)} (I : Lss H m a ls zs) (h : H l = some (.lst [.str w, .str z, .bl true])) (n1 : l ≠ m) (n2 : l ≠ a) : Lss H m a (ls ++ [l]) (zs ++ [(w, z)]) := by
  induction I with
  | nil => exact .cons h n1 n2 .nil
  | cons h' n1' n2' r ih => exact .cons h' n1' n2' ih
theorem Lss.dp {K : Fr} {H : Hp} {m a : Addr} {ls : List Addr} {zs : List (Str × Str)} (I : Lss H m a ls zs) : DpAll K H (ls.map V.ref) (zs.map fun p => told3 p.1 p.2) := by
  induction I with
  | nil => exact .nil
  | cons h n1 n2 r ih => exact .cons (dp_told h) ih
theorem tabs_put {L : List (Addr × Str)} {m : Addr} {xs : List V} {o : HO} {H : Hp} (h : Tabs L H) (hm : H m = some (.lst xs)) : Tabs L (upd H m o) := fun p hp => by
  obtain ⟨ps, e1, e2, e3⟩ := h p hp
  refine ⟨ps, by rw [upd_ne (ne_of e1 hm (by intro z; exact nomatch z))]; exact e1, e2, fun pos cv hc => ?_⟩
  obtain ⟨c', r, g⟩ := e3 pos cv hc
  exact ⟨c', r, by rw [upd_ne (ne_of g hm (by intro z; exact nomatch z))]; exact g⟩
theorem sprAt_put {a m : Addr} {o : HO} {H : Hp} (s : SprAt a H) (n : a ≠ m) : SprAt a (upd H m o) := by
  obtain ⟨d, e, c, h1, h2⟩ := s
  exact ⟨d, e, c, by rw [upd_ne n]; exact h1, h2⟩
theorem kp_put {a m : Addr} {o : HO} {H0 H : Hp} (k : Kp a H0 H) (n0 : ∀ o, H0 m = some o → ∃ ps, o = .tbl ps) : Kp a H0 (upd H m o) := fun b o' h n nt => by
  have e : b ≠ m := fun z => by
    subst z
    obtain ⟨ps, q⟩ := n0 _ h
    exact nt ps q
  rw [upd_ne e]
  exact k b o' h n nt
/-- m is the list of what was told so far -/
structure Sg (K : Fr) (a m : Addr) (H0 H : Hp) (ls : List Addr) (zs : List (Str × Str)) : Prop where
  k : Kp a H0 H
  s : SprAt a H
  t : Tabs (TR K) H
  n0 : ∀ o, H0 m = some o → ∃ ps, o = .tbl ps
  am : a ≠ m
  hm : H m = some (.lst (ls.map V.ref))
  l : Lss H m a ls zs
theorem Sg.kp {K : Fr} {a m : Addr} {H0 H H2 : Hp} {ls : List Addr} {zs : List (Str × Str)} (I : Sg K a m H0 H ls zs) (k : Kp a H H2) (s : SprAt a H2) (t : Tabs (TR K) H2) : Sg K a m H0 H2 ls zs :=
  ⟨I.k.trans k, s, t, I.n0, I.am, k _ _ I.hm (Ne.symm I.am) (fun ps q => nomatch q), I.l.kp k⟩
theorem Sg.step {K : Fr} {a m l : Addr} {w z : Str} {H0 H : Hp} {ls : List Addr} {zs : List (Str × Str)} (I : Sg K a m H0 H ls zs) (lm : l ≠ m) (la : l ≠ a) (hl : H l = some (.lst [.str w, .str z, .bl true])) :
    Sg K a m H0 (upd H m (.lst (ls.map V.ref ++ [.ref l]))) (ls ++ [l]) (zs ++ [(w, z)]) :=
  ⟨kp_put I.k I.n0, sprAt_put I.s I.am, tabs_put I.t I.hm, I.n0, I.am, by rw [List.map_append]; exact upd_same, (I.l.snoc hl lm la).put⟩
theorem Sg.first {K : Fr} {a m l : Addr} {w z : Str} {H0 H : Hp} (k : Kp a H0 H) (s : SprAt a H) (t : Tabs (TR K) H) (nm : H m = none) (la : l ≠ a) (hl : H l = some (.lst [.str w, .str z, .bl true])) : Sg K a m H0 (upd H m (.lst [.ref l])) [l] [(w, z)] := by
  have am : a ≠ m := s.ne nm
  have c := same_upd (o := .lst [.ref l]) nm
  refine ⟨k.trans (Kp.same c), s.same c, t.ext c, fun o e => ?_, am, upd_same, .cons (c _ _ hl) (ne_of_none hl nm) la .nil⟩
  by_cases h : ∃ ps, o = .tbl ps
  · exact h
  · have := k _ _ e (Ne.symm am) (fun ps q => h ⟨ps, q⟩)
    rw [nm] at this
    cases this
abbrev five (z : Str) : PyData := .list [told3 "count" z, told3 "count" z, told3 "count" z, told3 "zero" "", told3 "zero" ""]
theorem five_eqv {z : Str} : PyData.eqv (five z) (five z) = true := by
  simp [PyData.eqv, PyData.eqvAll]
theorem five_shaped {z : Str} (hz : Asc z) : SeqAt.shaped (five z) = true := by
  have h1 := (asc_w (x := "count") (by decide +kernel)).ok
  have h2 := hz.ok
  have h3 := (asc_w (x := "zero") (by decide +kernel)).ok
  have h4 := (asc_w (x := "") (by decide +kernel)).ok
  simp [SeqAt.shaped, PyData.canLay0, PyData.canLayAll0, PyData.depth, PyData.depthAll, h1, h2, h3, h4]
abbrev lines3 : PyData := .list [.str "0", .str "1", .str "given"]
theorem gives_int {K : Fr} {a : Addr} {H1 : Hp} {i : Int} {z : Str} (h : (PyData.int i).shown = z) (h1 : (PyData.int i).showable = true) (h2 : (PyData.int i).shown.length ≤ sizeLine) : ∀ H', Kp a H1 H' → Gives K H' (.int i) z := fun H' _ H'' Q s q =>
  .inl ⟨_, _, rfl, .inl ⟨.int i, .int i, h1, by simp [PyData.depth], h2, h.symm⟩, q⟩
section
variable {P : Program} {w : World} {K : Fr} {mg : Str → Option Value} {base : Heap}
abbrev RX (P : Program) (w : World) (K : Fr) (mg : Str → Option Value) (base : Heap) (A : Around) (outer : List Env) (s : Shared) (H : Hp) (E : XK) : Cx := (cxOf CX0 P w K mg base N_right d_l_right.ql (defScope d_l_right.st) (d_l_right.ad K) (.ref (cOf d_l_right K)) A outer s H E).nox
theorem pe_told {A : Around} {outer : List Env} {s : Shared} {H : Hp} {E0' : XK} {params : Arguments} {body : Expr} {scope : Scope} {t : XK → TE} {p lpos pos : Pos} {ft : FuncData} (T : Tx K mg) (TB : TabB base mg (cOf d_l_right K) (pOf d_l_right K))
    (hr : Room 10 (A.deeper (envOfC d_l_right.ql (defScope d_l_right.st) s.heap.objs.size (d_l_right.ad K) (.ref (cOf d_l_right K))))) (hc : Calm (A.deeper (envOfC d_l_right.ql (defScope d_l_right.st) s.heap.objs.size (d_l_right.ad K) (.ref (cOf d_l_right K))))) (Dt : DAt K d_l_told ft)
    (L : LamS (defScope d_l_right.st) scope) (hdef : defaultsOf params (RX P w K mg base A outer s H E0').env = ([], []))
    (hbind : ∀ (q : Str) (cl : List (Str × Addr)) (pm cv ctv : Value), bindArgs (PySem.W.kla_fn "<lambda>" q params body scope cl pm cv ctv) ⟨[], []⟩ = pure [])
    (hbody : ∀ (A' : Around) (outer' : List Env) (s' : Shared) (H' : Hp) (E : XK) (f c' : Addr), Room 8 (A'.deeper (lamEnv (RX P w K mg base A outer s H E0') scope s'.heap.objs.size f c')) → PE (lamCxN (RX P w K mg base A outer s H E0') A' outer' s' H' E scope f c') body (t E)) :
    PE (RX P w K mg base A outer s H E0') (.Call (.Name "_law_told" p) [.Lambda params body scope lpos] [] pos) (tLam (TR K) (TTt K) t) := by
  have bt : Binds K ft ["_law_act"] [] := FunD.bindsN Dt fun _ _ _ _ _ _ us hl => match us, hl with | [_], _ => rfl
  exact pe_lamN (X := RX P w K mg base A outer s H E0') (T := TR K) (TT := TTt K) (x := "_law_told") (a := "_law_act") (d := d_l_told) (k := 8) (Ng := N_told) (c := cOf d_l_right K) (P := pOf d_l_right K) rfl (g_l_told T) Dt rfl rfl bt sc_l_told rfl (.inl rfl) (fun cdv => g_told (P := P) (w := w) (mg := mg) (base := base) T rfl rfl rfl rfl rfl hc _ cdv) TB rfl List.mem_cons_self (fun p hp _ => congrArg Prod.snd (List.mem_singleton.mp hp)) hr L hdef hbind hbody
theorem c_right (T : Tx K mg) (TB : TabB base mg (cOf d_l_right K) (pOf d_l_right K)) : CalG P w K mg base 11 "_law_right" (gAd "_law_right" K) ["_law_spring_here"] (spRight K) := by
  have C_next := c_nextO (P := P) (w := w) (base := base) T
  have C_one := c_oneO (P := P) (w := w) (base := base) T
  have C_zero := c_zero (P := P) (w := w) (base := base) T
  have C_joined := c_joined (P := P) (w := w) (base := base) T
  obtain ⟨f0, D0, F0⟩ := f_init (P := P) (w := w) (base := base) T
  obtain ⟨fi, Di, Fi⟩ := f_initX (P := P) (w := w) (base := base) T
  obtain ⟨fa, Da, Fa⟩ := f_addX (P := P) (w := w) (base := base) T
  obtain ⟨fsub, Dsub, Fsub⟩ := f_subX (P := P) (w := w) (base := base) T
  obtain ⟨fo, Do, Fo⟩ := f_overX (P := P) (w := w) (base := base) T
  obtain ⟨fp, Dp', Fp⟩ := f_powX (P := P) (w := w) (base := base) T
  obtain ⟨fs, Ds, Fs⟩ := f_str (P := P) (w := w) (base := base) T
  obtain ⟨fr, Dr, Fr'⟩ := f_repr (P := P) (w := w) (base := base) T
  obtain ⟨ft, Dt⟩ := a_l_told T.c
  have ba : Binds K fa ["self", "other"] [] := FunD.bindsN Da fun _ _ _ _ _ _ us hl => match us, hl with | [_, _], _ => rfl
  have bsub : Binds K fsub ["self", "other"] [] := FunD.bindsN Dsub fun _ _ _ _ _ _ us hl => match us, hl with | [_, _], _ => rfl
  have bo : Binds K fo ["self", "other"] [] := FunD.bindsN Do fun _ _ _ _ _ _ us hl => match us, hl with | [_, _], _ => rfl
  have bp : Binds K fp ["self", "other"] [] := FunD.bindsN Dp' fun _ _ _ _ _ _ us hl => match us, hl with | [_, _], _ => rfl
  have bs : Binds K fs ["self"] [] := FunD.bindsN Ds fun _ _ _ _ _ _ us hl => match us, hl with | [_], _ => rfl
  have br : Binds K fr ["self"] [] := FunD.bindsN Dr fun _ _ _ _ _ _ us hl => match us, hl with | [_], _ => rfl
  have bt : Binds K ft ["_law_act"] [] := FunD.bindsN Dt fun _ _ _ _ _ _ us hl => match us, hl with | [_], _ => rfl
  refine calg_c (d := d_l_right) (N := N_right) (a_l_right T.c) rfl sc_l_right (g_l_right T) (fun _ _ _ _ _ _ us hl => match us, hl with | [_], _ => rfl) (fun vs H Q E h => ?_) (fun A outer s H vs Q E hr hc h => ?_)
  · obtain ⟨a, rfl, _⟩ := h
    rfl
  · obtain ⟨a, rfl, hs, hT, k⟩ := h
    have r1 := hr.mono (show 1 ≤ 10 by decide)
    have r2 := hr.mono (show 2 ≤ 10 by decide)
    have hu : ∀ p ∈ TR K, p.1 = pOf d_l_right K → p.2 = ("_law_right" : Str) ++ ".<locals>." ++ "<lambda>" := fun p hp _ => by
      rw [List.mem_singleton.mp hp]
    have hun : (A.deeper (envOfC d_l_right.ql (defScope d_l_right.st) s.heap.objs.size (d_l_right.ad K) (.ref (cOf d_l_right K)))).units + 200 < cLine := by
      have := hr.un
      omega
    have RR : CallR (cxOf CX0 P w K mg base N_right d_l_right.ql (defScope d_l_right.st) (d_l_right.ad K) (.ref (cOf d_l_right K)) A outer s H E).nox (.builtin "repr") (rAll' K) :=
      callr_or (call_reprSU hc hun) (call_reprO (own_ok (f_meth_repr T.c)) Fr' br (hr.mono (by decide)))
    refine ⟨_, (pss_cons (ps_set (i := 1) sc_l_right.nd rfl (.inr rfl) (pe_num (mkN T) F0 (hr.mono (by decide)) (g_Number T) (b_init2 D0) .nil (pa_cons (pe_op op_sub (pe_c C_next r1 (pa_cons (pv 0) (pa_cons pe_int pa_nil))) pe_int) (pa_cons (pe_op op_add pe_int (pe_c C_next r1 (pa_cons (pv 0) (pa_cons pe_int pa_nil)))) pa_nil))))
 (pss_cons (ps_set (i := 2) sc_l_right.nd rfl (.inr rfl) (pe_c C_one r2 (pa_cons (pv 0) (pa_cons (pe_lst (pa_cons pe_non (pa_cons pe_bl (pa_cons pe_bl (pa_cons pe_dnewK pa_nil))))) pa_nil))))
 (pss_cons (ps_for PassesOwn.never rfl (pi_list (pe_lst (pa_cons pe_int (pa_cons pe_int (pa_cons pe_int (pa_cons pe_int (pa_cons pe_int pa_nil))))))) (pg_name (i := 3) sc_l_right.nd rfl (.inr rfl)) (pss_one (ps_if (pt_cmpR (op_neD hr.units) (pe_told T TB hr hc Dt (lamS_by (by decide +kernel)) rfl (fun _ _ _ _ _ => rfl) (fun A outer s H E f c' hr' => pe_cn C_joined takes_lam (hr'.mono (by decide)) (pa_cons (pv 3) (pa_cons (pv 1) (pa_cons (pv 2) pa_nil))))) (pe_lst (pa_cons pe_str (pa_cons (pe_callB RR (by rfl) (n_repr T) bo_repr (pa_cons (pv 2) pa_nil)) (pa_cons pe_bl pa_nil)))) (nomark _)) (pss_one (ps_ret pe_bl)) pss_nil)))
 (pss_cons (ps_set (i := 4) sc_l_right.nd rfl (.inr rfl) (pe_c C_one r2 (pa_cons (pv 0) (pa_cons (pe_lst (pa_cons pe_str (pa_cons pe_str (pa_cons pe_str (pa_cons (pe_tup (pa_cons pe_int pa_nil)) (pa_cons (pe_lst (pa_cons pe_int pa_nil)) (pa_cons (pe_tup pa_nil) pa_nil))))))) pa_nil))))
 (pss_cons (ps_for PassesOwn.never rfl (pi_list (pe_lst (pa_cons pe_int (pa_cons pe_int (pa_cons pe_int (pa_cons pe_int pa_nil)))))) (pg_name (i := 3) sc_l_right.nd rfl (.inr rfl)) (pss_one (ps_if (pt_cmpR (op_neD hr.units) (pe_told T TB hr hc Dt (lamS_by (by decide +kernel)) rfl (fun _ _ _ _ _ => rfl) (fun A outer s H E f c' hr' => pe_cn C_joined takes_lam (hr'.mono (by decide)) (pa_cons (pv 3) (pa_cons (pv 1) (pa_cons (pv 4) pa_nil))))) (pe_lst (pa_cons pe_str (pa_cons (pe_callB RR (by rfl) (n_repr T) bo_repr (pa_cons (pv 4) pa_nil)) (pa_cons pe_bl pa_nil)))) (nomark _)) (pss_one (ps_ret pe_bl)) pss_nil)))
 (pss_cons (ps_set (i := 5) sc_l_right.nd rfl (.inr rfl) (pe_c C_one r2 (pa_cons (pv 0) (pa_cons (pe_lst (pa_cons pe_non (pa_cons pe_bl (pa_cons pe_str (pa_cons (pe_tup (pa_cons pe_int pa_nil)) (pa_cons (pv 1) (pa_cons (pe_lst pa_nil) (pa_cons pe_dnewK pa_nil)))))))) pa_nil))))
 (pss_cons (ps_set (i := 6) sc_l_right.nd rfl (.inl rfl) (pe_lst (pa_cons (pe_told T TB hr hc Dt (lamS_by (by decide +kernel)) rfl (fun _ _ _ _ _ => rfl) (fun A outer s H E f c' hr' => pe_make (E := E) (mkN T) Fi (hr'.mono (by decide)) rfl (g_Number T) (b_init2 Di) .nil (L2N.passes_call takes_lam (fun _ _ _ _ z => z)) (pa_cons (pv 5) (pa_cons (pv 5) pa_nil)))) pa_nil)))
 (pss_cons (ps_expr (pe_bm PySem.F.plainAttrs_list PySem.F.slot_list_append PySem.F.type_list_append mt_append (pv 6) (pa_cons (pe_told T TB hr hc Dt (lamS_by (by decide +kernel)) rfl (fun _ _ _ _ _ => rfl) (fun A outer s H E f c' hr' => pe_make (E := E) (mkN T) Fi (hr'.mono (by decide)) rfl (g_Number T) (b_init2 Di) .nil (L2N.passes_call takes_lam (fun _ _ _ _ z => z)) (pa_cons pe_int (pa_cons (pv 5) pa_nil)))) pa_nil)))
 (pss_cons (ps_expr (pe_bm PySem.F.plainAttrs_list PySem.F.slot_list_append PySem.F.type_list_append mt_append (pv 6) (pa_cons (pe_told T TB hr hc Dt (lamS_by (by decide +kernel)) rfl (fun _ _ _ _ _ => rfl) (fun A outer s H E f c' hr' => pe_make (E := E) (mkN T) Fi (hr'.mono (by decide)) rfl (g_Number T) (b_init2 Di) .nil (L2N.passes_call takes_lam (fun _ _ _ _ z => z)) (pa_cons (pv 5) (pa_cons pe_int pa_nil)))) pa_nil)))
 (pss_cons (ps_expr (pe_bm PySem.F.plainAttrs_list PySem.F.slot_list_append PySem.F.type_list_append mt_append (pv 6) (pa_cons (pe_told T TB hr hc Dt (lamS_by (by decide +kernel)) rfl (fun _ _ _ _ _ => rfl) (fun A outer s H E f c' hr' => pe_make (E := E) (mkN T) Fi (hr'.mono (by decide)) rfl (g_Number T) (b_init2 Di) .nil (L2N.passes_call takes_lam (fun _ _ _ _ z => z)) (pa_cons pe_int (pa_cons pe_int pa_nil)))) pa_nil)))
 (pss_cons (ps_expr (pe_bm PySem.F.plainAttrs_list PySem.F.slot_list_append PySem.F.type_list_append mt_append (pv 6) (pa_cons (pe_told T TB hr hc Dt (lamS_by (by decide +kernel)) rfl (fun _ _ _ _ _ => rfl) (fun A outer s H E f c' hr' => pe_meth (E := E) (pv 1) (cl T) (He.meth_ok (f_meth_over T.c)) Fo (hr'.mono (by decide)) bo .nil (L2N.passes_call takes_lam (fun _ _ _ _ z => z)) (pa_cons (pe_c C_zero (hr'.mono (by decide)) (pa_cons (pv 0) pa_nil)) pa_nil))) pa_nil)))
 (pss_cons (ps_if (pt_cmpR (op_neD hr.units) (pv 6) (pe_op op_cat (pe_op op_rep (pe_lst (pa_cons (pe_lst (pa_cons pe_str (pa_cons (pe_callB RR (by rfl) (n_repr T) bo_repr (pa_cons (pv 5) pa_nil)) (pa_cons pe_bl pa_nil)))) pa_nil)) pe_int) (pe_op op_rep (pe_lst (pa_cons (pe_lst (pa_cons pe_str (pa_cons pe_str (pa_cons pe_bl pa_nil)))) pa_nil)) pe_int)) (nomark _)) (pss_one (ps_ret pe_bl)) pss_nil)
 (pss_cons (ps_if (pt_cmpR (op_neD hr.units) (pe_told T TB hr hc Dt (lamS_by (by decide +kernel)) rfl (fun _ _ _ _ _ => rfl) (fun A outer s H E f c' hr' => pe_op (op_binX (op := .Pow) (E := E) (bin_ok (f_bin_pow T.c)) Fp bp (hr'.mono (by decide)) (fun σ => L2N.passAt takes_lam σ) : OpR _ _ (rBinX K (CN K) "pow" (spPowX (CN K) K) E)) (pv 1) pe_int)) (pe_lst (pa_cons pe_str (pa_cons pe_str (pa_cons pe_bl pa_nil)))) (nomark _)) (pss_one (ps_ret pe_bl)) pss_nil)
 (pss_cons (ps_if (pt_cmpR (op_neD hr.units) (pe_told T TB hr hc Dt (lamS_by (by decide +kernel)) rfl (fun _ _ _ _ _ => rfl) (fun A outer s H E f c' hr' => pe_op (op_binX (op := .Pow) (E := E) (bin_ok (f_bin_pow T.c)) Fp bp (hr'.mono (by decide)) (fun σ => L2N.passAt takes_lam σ) : OpR _ _ (rBinX K (CN K) "pow" (spPowX (CN K) K) E)) (pv 1) pe_int)) (pe_lst (pa_cons pe_str (pa_cons pe_str (pa_cons pe_bl pa_nil)))) (nomark _)) (pss_one (ps_ret pe_bl)) pss_nil)
 (pss_one (ps_ret (pe_cmpR (op_eqD hr.units) (pe_lst (pa_cons (pe_callTy (call_strO (own_ok (f_meth_str T.c)) Fs bs (hr.mono (by decide))) (by rfl) (n_str T) bo_str (pa_cons (pe_op (op_binX (op := .Sub) (E := fun _ _ _ => False) (bin_ok (f_bin_sub T.c)) Fsub bsub (hr.mono (by decide)) (fun σ => L2N.passAt (takesN0 _) σ)) (pv 1) (pv 1)) pa_nil)) (pa_cons (pe_callTy (call_strO (own_ok (f_meth_str T.c)) Fs bs (hr.mono (by decide))) (by rfl) (n_str T) bo_str (pa_cons (pe_op (op_binX (op := .Pow) (E := fun _ _ _ => False) (bin_ok (f_bin_pow T.c)) Fp bp (hr.mono (by decide)) (fun σ => L2N.passAt (takesN0 _) σ)) (pv 1) pe_int) pa_nil)) (pa_cons (pe_ix ix_list (pe_told T TB hr hc Dt (lamS_by (by decide +kernel)) rfl (fun _ _ _ _ _ => rfl) (fun A outer s H E f c' hr' => pe_op (op_binX (op := .Add) (E := E) (bin_ok (f_bin_add T.c)) Fa ba (hr'.mono (by decide)) (fun σ => L2N.passAt takes_lam σ) : OpR _ _ (rBinX K (CN K) "add" (spBinX (CN K) K (fun t b u c => t * c + u * b) (fun t b u c => b * c)) E)) (pv 1) pe_int)) pe_int (fun _ _ => rfl)) pa_nil)))) (pe_lst (pa_cons pe_str (pa_cons pe_str (pa_cons pe_str pa_nil)))) (nomark _)))))))))))))))))), ?_⟩
    -- number
    dsimp only [tNil]
    refine ⟨_, rfl, a, 41, rfl, hs, by decide, by decide, fun v1 H1 v10 v11 o1 s1 => ?_⟩
    refine ⟨_, _, rfl, rfl, _, rfl, a, 12, rfl, s1, by decide, by decide, fun v2 H2 v20 v21 o2 s2 => ?_⟩
    refine ⟨_, _, rfl, rfl, v1 - 20, 1 + v2, rfl, by omega, Nat.lt_of_lt_of_le (show (1 + v2).natAbs < 64 by omega) (by decide +kernel), fun H3 p e3 np N3 => ?_⟩
    have lt_ := lowT_le (h := v1 - 20) (b := 1 + v2) (by omega)
    have lb_ := lowB_le (h := v1 - 20) (b := 1 + v2) (by omega)
    generalize ht : lowT (v1 - 20) (1 + v2) = t at N3 lt_
    generalize hb : lowB (v1 - 20) (1 + v2) = b at N3 lb_
    have st : Sm t := Nat.lt_of_lt_of_le (show t.natAbs < 64 by omega) (by decide +kernel)
    have sb : Sm b := Nat.lt_of_lt_of_le (show b.natAbs < 64 by omega) (by decide +kernel)
    clear lt_ lb_ ht hb v10 v11 v20 v21
    have S3 := s2.same e3
    have T3 : Tabs (TR K) H3 := (tabs_old (tabs_old hT hs o1) s1 o2).ext e3
    have K3 : Kp a H H3 := ((Kp.old o1).trans (Kp.old o2)).trans (Kp.same e3)
    -- odd
    refine ⟨_, rfl, fun pd nd => ⟨(by show 4 ≤ sizeLine; decide), fun q nq => ?_⟩⟩
    have e4 := (same_upd (o := .dK []) nd).trans (same_upd (o := .lst [.non, .bl true, .bl false, .ref pd]) nq)
    have S4 := S3.same e4
    refine ⟨a, q, _, rfl, S4, upd_same, (S3.same (same_upd nd)).ne nq, by simp, (by show 4 ≤ 1000; decide), fun odd H5 hodd o5 S5 => ?_⟩
    have K5 : Kp a H3 H5 := (Kp.same e4).trans (Kp.old o5)
    have N5 := num_kp N3 S3 K5
    have T5 : Tabs (TR K) H5 := tabs_old (T3.ext e4) S4 o5
    have hO : ∃ ty, (ty = "NoneType" ∨ ty = "bool" ∨ ty = "dict") ∧ OkV H5 odd ty := by
      have dd : H5 pd = some (.dK []) := o5 _ _ (same_upd nq _ _ upd_same) (Ne.symm (S3.ne nd))
      simp only [List.mem_cons, List.not_mem_nil, or_false] at hodd
      rcases hodd with rfl | rfl | rfl | rfl
      · exact ⟨_, .inl rfl, .non⟩
      · exact ⟨_, .inr (.inl rfl), .bl true⟩
      · exact ⟨_, .inr (.inl rfl), .bl false⟩
      · exact ⟨_, .inr (.inr rfl), .dic dd⟩
    obtain ⟨ty, hty, O5⟩ := hO
    clear hodd
    refine ⟨(by show 5 ≤ sizeLine; decide), fun L1 nL1 => ?_⟩
    have w1 := same_upd (o := .lst [.int 0, .int 1, .int 2, .int 3, .int 5]) nL1
    have la1 : L1 ≠ a := Ne.symm (S5.ne nL1)
    refine ⟨_, rfl, ⟨_, .inl (.inl upd_same)⟩, ?_⟩
    refine for_list (a := L1) (xs := [.int 0, .int 1, .int 2, .int 3, .int 5]) (fun i σ H' => Kp a H5 H' ∧ SprAt a H' ∧ Tabs (TR K) H' ∧ H' L1 = some (.lst [.int 0, .int 1, .int 2, .int 3, .int 5]) ∧ ∃ x3, σ = [some (.ref a), some (.ref p), some odd, x3, none, none, none]) ⟨Kp.new nL1, S5.same w1, T5.ext w1, upd_same, _, rfl⟩ (fun i σ H' _ h => .inl (.inl h.2.2.2.1)) ?_ ?_
    · rintro i x σ H' hx ⟨kj, sj, tj, lj, x3, rfl⟩
      have hj : ∃ j : Int, x = .int j ∧ (j = 0 ∨ j = 1 ∨ j = 2 ∨ j = 3 ∨ j = 5) := by
        have hm := List.mem_of_getElem? hx
        simp only [List.mem_cons, List.not_mem_nil, or_false] at hm
        rcases hm with rfl | rfl | rfl | rfl | rfl <;> exact ⟨_, rfl, by decide⟩
      obtain ⟨j, rfl, hj⟩ := hj
      have nj := num_kp N5 S5 kj
      have oj := O5.kp S5 kj
      obtain ⟨z, za, gz⟩ := oj.shown (K := K) sj
      refine ⟨tj, fun H1 e1 t1 => ?_⟩
      have s1 := sj.ext e1
      have o1 := oj.kp sj (Kp.ext e1)
      refine ⟨_, rfl, _, rfl, _, rfl, j, p, odd, t, b, _, rfl, num_kp nj sj (Kp.ext e1), st, sb, o1.odd T, fun H' d s' nd => ?_, ?_⟩
      rotate_left
      · rcases hj with rfl | rfl | rfl | rfl | rfl
        · exact .inl rfl
        · exact .inr (.inr (.inr (.inr ⟨.inl rfl, left_ok T oj hty⟩)))
        · exact .inr (.inl rfl)
        · exact .inr (.inr (.inr (.inr ⟨.inr rfl, left_ok T oj hty⟩)))
        · exact .inr (.inr (.inr (.inl rfl)))
      have kd : Kp a H1 (upd H' d (.xd [("value", odd)])) := (Kp.same s').trans (Kp.new nd)
      refine .inr (.inl ⟨rfl, d, odd, z, rfl, upd_same, gz _ ((Kp.ext e1).trans kd), fun l H'' s'' nl hl => ?_⟩)
      have kz : Kp a H1 H'' := kd.trans (Kp.same s'')
      have S'' : Same H1 H'' := (s'.trans (same_upd nd)).trans s''
      refine ⟨_, rfl, gz _ ((Kp.ext e1).trans kz) _ _ (Same.refl _) ⟨(by show 3 ≤ sizeLine; decide), fun r nr => ?_⟩⟩
      have S3' : Same H1 (upd H'' r (.lst [.str "number", .str z, .bl true])) := S''.trans (same_upd nr)
      refine ⟨_, _, dp_told (w := "number") (z := z) (by rw [upd_ne (ne_of_none hl nr)]; exact hl), dp_told upd_same, shaped_told (asc_w (by decide +kernel)) za, shaped_told (asc_w (by decide +kernel)) za, ?_⟩
      rw [eqv_told]
      refine ⟨_, rfl, iteF ?_⟩
      exact ⟨(kj.trans (Kp.ext e1)).trans (Kp.same S3'), s1.same S3', t1.ext S3', S3' _ _ (e1 _ _ lj (fun ps z => nomatch z)), _, rfl⟩
    rintro σ H6 ⟨k6, S6, T6, _, x3, rfl⟩
    -- line
    have N6 := num_kp N5 S5 k6
    refine ⟨_, rfl, (by show 1 ≤ sizeLine; decide), fun pt nt => ⟨(by show 1 ≤ sizeLine; decide), fun pl nl => ⟨(by show 0 ≤ sizeLine; decide), fun pe ne => ⟨(by show 6 ≤ sizeLine; decide), fun q7 nq7 => ?_⟩⟩⟩⟩
    have e7 := (((same_upd (o := .tup [.int 1]) nt).trans (same_upd (o := .lst [.int 1]) nl)).trans (same_upd (o := .tup []) ne)).trans (same_upd (o := .lst [.str "1", .str "", .str "1/2", .ref pt, .ref pl, .ref pe]) nq7)
    have S7 := S6.same e7
    have ap : pt ≠ a ∧ pl ≠ a ∧ pe ≠ a := ⟨Ne.symm (S6.ne nt), Ne.symm ((S6.same (same_upd nt)).ne nl), Ne.symm (((S6.same (same_upd nt)).same (same_upd nl)).ne ne)⟩
    have c7 := same_upd (o := .lst [.str "1", .str "", .str "1/2", .ref pt, .ref pl, .ref pe]) nq7
    have ht7 := c7 _ _ (same_upd (o := .tup []) ne _ _ (same_upd (o := .lst [.int 1]) nl pt (.tup [.int 1]) upd_same))
    have hl7 := c7 _ _ (same_upd (o := .tup []) ne pl (.lst [.int 1]) upd_same)
    have he7 := c7 pe (.tup []) upd_same
    refine ⟨a, q7, _, rfl, S7, upd_same, (((S6.same (same_upd nt)).same (same_upd nl)).same (same_upd ne)).ne nq7, by simp, (by show 6 ≤ 1000; decide), fun line H8 hline o8 S8 => ?_⟩
    have K8 : Kp a H6 H8 := (Kp.same e7).trans (Kp.old o8)
    have N8 := num_kp N6 S6 K8
    have T8 : Tabs (TR K) H8 := tabs_old (T6.ext e7) S7 o8
    have hO : ∃ ty, OkV H8 line ty := by
      simp only [List.mem_cons, List.not_mem_nil, or_false] at hline
      rcases hline with rfl | rfl | rfl | rfl | rfl | rfl
      · exact ⟨_, .txt _ (by decide +kernel)⟩
      · exact ⟨_, .txt _ (by decide +kernel)⟩
      · exact ⟨_, .txt _ (by decide +kernel)⟩
      · exact ⟨_, .tup [1] (.inl rfl) (o8 _ _ ht7 ap.1)⟩
      · exact ⟨_, .lst [1] (.inl rfl) (o8 _ _ hl7 ap.2.1)⟩
      · exact ⟨_, .tup [] (.inr rfl) (o8 _ _ he7 ap.2.2)⟩
    obtain ⟨ty8, O8⟩ := hO
    clear hline ht7 hl7 he7 ap c7
    refine ⟨(by show 4 ≤ sizeLine; decide), fun L2 nL2 => ?_⟩
    have w2 := same_upd (o := .lst [.int 0, .int 2, .int 4, .int 5]) nL2
    have la2 : L2 ≠ a := Ne.symm (S8.ne nL2)
    refine ⟨_, rfl, ⟨_, .inl (.inl upd_same)⟩, ?_⟩
    refine for_list (a := L2) (xs := [.int 0, .int 2, .int 4, .int 5]) (fun i σ H' => Kp a H8 H' ∧ SprAt a H' ∧ Tabs (TR K) H' ∧ H' L2 = some (.lst [.int 0, .int 2, .int 4, .int 5]) ∧ ∃ x3, σ = [some (.ref a), some (.ref p), some odd, x3, some line, none, none]) ⟨Kp.new nL2, S8.same w2, T8.ext w2, upd_same, _, rfl⟩ (fun i σ H' _ h => .inl (.inl h.2.2.2.1)) ?_ ?_
    · rintro i x σ H' hx ⟨kj, sj, tj, lj, x3, rfl⟩
      have hj : ∃ j : Int, x = .int j ∧ (j = 0 ∨ j = 2 ∨ j = 4 ∨ j = 5) := by
        have hm := List.mem_of_getElem? hx
        simp only [List.mem_cons, List.not_mem_nil, or_false] at hm
        rcases hm with rfl | rfl | rfl | rfl <;> exact ⟨_, rfl, by decide⟩
      obtain ⟨j, rfl, hj⟩ := hj
      have nj := num_kp N8 S8 kj
      have oj := O8.kp S8 kj
      obtain ⟨z, za, gz⟩ := oj.shown (K := K) sj
      refine ⟨tj, fun H1 e1 t1 => ?_⟩
      have s1 := sj.ext e1
      have o1 := oj.kp sj (Kp.ext e1)
      refine ⟨_, rfl, _, rfl, _, rfl, j, p, line, t, b, _, rfl, num_kp nj sj (Kp.ext e1), st, sb, o1.odd T, fun H' d s' nd => ?_, ?_⟩
      rotate_left
      · rcases hj with rfl | rfl | rfl | rfl
        · exact .inl rfl
        · exact .inr (.inl rfl)
        · exact .inr (.inr (.inl rfl))
        · exact .inr (.inr (.inr (.inl rfl)))
      have kd : Kp a H1 (upd H' d (.xd [("value", line)])) := (Kp.same s').trans (Kp.new nd)
      refine .inr (.inl ⟨rfl, d, line, z, rfl, upd_same, gz _ ((Kp.ext e1).trans kd), fun l H'' s'' nl hl => ?_⟩)
      have kz : Kp a H1 H'' := kd.trans (Kp.same s'')
      have S'' : Same H1 H'' := (s'.trans (same_upd nd)).trans s''
      refine ⟨_, rfl, gz _ ((Kp.ext e1).trans kz) _ _ (Same.refl _) ⟨(by show 3 ≤ sizeLine; decide), fun r nr => ?_⟩⟩
      have S3' : Same H1 (upd H'' r (.lst [.str "number", .str z, .bl true])) := S''.trans (same_upd nr)
      refine ⟨_, _, dp_told (w := "number") (z := z) (by rw [upd_ne (ne_of_none hl nr)]; exact hl), dp_told upd_same, shaped_told (asc_w (by decide +kernel)) za, shaped_told (asc_w (by decide +kernel)) za, ?_⟩
      rw [eqv_told]
      refine ⟨_, rfl, iteF ?_⟩
      exact ⟨(kj.trans (Kp.ext e1)).trans (Kp.same S3'), s1.same S3', t1.ext S3', S3' _ _ (e1 _ _ lj (fun ps z => nomatch z)), _, rfl⟩
    rintro σ H9 ⟨k9, S9, T9, _, x3, rfl⟩
    -- bad
    have N9 := num_kp N8 S8 k9
    refine ⟨_, rfl, (by show 1 ≤ sizeLine; decide), fun pt nt => ⟨_, rfl, (by show 0 ≤ sizeLine; decide), fun pl nl => fun pd nd => ⟨(by show 7 ≤ sizeLine; decide), fun q10 nq10 => ?_⟩⟩⟩
    have u1 := same_upd (o := .tup [.int 1]) nt
    have u2 := same_upd (o := .lst []) nl
    have u3 := same_upd (o := .dK []) nd
    have u4 := same_upd (o := .lst [.non, .bl true, .str "1", .ref pt, .ref p, .ref pl, .ref pd]) nq10
    have S9a := S9.same u1
    have S9b := S9a.same u2
    have S9c := S9b.same u3
    have S10 := S9c.same u4
    have e10 := ((u1.trans u2).trans u3).trans u4
    have ht := u4 _ _ (u3 _ _ (u2 pt (.tup [.int 1]) upd_same))
    have hl := u4 _ _ (u3 pl (.lst []) upd_same)
    have hd := u4 pd (.dK []) upd_same
    have at_ := Ne.symm (S9.ne nt)
    have al_ := Ne.symm (S9a.ne nl)
    have ad_ := Ne.symm (S9b.ne nd)
    refine ⟨a, q10, _, rfl, S10, upd_same, S9c.ne nq10, by simp, (by show 7 ≤ 1000; decide), fun bad H0 hbad o10 S0 => ?_⟩
    have K0 : Kp a H9 H0 := (Kp.same e10).trans (Kp.old o10)
    have N0 := num_kp N9 S9 K0
    have T0 : Tabs (TR K) H0 := tabs_old (T9.ext e10) S10 o10
    have B0 : Val K H0 bad := by
      simp only [List.mem_cons, List.not_mem_nil, or_false] at hbad
      rcases hbad with rfl | rfl | rfl | rfl | rfl | rfl | rfl
      · exact .inl ⟨_, .non⟩
      · exact .inl ⟨_, .bl true⟩
      · exact .inl ⟨_, .txt _ (by decide +kernel)⟩
      · exact .inl ⟨_, .tup [1] (.inl rfl) (o10 _ _ ht at_)⟩
      · exact .inr ⟨p, t, b, rfl, N0, sm_sz st, sm_sz sb⟩
      · exact .inl ⟨_, .lst [] (.inr rfl) (o10 _ _ hl al_)⟩
      · exact .inl ⟨_, .dic (o10 _ _ hd ad_)⟩
    have KH : Kp a H H0 := ((((K3.trans K5).trans k6).trans K8).trans k9).trans K0
    clear hbad ht hl hd at_ al_ ad_ e10 u1 u2 u3 u4 S9a S9b S9c
    obtain ⟨z, za, gz⟩ := B0.shown T S0
    -- told: three bad ones, two zeros
    refine ⟨T0, fun H1 e1 t1 => ?_⟩
    refine ⟨_, rfl, _, rfl, fun x dx nx ndx hne => ?_⟩
    refine ⟨x, dx, bad, bad, rfl, upd_same, .inr (.inl ⟨((B0.kp S0 (Kp.ext e1)).kp (S0.ext e1) (Kp.same (same_make nx ndx hne))).notInt T, bad_told gz (Kp.ext e1) (same_make nx ndx hne) fun l1 H2 s2 nl1 hl1 => ?_⟩)⟩
    refine ⟨(by show 1 ≤ sizeLine; decide), fun m nm => ?_⟩
    have I1 : Sg K a m H0 (upd H2 m (.lst [.ref l1])) [l1] [("count", z)] := Sg.first ((Kp.ext e1).trans (Kp.same s2)) ((S0.ext e1).same s2) (t1.ext s2) nm (Ne.symm ((S0.ext e1).ne nl1)) hl1
    generalize upd H2 m (.lst [.ref l1]) = J1 at I1
    clear e1 t1 nx ndx hne s2 nl1 hl1 nm
    -- Number(3, bad)
    refine ⟨_, rfl, .inl ⟨rfl, _, .inl (.inl I1.hm)⟩, I1.t, fun H1 e1 t1 => ?_⟩
    refine ⟨_, rfl, fun x dx nx ndx hne => ?_⟩
    have B1 := B0.kp S0 (I1.k.trans (Kp.ext e1))
    refine ⟨x, dx, .int 3, bad, rfl, upd_same, .inr (.inr (.inl ⟨3, rfl, (B1.kp (I1.s.ext e1) (Kp.same (same_make nx ndx hne))).notInt T, bad_told gz (I1.k.trans (Kp.ext e1)) (same_make nx ndx hne) fun l2 H2 s2 nl2 hl2 => ?_⟩))⟩
    have I1' := I1.kp ((Kp.ext e1).trans (Kp.same s2)) ((I1.s.ext e1).same s2) (t1.ext s2)
    have I2 := I1'.step (ne_of_none (e1 _ _ I1.hm (fun ps q => nomatch q)) nl2).symm (Ne.symm ((I1.s.ext e1).ne nl2)) hl2
    refine ⟨m, _, .ref l2, rfl, rfl, I1'.hm, (by show 1 < sizeLine; decide), ?_⟩
    generalize upd H2 m (.lst ([l1].map V.ref ++ [.ref l2])) = J2 at I2 ⊢
    clear e1 t1 nx ndx hne s2 nl2 hl2 I1' B1 I1
    -- Number(bad, 0)
    refine ⟨_, rfl, .inl ⟨rfl, _, .inl (.inl I2.hm)⟩, I2.t, fun H1 e1 t1 => ?_⟩
    refine ⟨_, rfl, fun x dx nx ndx hne => ?_⟩
    have B1 := B0.kp S0 (I2.k.trans (Kp.ext e1))
    refine ⟨x, dx, bad, .int 0, rfl, upd_same, .inr (.inl ⟨(B1.kp (I2.s.ext e1) (Kp.same (same_make nx ndx hne))).notInt T, bad_told gz (I2.k.trans (Kp.ext e1)) (same_make nx ndx hne) fun l3 H2 s2 nl3 hl3 => ?_⟩)⟩
    have I2' := I2.kp ((Kp.ext e1).trans (Kp.same s2)) ((I2.s.ext e1).same s2) (t1.ext s2)
    have I3 := I2'.step (ne_of_none (e1 _ _ I2.hm (fun ps q => nomatch q)) nl3).symm (Ne.symm ((I2.s.ext e1).ne nl3)) hl3
    refine ⟨m, _, .ref l3, rfl, rfl, I2'.hm, (by show 2 < sizeLine; decide), ?_⟩
    generalize upd H2 m (.lst ((([l1] ++ [l2]).map V.ref) ++ [.ref l3])) = J3 at I3 ⊢
    clear e1 t1 nx ndx hne s2 nl3 hl3 I2' B1 I2
    -- Number(3, 0)
    refine ⟨_, rfl, .inl ⟨rfl, _, .inl (.inl I3.hm)⟩, I3.t, fun H1 e1 t1 => ?_⟩
    refine fun x dx nx ndx hne => ?_
    refine ⟨x, dx, .int 3, .int 0, rfl, upd_same, .inr (.inr (.inr ⟨3, rfl, rfl, zero_told (same_make nx ndx hne) fun l4 H2 s2 nl4 hl4 => ?_⟩))⟩
    have I3' := I3.kp ((Kp.ext e1).trans (Kp.same s2)) ((I3.s.ext e1).same s2) (t1.ext s2)
    have I4 := I3'.step (ne_of_none (e1 _ _ I3.hm (fun ps q => nomatch q)) nl4).symm (Ne.symm ((I3.s.ext e1).ne nl4)) hl4
    refine ⟨m, _, .ref l4, rfl, rfl, I3'.hm, (by show 3 < sizeLine; decide), ?_⟩
    generalize upd H2 m (.lst ((([l1] ++ [l2] ++ [l3]).map V.ref) ++ [.ref l4])) = J4 at I4 ⊢
    clear e1 t1 nx ndx hne s2 nl4 hl4 I3' I3
    -- number.over(zero)
    refine ⟨_, rfl, .inl ⟨rfl, _, .inl (.inl I4.hm)⟩, I4.t, fun H1 e1 t1 => ?_⟩
    have N1 := num_kp N0 S0 (I4.k.trans (Kp.ext e1))
    obtain ⟨dn, hn⟩ := id N1.at_
    refine ⟨_, rfl, p, dn, _, rfl, hn, rfl, _, rfl, a, rfl, I4.s.ext e1, fun y H1' ⟨c, oc, sc⟩ oy sy => ?_⟩
    have ko : Kp a H1 H1' := Kp.old oy
    refine ⟨p, y, t, b, rfl, num_kp N1 (I4.s.ext e1) ko, .inl ⟨c, oc, sc, zero_told (Same.refl _) fun l5 H2 s2 nl5 hl5 => ?_⟩⟩
    have I4' := I4.kp (((Kp.ext e1).trans ko).trans (Kp.same s2)) (sy.same s2) ((tabs_old t1 (I4.s.ext e1) oy).ext s2)
    have I5 := I4'.step (ne_of_none (ko _ _ (e1 _ _ I4.hm (fun ps q => nomatch q)) (Ne.symm I4.am) (fun ps q => nomatch q)) nl5).symm (Ne.symm (sy.ne nl5)) hl5
    refine ⟨m, _, .ref l5, rfl, rfl, I4'.hm, (by show 4 < sizeLine; decide), ?_⟩
    generalize upd H2 m (.lst ((([l1] ++ [l2] ++ [l3] ++ [l4]).map V.ref) ++ [.ref l5])) = J5 at I5 ⊢
    clear e1 t1 s2 nl5 hl5 I4' I4 hn N1 oy sy ko
    -- compare
    refine ⟨_, rfl, _, rfl, gz _ I5.k _ _ (Same.refl _) ⟨(by show 3 ≤ sizeLine; decide), fun r1 nr1 => ⟨(by show 1 ≤ sizeLine; decide), fun q1 nq1 => ?_⟩⟩⟩
    have c1 := (same_upd (o := .lst [.str "count", .str z, .bl true]) nr1).trans (same_upd (o := .lst [.ref r1]) nq1)
    refine ⟨q1, 3, _, rfl, rfl, upd_same, by decide, by decide, (by show 3 ≤ sizeLine; decide), fun p2 np2 => ?_⟩
    have c2 := c1.trans (same_upd (o := .lst [.ref r1, .ref r1, .ref r1]) np2)
    refine ⟨(by show 3 ≤ sizeLine; decide), fun r2' nr2 => ⟨(by show 1 ≤ sizeLine; decide), fun q2 nq2 => ?_⟩⟩
    refine ⟨q2, 2, _, rfl, rfl, upd_same, by decide, by decide, (by show 2 ≤ sizeLine; decide), fun p3 np3 => ?_⟩
    have d1 := (same_upd (o := .lst [.str "zero", .str "", .bl true]) nr2).trans (same_upd (o := .lst [.ref r2']) nq2)
    have d2 := d1.trans (same_upd (o := .lst [.ref r2', .ref r2']) np3)
    refine ⟨p2, p3, [.ref r1, .ref r1, .ref r1], [.ref r2', .ref r2'], rfl, rfl, d2 _ _ upd_same, upd_same, (by show 5 ≤ sizeLine; decide), fun p4 np4 => ?_⟩
    have d3 := d2.trans (same_upd (o := .lst [.ref r1, .ref r1, .ref r1, .ref r2', .ref r2']) np4)
    have c3 := c2.trans d3
    have I6 := I5.kp (Kp.same c3) (I5.s.same c3) (I5.t.ext c3)
    have hr1 := d3 _ _ ((same_upd (o := .lst [.ref r1, .ref r1, .ref r1]) np2) _ _ ((same_upd (o := .lst [.ref r1]) nq1) r1 (.lst [.str "count", .str z, .bl true]) upd_same))
    have hr2 := (same_upd (o := .lst [.ref r1, .ref r1, .ref r1, .ref r2', .ref r2']) np4) _ _ ((same_upd (o := .lst [.ref r2', .ref r2']) np3) _ _ ((same_upd (o := .lst [.ref r2']) nq2) r2' (.lst [.str "zero", .str "", .bl true]) upd_same))
    refine ⟨five z, five z, .lst (.inl (.inl I6.hm)) I6.l.dp, .lst (.inl (.inl upd_same)) (.cons (dp_told hr1) (.cons (dp_told hr1) (.cons (dp_told hr1) (.cons (dp_told hr2) (.cons (dp_told hr2) .nil))))), five_shaped za, five_shaped za, ?_⟩
    rw [five_eqv]
    refine ⟨_, rfl, iteF ?_⟩
    clear hr1 hr2 c1 c2 d1 d2 d3 c3 I5
    -- number ** 21
    refine ⟨I6.t, fun H1 e1 t1 => ?_⟩
    have N1 := num_kp N0 S0 (I6.k.trans (Kp.ext e1))
    obtain ⟨dn, hn⟩ := id N1.at_
    refine ⟨_, rfl, p, dn, _, rfl, hn, .inl ⟨"int", .inl (.int _), right_ok (f_right_pow_int T.c)⟩, p, t, b, 21, rfl, N1, .inr ⟨by decide, bad_told (H0 := H1) (z := "21") (gives_int (by decide +kernel) (by decide +kernel) (by decide +kernel)) (Kp.refl a H1) (Same.refl _) fun l H2 s2 nl hl => ?_⟩⟩
    refine ⟨(by show 3 ≤ sizeLine; decide), fun r nr => ?_⟩
    have c1 := s2.trans (same_upd (o := .lst [.str "count", .str "21", .bl true]) nr)
    have I7 := I6.kp ((Kp.ext e1).trans (Kp.same c1)) ((I6.s.ext e1).same c1) (t1.ext c1)
    refine ⟨_, _, dp_told (w := "count") (z := "21") (by rw [upd_ne (ne_of_none hl nr)]; exact hl), dp_told upd_same, shaped_told (asc_w (by decide +kernel)) (asc_w (by decide +kernel)), shaped_told (asc_w (by decide +kernel)) (asc_w (by decide +kernel)), ?_⟩
    rw [eqv_told]
    refine ⟨_, rfl, iteF ?_⟩
    clear e1 t1 s2 nl hl c1 hn N1
    -- number ** 64
    refine ⟨I7.t, fun H1 e1 t1 => ?_⟩
    have N1 := num_kp N0 S0 (I7.k.trans (Kp.ext e1))
    obtain ⟨dn, hn⟩ := id N1.at_
    refine ⟨_, rfl, p, dn, _, rfl, hn, .inl ⟨"int", .inl (.int _), right_ok (f_right_pow_int T.c)⟩, p, t, b, 64, rfl, N1, .inr ⟨by decide, bad_told (H0 := H1) (z := "64") (gives_int (by decide +kernel) (by decide +kernel) (by decide +kernel)) (Kp.refl a H1) (Same.refl _) fun l H2 s2 nl hl => ?_⟩⟩
    refine ⟨(by show 3 ≤ sizeLine; decide), fun r nr => ?_⟩
    have c1 := s2.trans (same_upd (o := .lst [.str "count", .str "64", .bl true]) nr)
    have I8 := I7.kp ((Kp.ext e1).trans (Kp.same c1)) ((I7.s.ext e1).same c1) (t1.ext c1)
    refine ⟨_, _, dp_told (w := "count") (z := "64") (by rw [upd_ne (ne_of_none hl nr)]; exact hl), dp_told upd_same, shaped_told (asc_w (by decide +kernel)) (asc_w (by decide +kernel)), shaped_told (asc_w (by decide +kernel)) (asc_w (by decide +kernel)), ?_⟩
    rw [eqv_told]
    refine ⟨_, rfl, iteF ?_⟩
    clear e1 t1 s2 nl hl c1 hn N1
    -- the last line
    have N8' := num_kp N0 S0 I8.k
    obtain ⟨dn, hn⟩ := id N8'.at_
    refine ⟨_, rfl, _, rfl, p, dn, _, rfl, hn, .inr ⟨p, dn, _, rfl, hn⟩, p, .ref p, t, b, rfl, N8', st, sb, .inl ⟨t, b, .inl ⟨p, rfl, N8'⟩, st, sb, fun H1 q1 s1 M1 => ?_⟩⟩
    have bne : b * b ≠ 0 := by
      have := N8'.pos
      exact Int.mul_ne_zero (by omega) (by omega)
    have z1 := low_zero (b := b * b) bne
    rw [Int.zero_mul] at z1
    have M1 : NumAt (CN K) H1 q1 (lowT (t * b - t * b) (b * b)) (lowB (t * b - t * b) (b * b)) := M1
    rw [Int.sub_self, z1.1, z1.2] at M1
    obtain ⟨d1, h1⟩ := id M1.at_
    refine ⟨q1, d1, _, rfl, h1, q1, 0, 1, rfl, M1, by decide +kernel, by decide +kernel, _, rfl, ?_⟩
    have N9' := N8'.same s1
    obtain ⟨dm, hm⟩ := id N9'.at_
    refine ⟨_, rfl, p, dm, _, rfl, hm, .inl ⟨"int", .inl (.int _), right_ok (f_right_pow_int T.c)⟩, p, t, b, 0, rfl, N9', .inl ⟨rfl, fun H2 q2 s2 nq2 M2 => ?_⟩⟩
    obtain ⟨d2, h2⟩ := id M2.at_
    refine ⟨q2, d2, _, rfl, h2, q2, 1, 1, rfl, M2, by decide +kernel, by decide +kernel, _, rfl, ?_⟩
    have I9 := I8.kp (Kp.same (s1.trans s2)) (I8.s.same (s1.trans s2)) (I8.t.ext (s1.trans s2))
    refine ⟨I9.t, fun H3' e3' t3' => ?_⟩
    have NA := num_kp N0 S0 (I9.k.trans (Kp.ext e3'))
    obtain ⟨da, ha⟩ := id NA.at_
    refine ⟨_, rfl, p, da, _, rfl, ha, .inl ⟨"int", .inl (.int _), right_ok (f_right_add_int T.c)⟩, p, .int 1, t, b, rfl, NA, st, sb, .inl ⟨1, 1, .inr ⟨rfl, rfl⟩, by decide +kernel, by decide +kernel, fun H4 q4 s4 M4 => ?_⟩⟩
    refine ⟨(by show 3 ≤ sizeLine; decide), fun l nl => ?_⟩
    have c4 := s4.trans (same_upd (o := .lst [.str "given", .str "", .bl true]) nl)
    refine ⟨l, _, 0, _, rfl, rfl, .inl (.inl upd_same), rfl, ?_⟩
    refine ⟨(by show 3 ≤ sizeLine; decide), fun m1 nm1 => ⟨(by show 3 ≤ sizeLine; decide), fun m2 nm2 => ?_⟩⟩
    have c5 := (c4.trans (same_upd (o := .lst [.str (S (fL 0 1)), .str (S (fL 1 1)), .str "given"]) nm1)).trans (same_upd (o := .lst [.str "0", .str "1", .str "given"]) nm2)
    have y1 : S (fL 0 1) = "0" := by decide +kernel
    have y2 : S (fL 1 1) = "1" := by decide +kernel
    have dy1 : ∀ H : Hp, Dp K H (.str (S (fL 0 1))) (.str "0") := fun H => by
      rw [y1]
      exact .str _
    have dy2 : ∀ H : Hp, Dp K H (.str (S (fL 1 1))) (.str "1") := fun H => by
      rw [y2]
      exact .str _
    refine ⟨lines3, lines3, .lst (.inl (.inl (same_upd (o := .lst [.str "0", .str "1", .str "given"]) nm2 _ _ upd_same))) (DpAll.cons (dy1 _) (.cons (dy2 _) (.cons (.str _) .nil))), .lst (.inl (.inl upd_same)) (.cons (.str _) (.cons (.str _) (.cons (.str _) .nil))), by decide +kernel, by decide +kernel, ?_⟩
    have ev : PyData.eqv lines3 lines3 = true := by decide +kernel
    rw [ev]
    exact k _ (KH.trans (I9.k.trans ((Kp.ext e3').trans (Kp.same c5)))) ((I9.s.ext e3').same c5) (t3'.ext c5)
end
end K04

namespace K04
open PySem PySem.Spec PyProof.Rows L2 Hk NumM NumT SX L2H LamX
abbrev N_law : List Str := ["_law_script", "_law_spot", "_law_spring_here", "_law_turn"]
theorem sql_kp {K : Fr} {a p : Addr} {xs : List V} {H0 H H' : Hp} (h : SqL K H0 a xs) (np : H0 p = none) (s : Same H0 H) (k : Kp p H H') : SqL K H' a xs := by
  rcases h with (z | ⟨o1, z⟩) | z
  · exact .inl (.inl (k _ _ (s _ _ z) (ne_of_none z np) (fun ps q => nomatch q)))
  · exact .inl (.inr ⟨o1, k _ _ (s _ _ z) (ne_of_none z np) (fun ps q => nomatch q)⟩)
  · exact .inr z
def spLaw (K : Fr) : Sp := fun vs H Q _ => ∃ (a : Addr) (ns : List Int), vs = [.ref a] ∧ SqL K H a (ns.map V.int) ∧ ns.length ≤ 63 ∧ Tabs (TR K) H ∧ ∀ H' : Hp, Q (.bl true) H'
section
variable {P : Program} {w : World} {K : Fr} {mg : Str → Option Value} {base : Heap}
theorem g_law_ok (T : Tx K mg) (TB : TabB base mg (cOf d_l_right K) (pOf d_l_right K)) {fd : FuncData} (D : DAt K d_law fd) : FnG P w K mg base 12 (d_law.ad K) fd ["_law_script"] (spLaw K) := by
  have C_l_spring := c_spring (P := P) (w := w) (base := base) T
  have C_l_right := c_right (P := P) (w := w) (base := base) T TB
  refine okg_of (N := N_law) D sc_law (fun vs H Q E h => ?_) (fun cdv A outer s H vs Q E hr hc h => ?_)
  · obtain ⟨a, ns, rfl, _⟩ := h
    rfl
  · obtain ⟨a, ns, rfl, hS, hn, hT, k⟩ := h
    have r1 : Room 1 _ := hr.mono (by decide)
    refine ⟨_, (pss_cons (ps_for PassesOwn.never rfl (pi_range1 (by rfl) (n_range T) (pa_cons (pe_callB (call_max2 rfl) (by rfl) (n_max T) bo_max (pa_cons pe_int (pa_cons (pe_callB (call_min2 rfl) (by rfl) (n_min T) bo_min (pa_cons (pe_callB call_len_seq (by rfl) (n_len T) bo_len (pa_cons (pv 0) pa_nil)) (pa_cons pe_int pa_nil))) pa_nil))) pa_nil)) (pg_name (i := 1) sc_law.nd rfl (.inl rfl))
 (pss_cons (ps_set (i := 2) sc_law.nd rfl (.inr rfl) (pe_c C_l_spring r1 (pa_cons (pv 0) (pa_cons (pv 1) pa_nil))))
 (pss_one (ps_if (pt_not (pt_val (pe_callB (cr_all rfl) (by rfl) (n_all T) bo_all (pa_cons (pe_lc (own := [("_law_turn", 3)]) (g := gName 3) (tt := tYes) rfl sc_law.nd (pi_range1 (by rfl) (n_range T) (pa_cons pe_int pa_nil)) (blkOk_by (N := N_law) (sc := defScope s_law) (by decide +kernel)) (fun _ _ _ _ _ => pg_name (i := 3) sc_law.nd rfl (.inl rfl)) (fun _ _ _ _ _ => pts_nil) (fun _ _ _ _ _ => (pe_g C_l_right hr hc (pa_cons (pv 2) pa_nil)))) pa_nil))))
 (pss_one (ps_ret pe_bl))
 pss_nil))))
 (pss_one (ps_ret pe_bl))), ?_⟩
    have hlen : ((ns.map V.int).length : Int) = (ns.length : Int) := by rw [List.length_map]
    refine ⟨_, rfl, a, _, rfl, .inl hS, _, _, rfl, _, _, rfl, _, rfl, ?_⟩
    rw [hlen]
    generalize hm : (if (if (6 : Int) < (ns.length : Int) then (6 : Int) else (ns.length : Int)) > 3 then (if (6 : Int) < (ns.length : Int) then (6 : Int) else (ns.length : Int)) else (3 : Int)) = m
    have hm2 : m ≤ 6 ∧ 0 ≤ m := by rw [← hm]; split <;> (try split) <;> omega
    refine ⟨by omega, by omega, ?_⟩
    refine for_range (lo := 0) (n := m.toNat) (fun i σ H' => SqL K H' a (ns.map V.int) ∧ Tabs (TR K) H' ∧ ∃ x3 x4 x5 : Option V, σ = [some (.ref a), x3, x4, x5]) ⟨hS, hT, none, none, none, rfl⟩ ?_ ?_
    · rintro i σ H' hi ⟨sq, tq, x3, x4, x5, rfl⟩
      have e0 : (0 : Int) + (i : Int) = ((i : Nat) : Int) := by omega
      rw [e0]
      refine ⟨_, rfl, _, rfl, a, ns, i, rfl, sq, hn, by omega, fun p d e c np sp => ?_⟩
      have sp0 : SprAt p (upd H' p (.lst (sprL d e c))) := ⟨d, e, c, upd_same, sp⟩
      have so : Same H' (upd H' p (.lst (sprL d e c))) := same_upd np
      have tp := tq.ext so
      generalize upd H' p (HO.lst (sprL d e c)) = H2 at *
      refine ⟨2, rfl, by decide, by decide, fun D nD => ?_⟩
      refine lc_range (lo := 0) (n := 2) (fun j H3 => Kp p H2 H3 ∧ SprAt p H3 ∧ Tabs (TR K) H3 ∧ H3 D = some (.lst (List.replicate j (.bl true)))) ⟨Kp.new nD, sp0.same (same_upd nD), tp.ext (same_upd nD), upd_same⟩ ?_ ?_
      · rintro j H3 hj ⟨o3, s3, t3, hD⟩
        have pD : p ≠ D := sp0.ne nD
        refine ⟨rfl, ?_⟩
        unfold tYes
        dsimp only
        rw [if_pos rfl]
        refine ⟨_, rfl, p, rfl, s3, t3, fun H4 o4 s4 t4 => ⟨_, o4 _ _ hD (Ne.symm pD) (fun ps q => nomatch q), ?_, ?_, ?_, ?_, ?_⟩⟩
        · rw [List.length_replicate]
          exact Nat.lt_of_lt_of_le (show j < 1000 by omega) (by decide)
        · exact kp_put (o3.trans o4) (fun o e => by rw [nD] at e; cases e)
        · exact sprAt_put s4 pD
        · exact tabs_put t4 (o4 _ _ hD (Ne.symm pD) (fun ps q => nomatch q))
        · rw [upd_same, List.replicate_succ']
      · rintro H3 ⟨o3, s3, t3, hD⟩
        refine ⟨D, [true, true], rfl, .inl (.inl hD), true, rfl, iteF ?_⟩
        exact ⟨sql_kp sq np so o3, t3, _, _, _, rfl⟩
    · rintro σ H' ⟨_, _, x3, x4, x5, rfl⟩
      exact k H'
end
theorem tabs_in {K : Fr} {H : Hp} (h : H (pOf d_l_right K) = some (.tbl #[])) : Tabs (TR K) H := fun p hp => by
  rw [List.mem_singleton.mp hp]
  exact ⟨#[], h, trivial, fun pos cv hc => nomatch (show (none : Option Value) = some cv from hc)⟩
theorem facts {P : Program} {w : World} {K : Fr} {h : Heap} {mg : Str → Option Value} {f : Addr} (X : K.In h) (G : h.Ns mainGlobals mg) (hfa : mg ("law" : Str) = some (.ref f)) (c : Sy K) :
    ∃ fd : FuncData, (∀ (s : Shared) (u : Value), BindsTo s fd ⟨[u], []⟩ [("_law_script", u)]) ∧ ∀ base : Heap, K.In base → base.Ns mainGlobals mg → TabB base mg (cOf d_l_right K) (pOf d_l_right K) → FnG P w K mg base 12 f fd ["_law_script"] (spLaw K) := by
  have T : Tx K mg := ⟨c, h, X, G⟩
  obtain ⟨fd, D⟩ := a_law c
  have e := hfa.symm.trans (g_law T)
  cases e
  have b := FunD.bindsA (ps := ["_law_script"]) D fun _ _ _ _ _ _ us hl => match us, hl with | [_], _ => rfl
  exact ⟨fd, fun s u => b s [u] rfl, fun base _ _ TB => g_law_ok T TB D⟩
end K04

namespace K04
open PySem PySem.Spec PyProof.Rows L2 Hk
theorem run (w : World) : HeadRun.RunEqI R qv hk ob 6000 loose w := by
  unfold HeadRun.RunEqI
  kernel_rfl
end K04

open PySem PySem.W PySem.Calls PyProof.Rows
theorem PySem.Challenge.cw_delaynets_k04_numbers_refused_holds : PySem.Challenge.rw_delaynets_k04_numbers_refused.Holds := by
  w_on; o_law
  refine HeadRun.head_imp (r := OpenLaw.row PySem.Challenge.rw_delaynets_k04_numbers_refused) (q := K04.qv) (H := K04.hk) (ob := K04.ob) (M := 6000) (loose := K04.loose) (d := HandSHeadRun.topDef (OpenLaw.row PySem.Challenge.rw_delaynets_k04_numbers_refused).prog K04.lawAt) (kwd := []) K04.ob_eq
    K04.run (by kernel_rfl) (by kernel_rfl) (by kernel_rfl) (by rfl) (by first | assumption | decide +kernel) (by decide +kernel) ⟨rfl, rfl, rfl, rfl, rfl, by decide +kernel⟩ ?hw ?hc
  case hw => w_witness2
  case hc =>
    refine Hk.end_gT (l := PySem.Challenge.rw_delaynets_k04_numbers_refused) (k := 12) (x := "_law_script") rfl (by kernel_rfl) ⟨rfl, by decide, by decide⟩ ?F
    intro w mg fa h Y G hmg0
    obtain ⟨K, KX, c⟩ := Y
    have hmg : mg ("law" : PySem.Str) = some (.ref fa) := by
      have e : (HandSHeadRun.topDef (OpenLaw.row PySem.Challenge.rw_delaynets_k04_numbers_refused).prog K04.lawAt).name = ("law" : PySem.Str) := by kernel_rfl
      rw [← e]
      exact hmg0
    obtain ⟨fd, hb, hF⟩ := K04.facts (P := (PySem.Challenge.rw_delaynets_k04_numbers_refused).prog) (w := w) KX G hmg c.s
    have one : ∀ p ∈ [(Hk.cOf K04.d_l_right K, Hk.pOf K04.d_l_right K)], p = (Hk.cOf K04.d_l_right K, Hk.pOf K04.d_l_right K) := fun p hp => List.mem_singleton.mp hp
    have inT : K04.d_l_right ∈ K04.TS := List.mem_cons_self
    refine ⟨K, fd, [(Hk.cOf K04.d_l_right K, Hk.pOf K04.d_l_right K)], K04.spLaw K, KX, fun p hp => ?_, fun p hp => ?_, fun p hp => ?_, hb, fun H a ns hl _ hT hS => ⟨a, ns, rfl, hS, hl, K04.tabs_in (hT _ List.mem_cons_self), fun _ => rfl⟩, fun base hb1 hb2 hTB => hF base hb1 hb2 (hTB _ List.mem_cons_self)⟩
    · rw [one p hp]
      exact c.empty _ inT
    · rw [one p hp]
      exact c.out _ inT
    · rw [one p hp]
      exact codeHd_of_K KX (c.hd _ inT)
#print axioms PySem.Challenge.cw_delaynets_k04_numbers_refused_holds

