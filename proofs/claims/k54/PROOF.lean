import PyProof.Rows.All
import Wide.All
import OpenK.AllK
import Wide.FinOn
import KE.KStateDown
import HandS.ForExc
import HandS.More
import HandS.Defaults
import HandS.Head0
import KE.HD3
import HandS.Head1
import HandS.Head2
import HandS.HeadEnd
import HandS.HeadHook1
import HandS.HeadHook2
import HandS.HeadWalk
import HandS.HeadNt
import HandS.Property
import HandS.Gcd
import HandS.Wide
import HandS.MakeKw
import HandS.Comp
import HandS.Text
import HandS.FStr
import HandS.StrMore
import HandS.Flow
import HandS.IsInst
import HandS.EndBits
import HandS.RaiseMore
import HandS.SlotsOwn
import HandS.OwnEq
import HandS.ClsMeth
import HandS.CallRecv
import HandS.MakeKwOnly
import HandS.TupLe
import KE.KCallOwn
import KE.KOpsOwn
import HandS.Codes
import KE.IntTextLaws
import PyProof.Rows.ReprOcc
import PyProof.Rows.SortStrRead
import HandS.NoneIn
import HandS.ExcInit
import HandS.ExcField
import HandS.ExcOwn
import HandS.ExcIs
import HandS.TryMany
import KE.KExcIs
import KE.KExcInit
import HandS.ExcValue
import HandS.HotCalls
import HandS.Iter
import HandS.Walk
import HandS.ExcCtx
import HandS.ExcInitHot
import KE.KTryMore
import HandS.Lambda
import HandS.EndTab
import HandS.HeadHook4
import HandS.NestedK
import HandS.Star
import HandS.SortKw
import KE.KMathG
import PyProof.EnumMake
import PyProof.Draws
import KE.GoesMore
import HandS.TupAny
import HandS.Zip
import KE.GoesEnum
import PyProof.ReprDict
import PySem.Challenge.RW_delaynets_k54_machine_runs_refused
set_option Elab.async false
set_option linter.all false
set_option maxRecDepth 100000
set_option maxHeartbeats 0
/-! A head's facts by names: every fact a test of the written part, every def by its own path. -/
namespace Hk
open PySem PySem.Spec PyProof.Rows L2
abbrev Fr := PySem.W.Frag
abbrev Tst := Fr → Bool
/-- a def of the text: the path to its function object, its text, its defaults -/
structure Dx where
  ad : Fr → Addr
  nm : Str
  ql : Str
  st : Stmt
  df : List He.Dv := []
abbrev Seen : Type := Option (Str × Str × Arguments × FuncBody × Scope × Addr × List (Str × Addr) × Addr)
def seenAt (K : Fr) (a : Addr) : Seen :=
  match K.lookup a with
  | some ⟨_, _, .func g, _⟩ => some (g.name, g.qualname, g.params, g.body, g.scope, g.globals, g.closure, g.builtins)
  | _ => none
def Dx.due (d : Dx) : Seen := some (d.nm, d.ql, defArgs d.st, .stmts (defBody d.st), defScope d.st, mainGlobals, [], builtinsNs)
def Dx.vs (K : Fr) (d : Dx) : List V := d.df.map (He.Dv.v K)
def Dx.okb (K : Fr) (d : Dx) : Bool :=
  PySem.W.keepIn K (.ref (d.ad K)) &&
    (match K.lookup (d.ad K) with
    | some ⟨_, _, .func g, _⟩ => PySem.W.codeIn K g.code d.ql && He.dflB K g.defaults (d.vs K)
    | _ => false)
/-- the def d stands at its address as fd -/
abbrev DAt (K : Fr) (d : Dx) (fd : FuncData) : Prop := FunD K d.nm d.ql (defArgs d.st) (defBody d.st) (defScope d.st) (d.vs K) [] (d.ad K) fd
theorem Dx.at_of {K : Fr} {d : Dx} (e : seenAt K (d.ad K) = d.due) (c : d.okb K = true) : ∃ fd, DAt K d fd := by
  obtain ⟨kp, c2⟩ := He.ba c
  unfold seenAt at e
  cases q : K.lookup (d.ad K) with
  | none =>
    rw [q] at c2
    exact nomatch c2
  | some ob =>
    obtain ⟨oc, od, dt, osl⟩ := ob
    rw [q] at c2 e
    cases dt with
    | func g =>
      obtain ⟨m1, m2, m3, m4, m5, m6, m7, m8, m9, m10, m11, m12, m13, m14, m15⟩ := g
      have e2 : (some (m1, m2, m3, m4, m5, m6, m7, m15) : Seen) = some (d.nm, d.ql, defArgs d.st, .stmts (defBody d.st), defScope d.st, mainGlobals, [], builtinsNs) := e
      simp only [Option.some.injEq, Prod.mk.injEq] at e2
      obtain ⟨u1, u2, u3, u4, u5, u6, u7, u8⟩ := e2
      subst u1 u2 u3 u4 u5 u6 u7 u8
      obtain ⟨v1, v2⟩ := He.ba (show (PySem.W.codeIn K m13 d.ql && He.dflB K m8 (d.vs K)) = true from c2)
      exact ⟨_, ⟨oc, od, m8, m9, m10, m11, m12, m13, m14, osl, rfl, q, v1, He.dflB_ok v2, .inl rfl⟩, kp⟩
    | _ => exact nomatch c2
abbrev Al2 : Type := Bool × List Seen
def look (fa : List Tst) (fn : List Dx) (K : Fr) : Al2 := ((fa.all fun f => f K) && fn.all fun d => d.okb K, fn.map fun d => seenAt K (d.ad K))
def due (fn : List Dx) : Al2 := (true, fn.map Dx.due)
def Says (fa : List Tst) (fn : List Dx) (K : Fr) : Prop := look fa fn K = due fn
def lookG (n : Nat) (fa : List Tst) (fn : List Dx) (g : Addr → Option Obj) : Al2 := look fa fn (He.frG g (cStatics :: He.asD g n))
def hook (n : Nat) (fa : List Tst) (fn : List Dx) : PySem.W.Hook where
  α := Al2
  obs := fun s => lookG n fa fn s.heap.get?
  val := fun _ => due fn
  says := fun _ h => ∃ K : Fr, K.In h ∧ Says fa fn K
  of := fun _ _ e => ⟨_, He.frG_in, e⟩
  keeps := fun _ _ _ ⟨K, hK, c⟩ k => ⟨K, PySem.W.Frag.In.keeps hK k, c⟩
theorem lookG_eq {n : Nat} {fa : List Tst} {fn : List Dx} {g : Addr → Option Obj} {s : Shared} (h : ∀ a, g a = s.heap.get? a) : lookG n fa fn g = (hook n fa fn).obs s := by
  have e : g = s.heap.get? := funext h
  subst e
  rfl
section
variable {fa : List Tst} {fn : List Dx} {K : Fr}
theorem Says.tst (c : Says fa fn K) (i : Nat) {f : Tst} (h : fa[i]? = some f := by rfl) : f K = true := by
  have c0 := congrArg Prod.fst c
  have c1 := (He.ba (show ((fa.all fun f => f K) && fn.all fun d => d.okb K) = true from c0)).1
  exact List.all_eq_true.mp c1 f (List.mem_of_getElem? h)
theorem Says.dat (c : Says fa fn K) (i : Nat) {d : Dx} (h : fn[i]? = some d := by rfl) : ∃ fd, DAt K d fd := by
  have c0 := congrArg Prod.fst c
  have c2 := (He.ba (show ((fa.all fun f => f K) && fn.all fun d => d.okb K) = true from c0)).2
  have e : (fn.map fun d => seenAt K (d.ad K)) = fn.map Dx.due := congrArg Prod.snd c
  have e2 : (fn.map fun d => seenAt K (d.ad K))[i]? = (fn.map Dx.due)[i]? := by rw [e]
  rw [List.getElem?_map, List.getElem?_map, h] at e2
  exact Dx.at_of (Option.some.inj e2) (List.all_eq_true.mp c2 d (List.mem_of_getElem? h))
end
/-! ### tests -/
def tGlo (x : Str) : Tst := (He.Fa.glo x).ok
def tFree (x : Str) : Tst := (He.Fa.free x).ok
def tInt (x : Str) (i : Int) : Tst := (He.Fa.int x i).ok
def tStr (x z : Str) : Tst := (He.Fa.str x z).ok
def tCls (x : Str) : Tst := (He.Fa.cls x).ok
def tNoat (x f : Str) : Tst := (He.Fa.noat x f).ok
def tMeth (x m : Str) : Tst := (He.Fa.meth x m).ok
def tMkr (x : Str) : Tst := (He.Fa.mkr x).ok
/-- the name is a built-in function (brought in from a module) -/
def tBlt (x : Str) (id : String) : Tst := fun K => He.eqO (PySem.W.nsIn K mainGlobals x) (some (some (.builtin id)))
/-- the getter of the property f of the class x -/
def getAd (x f : Str) (K : Fr) : Addr := match PySem.W.recIn K (He.ma K (He.ga K x) f) "property" with
  | some (.ref g :: _) => g
  | _ => 0
def tProp (x f : Str) : Tst := fun K =>
  He.eqO (PySem.W.findIn K (.ref (He.ga K x)) f) (some (some (.ref (He.ma K (He.ga K x) f)))) &&
  (He.eqO (PySem.W.specialIn K (.ref (He.ma K (He.ga K x) f)) "__get__") (some (some (.builtin "property.__get__"))) &&
  (decide (PySem.W.takesIn K (.ref (He.ma K (He.ga K x) f)) = some true) &&
  (match PySem.W.recIn K (He.ma K (He.ga K x) f) "property" with
  | some (.ref _ :: _) => true
  | _ => false)))
theorem prop_ok {K : Fr} {x f : Str} (c : tProp x f K = true) : PropOf K (He.ga K x) f (He.ma K (He.ga K x) f) (getAd x f K) := by
  obtain ⟨c1, c⟩ := He.ba c
  obtain ⟨c2, c⟩ := He.ba c
  obtain ⟨c3, c4⟩ := He.ba c
  refine ⟨He.eqO_ok c1, He.eqO_ok c2, of_decide_eq_true c3, ?_⟩
  unfold getAd
  cases e : PySem.W.recIn K (He.ma K (He.ga K x) f) "property" with
  | none =>
    rw [e] at c4
    exact nomatch c4
  | some l =>
    rw [e] at c4
    cases l with
    | nil => exact nomatch c4
    | cons v r =>
      cases v with
      | ref g => exact ⟨r, rfl⟩
      | _ => exact nomatch c4
theorem blt_ok {K : Fr} {h : Heap} {mg : Str → Option Value} (X : K.In h) (G : h.Ns mainGlobals mg) {x : Str} {id : String} (c : tBlt x id K = true) : mg x = some (.builtin id) := PySem.W.mg_of X G (He.eqO_ok c)
/-- where a global def stands; a class's method -/
def gAd (x : Str) (K : Fr) : Addr := He.ga K x
def mAd (x m : Str) (K : Fr) : Addr := He.ma K (He.ga K x) m
end Hk
namespace Hk
open PySem PySem.Spec PyProof.Rows L2
/-- the function inside the static method m of the class x -/
def statAd (x m : Str) (K : Fr) : Addr := He5.wf K (He.ga K x) "staticmethod" m
def tStat (x m : Str) : Tst := fun K => He5.wrapB K (He.ga K x) "staticmethod" "staticmethod.__get__" m &&
  (PySem.W.readsIn K (He.ga K x) (.type "type") && (He.eqO (PySem.W.specialIn K (.ref (He.ga K x)) "__getattribute__") (some (some (.builtin "type.__getattribute__"))) && PySem.W.keepIn K (.ref (statAd x m K))))
/-- == is the class's own, != object's -/
def tNe (x : Str) : Tst := fun K => He.eqO (PySem.W.findIn K (.ref (He.ga K x)) "__ne__") (some (some (.builtin "object.__ne__"))) && decide (PySem.W.subIn K (.ref (He.ga K x)) (.type "object") = some true)
/-- what isinstance asks of an instance of the class x -/
def tIns (x : Str) : Tst := fun K => He.eqO (PySem.W.findIn K (.ref (He.ga K x)) "__class__") (some (some (.builtin "object.__class__"))) &&
  (He.eqO (PySem.W.specialIn K (.builtin "object.__class__") "__get__") (some (some (.builtin "getset_descriptor.__get__"))) && (decide (PySem.W.takesIn K (.builtin "object.__class__") = some true) && decide (PySem.W.mroIn K (He.ga K x) (.type "object") = some true)))
/-- isinstance of the built-in type t against the class x; of the class y against x -/
def tKit (t : String) (x : Str) (b : Bool) : Tst := fun K => decide (PySem.W.kitOne K (.type t) (.ref (He.ga K x)) = some b)
def tKitO (y x : Str) (b : Bool) : Tst := fun K => decide (PySem.W.kitOne K (.ref (He.ga K y)) (.ref (He.ga K x)) = some b)
def tKitB (y : Str) (t : String) (b : Bool) : Tst := fun K => decide (PySem.W.kitOne K (.ref (He.ga K y)) (.type t) = some b)
/-- a comparison of an instance of x with a value of the type t begins with the instance -/
def tFst (x : Str) (t : String) : Tst := fun K => PySem.W.notFirst K (He.ga K x) (.type t)
def tFstO (x : Str) : Tst := fun K => PySem.W.notFirst K (He.ga K x) (.ref (He.ga K x))
theorem ins_ok {K : Fr} {x : Str} (c : tIns x K = true) {H : Hp} {a dx : Addr} {fs : List (Str × V)} (e : H a = some (.ins (He.ga K x) dx fs)) (cl : Cls K (He.ga K x)) : TyOf K H (.ref a) (.ref (He.ga K x)) := by
  obtain ⟨c1, c⟩ := He.ba c
  obtain ⟨c2, c⟩ := He.ba c
  obtain ⟨c3, c4⟩ := He.ba c
  exact .ins e cl (He.eqO_ok c1) (He.eqO_ok c2) (of_decide_eq_true c3) (of_decide_eq_true c4)
def clsMk (x : Str) : Tst := fun K => tCls x K && tMkr x K
end Hk
namespace Hk
open PySem PySem.Spec PyProof.Rows L2
section
variable {P : Program} {w : World} {K : Fr} {mg : Str → Option Value} {base : Heap}
/-- the global name x stands for a def at ad that keeps the promise sp (nothing is raised), at level k -/
def Cal (P : Program) (w : World) (K : Fr) (mg : Str → Option Value) (base : Heap) (k : Nat) (x : Str) (ad : Addr) (ps : List Str) (sp : Sp) : Prop :=
  ∃ fd : FuncData, FnOk P w K mg base CX0 k ad fd ps sp ∧ Binds K fd ps [] ∧ PySem.W.keepIn K (.ref ad) = true ∧ mg x = some (.ref ad)
theorem Cal.mono {j k : Nat} {x : Str} {ad : Addr} {ps : List Str} {sp : Sp} (c : Cal P w K mg base j x ad ps sp) (h : j ≤ k) : Cal P w K mg base k x ad ps sp := by
  obtain ⟨fd, F, r⟩ := c
  exact ⟨fd, F.mono h, r⟩
theorem Cal.imp {k : Nat} {x : Str} {ad : Addr} {ps : List Str} {sp sp' : Sp} (c : Cal P w K mg base k x ad ps sp) (h : ∀ vs H Q E, sp' vs H Q E → sp vs H Q E) : Cal P w K mg base k x ad ps sp' := by
  obtain ⟨fd, F, r⟩ := c
  exact ⟨fd, F.imp h, r⟩
theorem pe_c {X : Cx} {k : Nat} {x : Str} {ad : Addr} {ps : List Str} {sp : Sp} {e : Expr} {es : List Expr} {t : TA} {p pos : Pos} (c : Cal X.prog X.w X.K X.mg X.base k x ad ps sp) (hr : Room k X.A) (ha : PA X (e :: es) t) (hg : Gl X x := by rfl)
    (hdb : (x == ("__debug__" : Str)) = false := by decide) (he : starEach (e :: es) X.env = (false, eval e X.env) :: starEach es X.env := by rfl) (hpl : (backTo pos (starEach es X.env)).any (·.1) = false := by rfl) :
    PE X (.Call (.Name x p) (e :: es) [] pos) (tCall sp [] E0 t) := by
  obtain ⟨fd, F, b, kp, m⟩ := c
  exact pe_call F hr hg m kp b .nil pass0 ha hdb he hpl
/-- the body of a def: its reading -/
abbrev Body (P : Program) (w : World) (K : Fr) (mg : Str → Option Value) (base : Heap) (k : Nat) (d : Dx) (N ps : List Str) (sp : Sp) : Prop :=
  ∀ (cdv : Value) (A : Around) (outer : List Env) (s : Shared) (H : Hp) (vs : List V) (Q : VK) (E : XK), Room k (A.deeper (envOfC d.ql (defScope d.st) s.heap.objs.size (d.ad K) cdv)) → sp vs H Q E →
      ∃ t, PSs (cxOf CX0 P w K mg base N d.ql (defScope d.st) (d.ad K) cdv A outer s H E).nox (defBody d.st) t ∧ t { nx := fun _ H' => Q .non H', rt := Q } (start N vs) H
theorem ok_of {k : Nat} {d : Dx} {N ps : List Str} {sp : Sp} {fd : FuncData} (D : DAt K d fd) (S : FnScope N ps (defScope d.st)) (len : ∀ vs H Q E, sp vs H Q E → vs.length = ps.length) (hb : Body P w K mg base k d N ps sp) :
    FnOk P w K mg base CX0 (k + 1) (d.ad K) fd ps sp := by
  refine FunD.ok D S len fun cdv A outer s H vs Q E hr h => ?_
  obtain ⟨t, h1, h2⟩ := hb cdv A outer s H vs Q E hr h
  exact ⟨t, h1.nox, h2⟩
theorem cal_of {k : Nat} {d : Dx} {N ps : List Str} {sp : Sp} {x : Str} (D : ∃ fd, DAt K d fd) (hv : d.df = []) (S : FnScope N ps (defScope d.st)) (hm : mg x = some (.ref (d.ad K)))
    (hbi : ∀ (kV doc pm : Value) (an : Option Addr) (cdv ct : Value) (us : List Value), us.length = ps.length → bindArgs (PySem.W.fnOf d.nm d.ql (defArgs d.st) (defBody d.st) (defScope d.st) .none kV doc pm an cdv ct) ⟨us, []⟩ = pure (ps.zip us))
    (len : ∀ vs H Q E, sp vs H Q E → vs.length = ps.length) (hb : Body P w K mg base k d N ps sp) : Cal P w K mg base (k + 1) x (d.ad K) ps sp := by
  obtain ⟨fd, D⟩ := D
  have e : d.vs K = [] := by
    unfold Dx.vs
    rw [hv]
    rfl
  have D' : FunD K d.nm d.ql (defArgs d.st) (defBody d.st) (defScope d.st) [] [] (d.ad K) fd := by
    rw [← e]
    exact D
  exact ⟨fd, ok_of D S len hb, FunD.bindsN D' hbi, D.kp, hm⟩
end
end Hk
namespace Hk
open PySem PySem.Spec PyProof.Rows L2
theorem bo_int : bootBuiltins "int" = some (.type "int") := by decide +kernel
theorem bo_str : bootBuiltins "str" = some (.type "str") := by decide +kernel
theorem bo_len : bootBuiltins "len" = some (.builtin "len") := by decide +kernel
theorem bo_min : bootBuiltins "min" = some (.builtin "min") := by decide +kernel
theorem bo_max : bootBuiltins "max" = some (.builtin "max") := by decide +kernel
theorem bo_abs : bootBuiltins "abs" = some (.builtin "abs") := by decide +kernel
theorem bo_repr : bootBuiltins "repr" = some (.builtin "repr") := by decide +kernel
theorem bo_isinstance : bootBuiltins "isinstance" = some (.builtin "isinstance") := by decide +kernel
theorem bo_all : bootBuiltins "all" = some (.builtin "all") := by decide +kernel
theorem bo_any : bootBuiltins "any" = some (.builtin "any") := by decide +kernel
theorem bo_range : bootBuiltins "range" = some (.type "range") := by decide +kernel
theorem bo_bool : bootBuiltins "bool" = some (.type "bool") := by decide +kernel
end Hk

/-! Defs below which nothing is being shown (no repr runs around them): so repr of made data has its rule. -/
namespace Hk
open PySem PySem.Spec PyProof.Rows L2
abbrev Calm (A : Around) : Prop := A.guards = some []
/-- a def's promise where no repr runs around the call; nothing is raised -/
structure FnG (P : Program) (w : World) (K : Fr) (mg : Str → Option Value) (base : Heap) (k : Nat) (f : Addr) (fd : FuncData) (ps : List Str) (sp : Sp) : Prop where
  len : ∀ vs H Q E, sp vs H Q E → vs.length = ps.length
  run : ∀ (A : Around) (out : List Env) (s : Shared) (H : Hp) (args : Args) (us : List Value) (vs : List V) (Q : VK), Room k A → Calm A → Env0 P w K mg base A out s H → BindsTo s fd args (ps.zip us) → Vals vs us → sp vs H Q E0 →
    codeAny (model P w) A (.call (.ref f) args) (CR CX0 out P w H s Q E0) s
section
variable {P : Program} {w : World} {K : Fr} {mg : Str → Option Value} {base : Heap}
theorem FnG.mono {j k : Nat} {f : Addr} {fd : FuncData} {ps : List Str} {sp : Sp} (F : FnG P w K mg base j f fd ps sp) (h : j ≤ k) : FnG P w K mg base k f fd ps sp :=
  ⟨F.len, fun A out s H args us vs Q r => F.run A out s H args us vs Q (r.mono h)⟩
theorem FnG.of {k : Nat} {f : Addr} {fd : FuncData} {ps : List Str} {sp : Sp} (F : FnOk P w K mg base CX0 k f fd ps sp) : FnG P w K mg base k f fd ps sp :=
  ⟨F.len, fun A out s H args us vs Q r _ e b v h => F.run A out s H args us vs Q E0 r e b v h⟩
theorem FnG.imp {k : Nat} {f : Addr} {fd : FuncData} {ps : List Str} {sp sp' : Sp} (F : FnG P w K mg base k f fd ps sp) (h : ∀ vs H Q E, sp' vs H Q E → sp vs H Q E) : FnG P w K mg base k f fd ps sp' :=
  ⟨fun vs H Q E q => F.len vs H Q E (h _ _ _ _ q), fun A out s H args us vs Q r g e b v q => F.run A out s H args us vs Q r g e b v (h _ _ _ _ q)⟩
/-- such a def is called from a body -/
theorem call_g {X : Cx} {pins : List (Addr × Obj)} {σ : L2.St} {H : Hp} {s : Shared} {Q : VK} {us : List Value} {vs : List V} {k : Nat} {f : Addr} {fd : FuncData} {ps : List Str} {sp : Sp} (F : FnG X.prog X.w X.K X.mg X.base k f fd ps sp)
    (hr : Room k X.A) (hc : Calm X.A) (hb : Binds X.K fd ps []) (I : Inv X pins σ H s) (r : Vals vs us) (h : sp vs H Q E0) : wpAny (model X.prog X.w) X.A (call (.ref f) us) (EP X pins σ Q) X.xe s := by
  have ln : us.length = ps.length := r.length.symm.trans (F.len _ _ _ _ h)
  have bd : BindsTo s fd ⟨us, []⟩ (ps.zip us) := by
    have := hb s us I.kIn (by rw [List.append_nil]; exact ln)
    rwa [List.append_nil] at this
  refine wpAny_call (codeAny_mono (F.run X.A X.stack s H ⟨us, []⟩ us vs Q hr hc I.env0 bd r h) fun z s' hq => ?_)
  rcases z with e | fl
  · exact (show False from hq).elim
  · cases fl with
    | ret u => exact I.after hq
    | _ => exact (show False from hq).elim
/-- the global name x: a def at ad that keeps sp -/
def CalG (P : Program) (w : World) (K : Fr) (mg : Str → Option Value) (base : Heap) (k : Nat) (x : Str) (ad : Addr) (ps : List Str) (sp : Sp) : Prop :=
  ∃ fd : FuncData, FnG P w K mg base k ad fd ps sp ∧ Binds K fd ps [] ∧ PySem.W.keepIn K (.ref ad) = true ∧ mg x = some (.ref ad)
theorem Cal.g {k : Nat} {x : Str} {ad : Addr} {ps : List Str} {sp : Sp} (c : Cal P w K mg base k x ad ps sp) : CalG P w K mg base k x ad ps sp := by
  obtain ⟨fd, F, r⟩ := c
  exact ⟨fd, .of F, r⟩
theorem CalG.mono {j k : Nat} {x : Str} {ad : Addr} {ps : List Str} {sp : Sp} (c : CalG P w K mg base j x ad ps sp) (h : j ≤ k) : CalG P w K mg base k x ad ps sp := by
  obtain ⟨fd, F, r⟩ := c
  exact ⟨fd, F.mono h, r⟩
/-- its reading -/
def tG (sp : Sp) (t : TA) : TE := fun σ H Q => t σ H fun vs H1 => sp vs H1 Q E0
theorem pe_g {X : Cx} {k : Nat} {x : Str} {ad : Addr} {ps : List Str} {sp : Sp} {e : Expr} {es : List Expr} {t : TA} {p pos : Pos} (c : CalG X.prog X.w X.K X.mg X.base k x ad ps sp) (hr : Room k X.A) (hc : Calm X.A) (ha : PA X (e :: es) t) (hg : Gl X x := by rfl)
    (hdb : (x == ("__debug__" : Str)) = false := by decide) (he : starEach (e :: es) X.env = (false, eval e X.env) :: starEach es X.env := by rfl) (hpl : (backTo pos (starEach es X.env)).any (·.1) = false := by rfl) :
    PE X (.Call (.Name x p) (e :: es) [] pos) (tG sp t) := by
  obtain ⟨fd, F, b, kp, m⟩ := c
  refine ⟨fun pins s σ H Q I h => wpAny_Call_Name_kw (ld_glob I hg m ?_ hdb)⟩
  refine PySem.W.callWith_K (h₀ := X.base) I.ok.mod.kin kp (thn (ha.run pos pins s σ H _ I h) fun us s1 ⟨vs, H1, J, r, q⟩ => ⟨J.kIn, ?_⟩) he hpl
  exact call_g F hr hc b J r q
abbrev BodyG (P : Program) (w : World) (K : Fr) (mg : Str → Option Value) (base : Heap) (k : Nat) (d : Dx) (N ps : List Str) (sp : Sp) : Prop :=
  ∀ (cdv : Value) (A : Around) (outer : List Env) (s : Shared) (H : Hp) (vs : List V) (Q : VK) (E : XK), Room k (A.deeper (envOfC d.ql (defScope d.st) s.heap.objs.size (d.ad K) cdv)) → Calm A → sp vs H Q E →
      ∃ t, PSs (cxOf CX0 P w K mg base N d.ql (defScope d.st) (d.ad K) cdv A outer s H E).nox (defBody d.st) t ∧ t { nx := fun _ H' => Q .non H', rt := Q } (start N vs) H
/-- such a def, by its body -/
theorem okg_of {k : Nat} {d : Dx} {N ps : List Str} {sp : Sp} {fd : FuncData} (D : DAt K d fd) (S : FnScope N ps (defScope d.st)) (len : ∀ vs H Q E, sp vs H Q E → vs.length = ps.length) (hb : BodyG P w K mg base k d N ps sp) :
    FnG P w K mg base (k + 1) (d.ad K) fd ps sp := by
  obtain ⟨oc, od, dV, kV, doc, pm, an, cdv, ct, osl, rfl, lk, hcd, _, _⟩ := D.ex
  refine ⟨len, fun A out s H args us vs Q hr hc e0 hbd r hsp => ?_⟩
  have old : ∀ b o, base.get? b = some o → s.heap.get? b = some o := fun b o z => (e0.bs b o z).1
  have KX : K.In s.heap := e0.mod.kin.keeps old
  have kd : ∀ y ∈ ps.zip us, (defScope d.st).names.lookup y.1 = some .local ∨ ((defScope d.st).names.lookup y.1 = some .cell ∧ ((cellsFrom (s.heap.objs.size + 1) (defScope d.st).names []).lookup y.1).isSome = true) := by
    rintro ⟨n, v⟩ hy
    have q := S.par n (List.of_mem_zip hy).1
    exact q.imp id fun q => ⟨q, PySem.W.cellsFrom_some _ _ _ (.inl q)⟩
  refine codeAny_call_function hr.depth (KX _ _ lk) rfl S.co S.gen rfl (PySem.W.codeRec_of KX hcd) (hbd _ _ _ _ ?_)
  refine wpAny_newFunctionEnv_cells S.kind kd fun env he s1 x => ?_
  subst he
  refine ⟨(e0.mod.nolimit.keeps old).keeps x.toInCall.keep, codeAny_func ?_⟩
  obtain ⟨t, ht, hq⟩ := hb cdv A out s H vs Q E0 (hr.deeper _) hc hsp
  have I : Inv (cxOf CX0 P w K mg base N d.ql (defScope d.st) (d.ad K) cdv A out s H E0) [] (start N vs) H s1 := inv_start S hr.hd e0 (len _ _ _ _ hsp) r x
  refine wpAny_mono (ht.nox.run [] s1 (start N vs) H _ I hq) (fun fl s' hs => ?_) fun e s' hs => hs
  cases fl with
  | next =>
    obtain ⟨σ', H', J, q⟩ := hs
    exact ⟨V.non, H', J.os, J.bare, J.base, J.hok, rfl, q⟩
  | ret u =>
    obtain ⟨v, σ', H', J, rv, q⟩ := hs
    exact ⟨v, H', J.os, J.bare, J.base, J.hok, rv, q⟩
  | brk =>
    obtain ⟨σ', H', J, q⟩ := hs
    exact False.elim q
  | cont =>
    obtain ⟨σ', H', J, q⟩ := hs
    exact False.elim q
theorem calg_of {k : Nat} {d : Dx} {N ps : List Str} {sp : Sp} {x : Str} (D : ∃ fd, DAt K d fd) (hv : d.df = []) (S : FnScope N ps (defScope d.st)) (hm : mg x = some (.ref (d.ad K)))
    (hbi : ∀ (kV doc pm : Value) (an : Option Addr) (cdv ct : Value) (us : List Value), us.length = ps.length → bindArgs (PySem.W.fnOf d.nm d.ql (defArgs d.st) (defBody d.st) (defScope d.st) .none kV doc pm an cdv ct) ⟨us, []⟩ = pure (ps.zip us))
    (len : ∀ vs H Q E, sp vs H Q E → vs.length = ps.length) (hb : BodyG P w K mg base k d N ps sp) : CalG P w K mg base (k + 1) x (d.ad K) ps sp := by
  obtain ⟨fd, D⟩ := D
  have e : d.vs K = [] := by
    unfold Dx.vs
    rw [hv]
    rfl
  have D' : FunD K d.nm d.ql (defArgs d.st) (defBody d.st) (defScope d.st) [] [] (d.ad K) fd := by
    rw [← e]
    exact D
  exact ⟨fd, okg_of D S len hb, FunD.bindsN D' hbi, D.kp, hm⟩
/-- the law's own end: such a def is called with the script -/
theorem end_g {l : PySem.W.OpenLaw} {q : Program} {loose : List Str} {XP : (Str → Option Value) → Heap → Prop} {YP : World → Heap → Prop} {d : DefRec} {k : Nat} {x : Str} (hn : l.most = some 63) (hdf : d.params.defaults = []) (hr : Room k callerA)
    (F : ∀ (w : World) (mg : Str → Option Value) (fa : Addr) (h : Heap), YP w h → h.Ns mainGlobals mg → mg d.name = some (.ref fa) →
      ∃ (K : Fr) (fd : FuncData) (sp : Sp), K.In h ∧ (∀ (s : Shared) (u : Value), BindsTo s fd ⟨[u], []⟩ [(x, u)]) ∧
        (∀ (H : Hp) (a : Addr) (ns : List Int), ns.length ≤ 63 → (∀ n ∈ ns, Builtin.Int.intBits n ≤ 1048576) → SqL K H a (ns.map V.int) → sp [.ref a] H (fun v _ => v = .bl true) E0) ∧
        ∀ base : Heap, K.In base → base.Ns mainGlobals mg → FnG l.prog w K mg base k fa fd [x] sp) :
    PySem.W.WalkO q loose XP YP l.row.toRowW d [] (fun f vs => PySem.call f vs) := by
  refine Att.attach_callB hn hdf fun w s₀ s₁ mg mb fa o pm cd doc a vs ns G Y ho hd hcd hmg hobj hints hlen hbits hg => ?_
  obtain ⟨K, fd, sp, KX, hbi, hsp, hF⟩ := F w mg fa _ Y G.T.g hmg
  have rv := vals_ints hints
  have sz : vs.length ≤ sizeLine := by
    have := hints.length
    have e : 63 ≤ sizeLine := by decide
    omega
  have szn : (ns.map V.int).length ≤ sizeLine := by
    rw [rv.length]
    exact sz
  -- an abstract heap in which the script alone may be tracked
  obtain ⟨H, hO, hS, hok, hA, hK⟩ : ∃ H : Hp, Only H ∧ SqL K H a (ns.map V.int) ∧ HOk l.prog w H s₁.heap ∧ (∀ b, H b ≠ none → b = a) ∧ (H a ≠ none → K.lookup a = none) := by
    cases hk : K.lookup a with
    | some ob =>
      have e := KX a ob hk
      rw [hobj] at e
      cases e
      refine ⟨fun _ => none, fun _ => .inl rfl, .inr ⟨_, vs.toArray, _, hk, rfl, rfl, rfl, ?_, ?_⟩, fun b u z => (nomatch z), fun b z => absurd rfl z, fun z => absurd rfl z⟩
      · rw [List.size_toArray]
        exact sz
      · simpa using rv
    | none =>
      have at_ : ∀ {b : Addr} {u : HO}, (if b = a then some (HO.frz { cls := .type "list", data := .seq vs.toArray } (.lst (ns.map V.int))) else none) = some u → b = a ∧ u = HO.frz { cls := .type "list", data := .seq vs.toArray } (.lst (ns.map V.int)) := fun {b u} z => by
        by_cases hb : b = a
        · rw [if_pos hb] at z
          exact ⟨hb, (Option.some.inj z).symm⟩
        · rw [if_neg hb] at z
          exact nomatch z
      refine ⟨fun b => if b = a then some (.frz { cls := .type "list", data := .seq vs.toArray } (.lst (ns.map V.int))) else none, fun b => ?_, .inl (.inr ⟨_, if_pos rfl⟩), fun b u z => ?_, fun b z => ?_, fun _ => rfl⟩
      · by_cases hb : b = a
        · exact .inr ⟨_, _, if_pos hb⟩
        · exact .inl (if_neg hb)
      · obtain ⟨e1, e2⟩ := at_ z
        subst e1 e2
        exact ⟨hobj, szn, vs, _, rv, hobj⟩
      · by_cases hb : b = a
        · exact hb
        · exact absurd (if_neg hb) z
  have old : ∀ {b : Addr} {ob : Obj}, s₁.heap.get? b = some ob → H b = none → (hidT s₁.heap H).get? b = some ob := fun e n => hidT_get e n
  have only_a : ∀ b, b ≠ a → H b = none := fun b hb => by
    cases z : H b with
    | none => rfl
    | some u => exact absurd (hA b (by rw [z]; exact fun y => nomatch y)) hb
  have dict_out : ∀ {b : Addr} {ob : Obj} {es : Array DictEntry} {ep : Nat}, s₁.heap.get? b = some ob → ob.data = .dict es ep → H b = none := fun {b ob es ep} e dd => only_a b fun z => by
    subst z
    rw [hobj] at e
    cases e
    exact nomatch dd
  have ns_ : ∀ {b : Addr} {m : Str → Option Value}, s₁.heap.Ns b m → (hidT s₁.heap H).Ns b m := fun {b m} ⟨ob, es, ep, e, dd, r⟩ => ⟨ob, es, ep, old e (dict_out e dd), dd, r⟩
  have K_ : K.In (hidT s₁.heap H) := fun b ob e => old (KX b ob e) (by
    cases z : H b with
    | none => rfl
    | some u =>
      have eb := hA b (by rw [z]; exact fun y => nomatch y)
      subst eb
      have := hK (by rw [z]; exact fun y => nomatch y)
      rw [this] at e
      exact nomatch e)
  obtain ⟨mc, l1, l2⟩ := G.T.nolimit
  have e0 : Env0 l.prog w K mg (hidT s₁.heap H) callerA [] s₁ H :=
    { frames := rfl, mod := ⟨K_, ns_ G.T.g, ⟨mb, ns_ G.T.b, G.T.builtins⟩, ⟨mc, ns_ l1, l2⟩⟩, bs := fun b ob e => of_hidT e, bsz := Nat.le_of_eq (hidT_size _ _), funs := trivial, frf := fun b hb => absurd hb (List.not_mem_nil), hok := hok, bare := .of_eq hg }
  refine codeAny_mono ((hF _ K_ (ns_ G.T.g)).run callerA [] s₁ H ⟨[.ref a], []⟩ [.ref a] [.ref a] (fun v _ => v = .bl true) hr rfl e0 (hbi s₁ (.ref a)) (.cons rfl .nil) (hsp H a ns hlen hbits hS)) fun r s' h => ?_
  cases r with
  | error e => exact (show False from h).elim
  | ok fl =>
    cases fl with
    | ret u =>
      obtain ⟨v, H', os, bare, un, hok', r', ev⟩ := h
      have ev' : v = .bl true := ev
      subst ev'
      cases r'
      refine ⟨rfl, OldK.of_keep fun b ob e => ?_, os, bare⟩
      rcases hO b with z | ⟨o1, xs, z⟩
      · exact un.keep b ob e z (List.not_mem_nil) (List.not_mem_nil)
      · obtain ⟨e1, _⟩ := hok b _ z
        obtain ⟨e2, _⟩ := hok' b _ (un.frzs b o1 _ z)
        rw [e] at e1
        cases e1
        exact e2
    | _ => exact (show False from h).elim
end
end Hk

/-! repr of data; str, repr, == of own instances by their own methods; static methods. -/
namespace Hk
open PySem PySem.Spec PyProof.Rows L2
mutual
theorem Dp.noDict {K : Fr} {H : Hp} : ∀ (d : PyData) (v : V), Dp K H v d → d.hasDict = false
  | .none, _, _ => by simp [PyData.hasDict]
  | .bool _, _, _ => by simp [PyData.hasDict]
  | .int _, _, _ => by simp [PyData.hasDict]
  | .str _, _, _ => by simp [PyData.hasDict]
  | .list ds, _, h => by
    cases h with
    | lst _ ha =>
      simp only [PyData.hasDict]
      exact Dp.noDictAll ds _ ha
  | .tuple ds, _, h => by
    cases h with
    | tup _ ha =>
      simp only [PyData.hasDict]
      exact Dp.noDictAll ds _ ha
  | .dict _, _, h => by cases h
theorem Dp.noDictAll {K : Fr} {H : Hp} : ∀ (ds : List PyData) (vs : List V), DpAll K H vs ds → PyData.hasDictAll ds = false
  | [], _, _ => by simp [PyData.hasDictAll]
  | d :: ds, _, h => by
    cases h with
    | cons h1 h2 =>
      simp only [PyData.hasDictAll, Bool.or_eq_false_iff]
      exact ⟨Dp.noDict d _ h1, Dp.noDictAll ds _ h2⟩
end
/-- repr(x), x data: none, a truth, an int, a text, lists and tuples of such -/
def rRepr (K : Fr) : List V → Hp → VK → Prop := fun xs H Q => ∃ x d, xs = [x] ∧ Dp K H x d ∧ d.showable = true ∧ d.depth ≤ 60 ∧ d.shown.length ≤ sizeLine ∧ Q (.str d.shown) H
section
variable {X : Cx}
theorem call_reprD {k : Nat} (hc : Calm X.A) (hr : Room k X.A) : CallR X (.builtin "repr") (rRepr X.K) := by
  intro pins s σ H xs us Q I r h
  obtain ⟨x, d, rfl, hd, hs, hdp, hz, q⟩ := h
  obtain ⟨u, rfl, ru⟩ := r.one
  cases hd with
  | non =>
    cases ru
    rw [PyData.shown_none] at q
    exact PySem.P.repr_of_none ⟨.str _, H, I.tok _, ⟨_, rfl⟩, q⟩
  | bl b =>
    cases ru
    rw [PyData.shown_bool] at q
    refine PySem.P.repr_of_bool ⟨.str _, H, I.tok _, ⟨_, rfl⟩, ?_⟩
    cases b <;> exact q
  | int i =>
    obtain ⟨t, rfl⟩ := ru
    rw [PyData.shown_int] at q
    refine PySem.P.repr_of_int ?_ ⟨.str _, H, I.tok _, ⟨_, rfl⟩, q⟩
    simpa [PyData.showable] using hs
  | str y =>
    obtain ⟨t, rfl⟩ := ru
    rw [PyData.shown_str] at q hz
    exact PySem.P.repr_of_str ⟨.str _, H, I.tok _, ⟨_, rfl⟩, q⟩ hz
  | @lst a ys ds h1 h2 =>
    have e : u = Value.ref a := ru
    subst e
    have nd := Dp.noDict _ _ (Dp.lst h1 h2)
    obtain ⟨as, hr'⟩ := Dp.reads I (.list ds) _ _ (Dp.lst h1 h2) rfl
    refine PySem.repr_of_reads' hr' hs (fun z => by rw [nd] at z; exact nomatch z) hc ?_ (fun b o z => z) (fun h' u tk kp => ⟨.str _, H, I.kept kp, ⟨_, rfl⟩, q⟩) hz
    have := hr.units
    omega
  | @tup a ys ds h1 h2 =>
    have e : u = Value.ref a := ru
    subst e
    have nd := Dp.noDict _ _ (Dp.tup h1 h2)
    obtain ⟨as, hr'⟩ := Dp.reads I (.tuple ds) _ _ (Dp.tup h1 h2) rfl
    refine PySem.repr_of_reads' hr' hs (fun z => by rw [nd] at z; exact nomatch z) hc ?_ (fun b o z => z) (fun h' u tk kp => ⟨.str _, H, I.kept kp, ⟨_, rfl⟩, q⟩) hz
    have := hr.units
    omega
/-! ### own methods that the interpreter calls -/
theorem own_run {A' : Around} {pins : List (Addr × Obj)} {σ : L2.St} {H : Hp} {s : Shared} {Q : VK} {E' : Value → Shared → Prop} {us : List Value} {vs : List V} {k : Nat} {f : Addr} {fd : FuncData} {ps : List Str} {sp : Sp} (F : FnOk X.prog X.w X.K X.mg X.base CX0 k f fd ps sp)
    (hr : Room k A') (e0 : Env0 X.prog X.w X.K X.mg X.base A' X.stack s H) (hb : Binds X.K fd ps []) (I : Inv X pins σ H s) (r : Vals vs us) (h : sp vs H Q E0) : wpAny (model X.prog X.w) A' (call (.ref f) us) (EP X pins σ Q) E' s := by
  have ln : us.length = ps.length := r.length.symm.trans (F.len _ _ _ _ h)
  have bd : BindsTo s fd ⟨us, []⟩ (ps.zip us) := by
    have := hb s us I.kIn (by rw [List.append_nil]; exact ln)
    rwa [List.append_nil] at this
  refine wpAny_call (codeAny_mono (F.run A' X.stack s H ⟨us, []⟩ us vs Q E0 hr e0 bd r h) fun z s' hq => ?_)
  rcases z with e | fl
  · exact (show False from hq).elim
  · cases fl with
    | ret u => exact I.after hq
    | _ => exact (show False from hq).elim
/-- the class at C has its own def at f for the name m -/
structure Own (K : Fr) (C : Addr) (m : Str) (f : Addr) : Prop where
  at_ : PySem.W.findIn K (.ref C) m = some (some (.ref f))
  fn : PySem.W.isFn K (.ref f) = true
def rText (C : Addr) (sp : Sp) : List V → Hp → VK → Prop := fun xs H Q => ∃ a dx fs, xs = [.ref a] ∧ H a = some (.ins C dx fs) ∧ sp [.ref a] H (fun z H' => ∃ y, z = .str y ∧ Q z H') E0
section
variable {k : Nat} {C f : Addr} {fd : FuncData} {ps : List Str} {sp : Sp}
theorem call_strO (O : Own X.K C "__str__" f) (F : FnOk X.prog X.w X.K X.mg X.base CX0 k f fd ps sp) (hb : Binds X.K fd ps []) (hr : Room (k + 2) X.A) : CallR X (.type "str") (rText C sp) := by
  intro pins s σ H xs us Q I r h
  obtain ⟨a, dx, fs, rfl, ha, q⟩ := h
  obtain ⟨u, rfl, ru⟩ := r.one
  cases (show u = Value.ref a from ru)
  obtain ⟨mA, M, _⟩ := ins_get I.hok ha
  obtain ⟨od, J, _⟩ := M.look
  have r2 : Room k X.A.in1.in1 := (show Room (k + 1) X.A.in1 from Room.in1 hr).in1
  refine PySem.W.kso_call r2.units0 I.kIn J O.at_ O.fn (wpAny_mono (own_run (vs := [.ref a]) F r2 I.env0.in1.in1 hb I (.cons rfl .nil) q) (fun v s' z => ?_) fun _ _ z => z)
  obtain ⟨z', H', I', rz, y, ey, qz⟩ := z
  subst ey
  obtain ⟨t, e⟩ := (show ∃ t, v = Value.str y t from rz)
  cases e
  exact ⟨.str y, H', I', ⟨t, rfl⟩, qz⟩
theorem call_reprO (O : Own X.K C "__repr__" f) (F : FnOk X.prog X.w X.K X.mg X.base CX0 k f fd ps sp) (hb : Binds X.K fd ps []) (hr : Room (k + 1) X.A) : CallR X (.builtin "repr") (rText C sp) := by
  intro pins s σ H xs us Q I r h
  obtain ⟨a, dx, fs, rfl, ha, q⟩ := h
  obtain ⟨u, rfl, ru⟩ := r.one
  cases (show u = Value.ref a from ru)
  obtain ⟨mA, M, _⟩ := ins_get I.hok ha
  obtain ⟨od, J, _⟩ := M.look
  have r2 : Room k X.A.in1 := Room.in1 hr
  obtain ⟨m, hF⟩ := I.fr
  refine PySem.W.repr_K r2.units0 hF I.ok.mod.kin J O.at_ O.fn (wpAny_mono (own_run (vs := [.ref a]) F r2 I.env0.in1 hb I (.cons rfl .nil) q) (fun v s' z => ?_) fun _ _ z => z)
  obtain ⟨z', H', I', rz, y, ey, qz⟩ := z
  subst ey
  obtain ⟨t, e⟩ := (show ∃ t, v = Value.str y t from rz)
  cases e
  exact ⟨.str y, H', I', ⟨t, rfl⟩, qz⟩
/-- the type of what is compared -/
inductive TyL (K : Fr) (H : Hp) : V → Value → Prop where
  | non : TyL K H .non (.type "NoneType")
  | bl (b : Bool) : TyL K H (.bl b) (.type "bool")
  | int (i : Int) : TyL K H (.int i) (.type "int")
  | str (y : Str) : TyL K H (.str y) (.type "str")
  | lst {a : Addr} {xs : List V} (h : H a = some (.lst xs)) : TyL K H (.ref a) (.type "list")
  | tup {a : Addr} {xs : List V} (h : H a = some (.tup xs)) : TyL K H (.ref a) (.type "tuple")
  | ins {a C dx : Addr} {fs : List (Str × V)} (h : H a = some (.ins C dx fs)) : TyL K H (.ref a) (.ref C)
theorem typeOf_obj {M : Model} {h : Heap} {a : Addr} {o : Obj} {t : Value} (e : h.get? a = some o) (c : o.cls = t) : PySem.W.Looks M h (typeOf (.ref a)) t := by
  intro A Q E s kp q
  refine wpAny_typeOf_ref (kp _ _ e) ?_
  rw [c]
  exact q
theorem TyL.looks {pins : List (Addr × Obj)} {σ : L2.St} {H : Hp} {s : Shared} {y : V} {u t : Value} {M : Model} (I : Inv X pins σ H s) (ry : RelV y u) (ty : TyL X.K H y t) : PySem.W.Looks M s.heap (typeOf u) t := by
  cases ty with
  | non => cases ry; exact PySem.W.Looks.of_pure rfl
  | bl b => cases ry; exact PySem.W.Looks.of_pure rfl
  | int i =>
    obtain ⟨t, rfl⟩ := ry
    exact PySem.W.Looks.of_pure rfl
  | str z =>
    obtain ⟨t, rfl⟩ := ry
    exact PySem.W.Looks.of_pure rfl
  | @lst a xs h =>
    cases (show u = Value.ref a from ry)
    obtain ⟨_, its, n, _, e⟩ := (show ObjOk X.prog X.w H s.heap a (.lst xs) from I.hok a _ h)
    exact typeOf_obj e rfl
  | @tup a xs h =>
    cases (show u = Value.ref a from ry)
    obtain ⟨_, its, _, o, e, c, _⟩ := (show ObjOk X.prog X.w H s.heap a (.tup xs) from I.hok a _ h)
    exact typeOf_obj e c
  | @ins a C dx fs h =>
    cases (show u = Value.ref a from ry)
    obtain ⟨mA, M, _⟩ := ins_get I.hok h
    obtain ⟨od, J, _⟩ := M.look
    exact J.type
def rEqO (K : Fr) (C : Addr) (sp : Sp) : R2 := fun x y H Q => ∃ a dx fs t, x = .ref a ∧ H a = some (.ins C dx fs) ∧ TyL K H y t ∧ PySem.W.notFirst K C t = true ∧ sp [x, y] H (fun z H' => ∃ b, z = .bl b ∧ Q z H') E0
theorem op_eqO (O : Own X.K C "__eq__" f) (F : FnOk X.prog X.w X.K X.mg X.base CX0 k f fd ps sp) (hb : Binds X.K fd ps []) (hr : Room k X.A) : OpR X (compareOp .Eq) (rEqO X.K C sp) := by
  intro pins s σ H x y v u Q I rx ry h
  obtain ⟨a, dx, fs, t, rfl, ha, ty, hn, q⟩ := h
  cases (show v = Value.ref a from rx)
  obtain ⟨mA, M, _⟩ := ins_get I.hok ha
  obtain ⟨od, J, _⟩ := M.look
  obtain ⟨m, hF⟩ := I.fr
  show wpAny _ _ (richCompare .Eq (.ref a) u) _ _ _
  refine PySem.W.cmp_K (op := .Eq) hr.units0 hF I.ok.mod.kin J (ty.looks I ry) hn O.at_ O.fn (wpAny_mono (own_run (vs := [.ref a, y]) F hr I.env0 hb I (.cons rfl (.cons ry .nil)) q) (fun w s' z => ?_) fun _ _ z => z)
  obtain ⟨z', H', I', rz, b, eb, qz⟩ := z
  subst eb
  cases rz
  exact ⟨.bl b, H', I', rfl, qz⟩
end
end
end Hk
namespace Hk
open PySem PySem.Spec PyProof.Rows L2
/-! ### != where the class has == alone -/
section
variable {prog : Program} {w : World} {A : Around} {E : Value → Shared → Prop} {s : Shared} {K : Fr} {x C f : Addr} {ox : Obj} {od : Option Obj}
theorem ne_dflt {b tb : Value} {Q : Value → Shared → Prop} (hu : A.units + 2 < cLine) (Y : K.In s.heap) (I : PySem.W.InstAt s.heap x ox C od) (hb : PySem.W.Looks (model prog w) s.heap (typeOf b) tb) (hn : PySem.W.notFirst K C tb = true)
    (hne : PySem.W.findIn K (.ref C) "__ne__" = some (some (.builtin "object.__ne__"))) (he : PySem.W.findIn K (.ref C) "__eq__" = some (some (.ref f))) (hf : PySem.W.isFn K (.ref f) = true) (hob : PySem.W.subIn K (.ref C) (.type "object") = some true)
    (h : wpAny (model prog w) A.in1 (call (.ref f) [.ref x, b]) (fun v s' => ∃ r, v = .bool r ∧ Q (.bool (!r)) s') E s) : wpAny (model prog w) A (richCompare .NotEq (.ref x) b) Q E s := by
  have slot := PySem.F.slot_object_ne
  have body : wpAny (model prog w) A.in1 (Builtin.«object.__ne__» ⟨[.ref x, b], []⟩) (fun fin s' => ∃ v, fin = .done (.ret v) ∧ v ≠ .notImplemented ∧ Q v s') E s := by
    unfold Builtin.«object.__ne__»
    repeat (first
      | with_reducible refine wpAny_cRoomFor (show A.units + 1 < cLine by omega) ?_
      | (refine wpAny_bind (m := callSpecialIfBound? (.ref x) (Str.ofString "__eq__") [b]) (PySem.W.ifBound_K Y I he hf (wpAny_mono h (fun r s' hr => ?_) fun _ _ e => e))
         obtain ⟨b, rfl, hq⟩ := hr)
      | exact ⟨_, rfl, (fun z => nomatch z), hq⟩
      | (refine wpAny_bind (m := truthy (.bool _)) (wpAny_truthy_bool ?_))
      | wp_step)
  have called : wpAny (model prog w) A (call (.builtin "object.__ne__") [.ref x, b]) (fun v s' => v ≠ .notImplemented ∧ Q v s') E s := by
    refine wpAny_call (codeAny_call_builtin slot.plain PySem.F.cmpEntry_ne (PySem.W.check_slot PySem.F.cmpKind_ne PySem.F.cmpSplit_ne (I.type.andThen (PySem.W.looks_subIn Y hob)) (PySem.F.cmpArgs_ne _ _) ?_))
    exact wpAny_mono body (fun fin s' hv => by obtain ⟨v, rfl, q⟩ := hv; exact q) fun _ _ z => z
  have one : wpAny (model prog w) A (tryCompare (.ref x) (cmpInfo .NotEq).2.1 b) (fun r s' => ∃ v, r = some v ∧ Q v s') E s := by
    unfold tryCompare
    refine wpAny_bind ?_
    simp only [callSpecialIfBound?, bindSpecialIfBound?]
    refine wpAny_holding (wpAny_bind (wpAny_bind (wpAny_bind (I.type.here ((PySem.W.looks_findIn Y hne).here ?_)))))
    simp only [slot.bind]
    refine wpAny_bind (wpAny_askSetting (wpAny_ite ?_))
    split
    · refine wpAny_bind (wpAny_pure (wpAny_pure ?_))
      refine wpAny_bind (wpAny_mono called (fun v s' hv => wpAny_pure ?_) fun _ _ z => z)
      obtain ⟨h1, h2⟩ := hv
      cases v <;> first | exact absurd rfl h1 | exact wpAny_pure ⟨_, rfl, h2⟩
    · refine wpAny_tryCatch (wpAny_bind (wpAny_pure (wpAny_pure ?_)))
      refine wpAny_bind (wpAny_mono called (fun v s' hv => wpAny_pure ?_) fun _ _ z => z)
      obtain ⟨h1, h2⟩ := hv
      cases v <;> first | exact absurd rfl h1 | exact wpAny_pure ⟨_, rfl, h2⟩
  unfold richCompare
  simp only [oneThing_ref]
  refine wpAny_holding (wpAny_bind (wpAny_cRoomFor (by omega) ?_))
  refine wpAny_bind (I.type.here (wpAny_bind (hb.here ?_)))
  have nosub : ((Value.ref C != tb) = true) → PySem.W.subIn K tb (.ref C) = some false := fun q => by
    rcases Bool.or_eq_true_iff.mp hn with e | e
    · rw [beq_iff_eq.mp e] at q
      simp at q
    · exact beq_iff_eq.mp e
  split
  · rename_i q
    refine wpAny_bind ((PySem.W.looks_subIn Y (nosub q)).here ?_)
    simp only [Bool.false_eq_true, if_false]
    refine wpAny_bind (wpAny_mono one (fun r s' z => ?_) fun _ _ e => e)
    obtain ⟨v, rfl, hv⟩ := z
    exact wpAny_pure hv
  · refine wpAny_bind (wpAny_pure ?_)
    simp only [Bool.false_eq_true, if_false]
    refine wpAny_bind (wpAny_mono one (fun r s' z => ?_) fun _ _ e => e)
    obtain ⟨v, rfl, hv⟩ := z
    exact wpAny_pure hv
end
section
variable {X : Cx} {k : Nat} {C f : Addr} {fd : FuncData} {ps : List Str} {sp : Sp}
/-- the class has its own ==, and != of object -/
structure NeOf (K : Fr) (C : Addr) : Prop where
  ne : PySem.W.findIn K (.ref C) "__ne__" = some (some (.builtin "object.__ne__"))
  ob : PySem.W.subIn K (.ref C) (.type "object") = some true
def rNeO (K : Fr) (C : Addr) (sp : Sp) : R2 := fun x y H Q => ∃ a dx fs t, x = .ref a ∧ H a = some (.ins C dx fs) ∧ TyL K H y t ∧ PySem.W.notFirst K C t = true ∧ sp [x, y] H (fun z H' => ∃ b, z = .bl b ∧ Q (.bl (!b)) H') E0
theorem op_neO (O : Own X.K C "__eq__" f) (N : NeOf X.K C) (F : FnOk X.prog X.w X.K X.mg X.base CX0 k f fd ps sp) (hb : Binds X.K fd ps []) (hr : Room (k + 1) X.A) : OpR X (compareOp .NotEq) (rNeO X.K C sp) := by
  intro pins s σ H x y v u Q I rx ry h
  obtain ⟨a, dx, fs, t, rfl, ha, ty, hn, q⟩ := h
  cases (show v = Value.ref a from rx)
  obtain ⟨mA, M, _⟩ := ins_get I.hok ha
  obtain ⟨od, J, _⟩ := M.look
  have r2 : Room k X.A.in1 := Room.in1 hr
  show wpAny _ _ (richCompare .NotEq (.ref a) u) _ _ _
  refine ne_dflt (by have := hr.units; omega) I.kIn J (ty.looks I ry) hn N.ne O.at_ O.fn N.ob (wpAny_mono (own_run (vs := [.ref a, y]) F r2 I.env0.in1 hb I (.cons rfl (.cons ry .nil)) q) (fun w s' z => ?_) fun _ _ z => z)
  obtain ⟨z', H', I', rz, b, eb, qz⟩ := z
  subst eb
  cases rz
  exact ⟨b, rfl, .bl (!b), H', I', rfl, qz⟩
end
/-! ### a static method, called off its class by one keyword or more -/
structure Stat (K : Fr) (C : Addr) (mc : Value) (m : Str) (p g : Addr) : Prop where
  rd : ClX.CRead K C mc
  at_ : PySem.W.findCls K (.ref C) mc m = some (.get (.builtin "staticmethod.__get__") (.ref p) .none (.ref C))
  rc : ∃ rest, PySem.W.recIn K p "staticmethod" = some (.ref g :: rest)
  kp : PySem.W.keepIn K (.ref g) = true
def tStatK (C : Addr) (sp : Sp) (ta : TE) (tk : TA) : TE := fun σ H Q => ta σ H fun x H1 => x = .ref C ∧ tk σ H1 fun vs H2 => sp vs H2 Q E0
section
variable {X : Cx} {k : Nat} {C p g : Addr} {mc : Value} {m : Str} {fd : FuncData} {ps : List Str} {sp : Sp} {o : Expr} {kws : List Keyword} {ta : TE} {tk : TA} {pos apos : Pos} {pl : Sem Bool}
theorem pe_statK (he : PE X o ta) (S : Stat X.K C mc m p g) (F : FnOk X.prog X.w X.K X.mg X.base CX0 k g fd ps sp) (hr : Room k X.A)
    (hbk : ∀ (s : Shared) (ws : List Value), X.K.In s.heap → ws.length = ps.length → BindsTo s fd ⟨[], ps.zip ws⟩ (ps.zip ws)) (hk : PK X kws tk)
    (hall : (backToKw pos (keywordEach kws X.env)).all (·.1.isSome) = true := by rfl) (hks : (backToKw pos (keywordEach kws X.env)).filterMap (·.1) = ps := by rfl)
    (hpl : ((backTo pos (starEach [] X.env)).any (·.1) || (backToKw pos (keywordEach kws X.env)).any (·.1.isNone)) = false := by rfl)
    (ht : eval (.Call (.Attribute o m apos) [] kws pos) X.env = (do
      let ov ← eval o X.env
      standAt apos.atName
      let (f, first) ← holding [ov] (getMethod ov m pl)
      callWith pos f first (backTo pos (starEach [] X.env)) (backToKw pos (keywordEach kws X.env))) := by rfl) :
    PE X (.Call (.Attribute o m apos) [] kws pos) (tStatK C sp ta tk) := by
  refine ⟨fun pins s σ H Q I h => PySem.W.methodCall_KW (pl := pl) (thn (he.run pins s σ H _ I h) fun u s1 hu => ?_) ht⟩
  obtain ⟨x, H1, I1, rx, ex, q⟩ := hu
  subst ex
  obtain rfl : u = Value.ref C := rx
  obtain ⟨rest, hp⟩ := S.rc
  refine PySem.W.method_cls I1.kIn S.rd.ga (PySem.W.cls_bind I1.kIn S.rd.rd S.at_ (wpAny_call (PySem.W.sm_get (s := { s1 with toks := s1.toks + 1 }) I1.kIn hp (PySem.W.handed_on rfl ?_))))
  refine PySem.W.callWith_KW0 (h₀ := X.base) I1.ok.mod.kin S.kp hall (thn (hk.run pos pins _ σ H1 _ (I1.tok _) q) fun ws s2 hw => ?_) hpl
  obtain ⟨vs, H2, I2, rv, q2⟩ := hw
  have ln : ws.length = ps.length := rv.length.symm.trans (F.len _ _ _ _ q2)
  refine ⟨I2.kIn, ?_⟩
  rw [hks]
  refine wpAny_call (codeAny_mono (F.run X.A X.stack s2 H2 ⟨[], ps.zip ws⟩ ws vs Q E0 hr I2.env0 (hbk s2 ws I2.kIn ln) rv q2) fun z s' hq => ?_)
  rcases z with e | fl
  · exact (show False from hq).elim
  · cases fl with
    | ret u => exact I2.after hq
    | _ => exact (show False from hq).elim
end
end Hk
namespace Hk
open PySem PySem.Spec PyProof.Rows L2
theorem ne_ok {K : Fr} {x : Str} (c : tNe x K = true) : NeOf K (He.ga K x) := by
  obtain ⟨c1, c2⟩ := He.ba c
  exact ⟨He.eqO_ok c1, of_decide_eq_true c2⟩
theorem own_ok {K : Fr} {x m : Str} (c : tMeth x m K = true) : Own K (He.ga K x) m (mAd x m K) := by
  have h := He.meth_ok c
  exact ⟨h.at_, h.fn⟩
theorem stat_ok {K : Fr} {x m : Str} (c : tStat x m K = true) : Stat K (He.ga K x) (.type "type") m (He.ma K (He.ga K x) m) (statAd x m K) := by
  obtain ⟨c1, c⟩ := He.ba c
  obtain ⟨c2, c⟩ := He.ba c
  obtain ⟨c3, c4⟩ := He.ba c
  obtain ⟨h1, h2⟩ := He5.wrapB_ok c1
  exact ⟨⟨c2, He.eqO_ok c3⟩, h1, h2, c4⟩
end Hk

/-! Operators of an own class: with its own, with an int on either side; neg, abs; += without an own one. -/
namespace Hk
open PySem PySem.Spec PyProof.Rows L2
section
variable {prog : Program} {w : World} {A : Around} {E : Value → Shared → Prop} {s : Shared} {K : Fr} {x C f g : Addr} {ox : Obj} {od : Option Obj}
/-- an int's own operator declines an instance -/
def Declines (id : String) : Prop := ∀ (prog : Program) (w : World) (A : Around) (E : Value → Shared → Prop) (s : Shared) (i : Int) (t : Tok) (x C dx : Addr) (Q : Value → Shared → Prop), s.heap.get? x = some (PySem.W.instObj C dx) → Q .notImplemented s →
  wpAny (model prog w) A (call (.builtin id) [.int i t, .ref x]) Q E s
theorem decl_add : Declines "int.__add__" := by
  intro prog w A E s i t x C dx Q ho q
  refine wpAny_call (codeAny_call_builtin F.slot_int_add.plain F.entry_int_add (F.slot_int_add.check _ _ _ _ _ _ _ _ (typeIs_int s i t) (F.args_int_add_2 _ _) ?_))
  unfold Builtin.«int.__add__» Builtin.Int.intBinary
  refine wpAny_bind (m := slotArgs "__add__" 1 _) (wpAny_pure ?_)
  refine wpAny_bind (m := Builtin.Int.intOfSelf _) (wpAny_pure ?_)
  refine wpAny_bind (m := asInt? _) (wpAny_bind (wpAny_load ho (wpAny_pure ?_)))
  refine wpAny_bind (wpAny_rule (wpAny_pure ?_))
  exact q
theorem decl_sub : Declines "int.__sub__" := by
  intro prog w A E s i t x C dx Q ho q
  refine wpAny_call (codeAny_call_builtin F.slot_int_sub.plain F.entry_int_sub (F.slot_int_sub.check _ _ _ _ _ _ _ _ (typeIs_int s i t) (F.args_int_sub_2 _ _) ?_))
  unfold Builtin.«int.__sub__» Builtin.Int.intBinary
  refine wpAny_bind (m := slotArgs "__sub__" 1 _) (wpAny_pure ?_)
  refine wpAny_bind (m := Builtin.Int.intOfSelf _) (wpAny_pure ?_)
  refine wpAny_bind (m := asInt? _) (wpAny_bind (wpAny_load ho (wpAny_pure ?_)))
  refine wpAny_bind (wpAny_rule (wpAny_pure ?_))
  exact q
theorem decl_mul : Declines "int.__mul__" := by
  intro prog w A E s i t x C dx Q ho q
  refine wpAny_call (codeAny_call_builtin F.slot_int_mul.plain F.entry_int_mul (F.slot_int_mul.check _ _ _ _ _ _ _ _ (typeIs_int s i t) (F.args_int_mul_2 _ _) ?_))
  unfold Builtin.«int.__mul__» Builtin.Int.intBinary
  refine wpAny_bind (m := slotArgs "__mul__" 1 _) (wpAny_pure ?_)
  refine wpAny_bind (m := Builtin.Int.intOfSelf _) (wpAny_pure ?_)
  refine wpAny_bind (m := asInt? _) (wpAny_bind (wpAny_load ho (wpAny_pure ?_)))
  refine wpAny_bind (wpAny_rule (wpAny_pure ?_))
  exact q
/-- int op instance: the class's reflected operator -/
theorem rbin_own {op : Operator} {id : String} {i : Int} {t : Tok} {dx : Addr} {Q : Value → Shared → Prop} (Y : K.In s.heap) (I : PySem.W.InstAt s.heap x (PySem.W.instObj C dx) C od) (hc : PySem.W.selfFirst K C = true)
    (fT : fillsNumberSlot (.type "int") op.info.2 = pure true) (slot : Slot "int" (PySem.dunder op.info.2) id) (dec : Declines id) (hs : PySem.W.findIn K (.ref C) (PySem.dunder op.info.2) = some (some (.ref f)))
    (hsub : PySem.W.subIn K (.ref C) (.type "int") = some false) (hr : PySem.W.findIn K (.ref C) (dunderR op.info.2) = some (some (.ref g))) (hg : PySem.W.isFn K (.ref g) = true)
    (h : wpAny (model prog w) A (call (.ref g) [.ref x, .int i t]) (PySem.W.CmpBack Q) E s) : wpAny (model prog w) A (binaryOp op (.int i t) (.ref x)) Q E s := by
  obtain ⟨cd, rest, hcd, hm⟩ := PySem.W.ksp_first hc
  rcases hi : op.info with ⟨sym, nm⟩
  rw [hi] at fT slot hs hr
  dsimp only at fT slot hs hr
  simp only [binaryOp, hi]
  refine wpAny_holding ?_
  simp only [binaryOp1]
  refine wpAny_bind (wpAny_bind (wpAny_typeOf (typeIs_int s i t) ?_))
  refine wpAny_bind (I.type.here (wpAny_bind (wpAny_of_eq fT ?_)))
  have hne : (Value.type "int" == Value.ref C) = false := Bool.eq_false_iff.mpr fun q => nomatch beq_iff_eq.mp q
  simp only [hne, Bool.false_eq_true, if_false]
  refine wpAny_bind ((PySem.W.fills_K Y hcd hm hs).here ?_)
  simp only [Bool.and_self, if_true]
  refine wpAny_bind ((PySem.W.looks_subIn Y hsub).here ?_)
  have hpy : numberSlotInPython (.type "int") nm = pure false := rfl
  simp only [Bool.false_eq_true, if_false, pure_bind, Bool.not_false, Bool.and_self, if_true, hpy]
  refine wpAny_bind (wpAny_tryMethod_declines (typeIs_int s i t) slot (dec _ _ _ _ _ _ _ _ _ _ _ I.at_ ⟨rfl, ?_⟩))
  refine wpAny_bind ?_
  unfold tryMethod
  refine wpAny_bind (PySem.W.special_fn Y I hr (beq_iff_eq.mp hg) (wpAny_mono h (fun v s' hv => ?_) fun _ _ e => e))
  cases v <;> first | exact hv.elim | exact wpAny_pure (wpAny_bind (wpAny_rule (wpAny_pure (wpAny_pure hv))))
/-- the class names no operator in place -/
theorem noInplace {M : Model} {h : Heap} {nm : String} {cd : ClassData} {add : Bool} (Y : K.In h) (hc : PySem.W.clsIn K C = some cd) (hm : cd.mro = [.ref C, .type "object"]) (h1 : PySem.W.findIn K (.ref C) (dunderI nm) = some none)
    (h2 : PySem.W.findIn K (.type "object") (dunderI nm) = some none) : PySem.W.Looks M h (fillsInplaceSlot (.ref C) nm add) false := by
  intro A' Q E' s' k q
  have Lm := ((PySem.W.looks_clsIn (M := M) Y hc).andThen (f := fun cd => pure cd.mro) .now).keeps k
  obtain ⟨hh, gg, d, tt, os⟩ := s'
  have Y' : K.In hh := Y.keeps k
  have L1 : PySem.W.Looks M hh (typeLookup (.ref C) (dunderI nm)) none := PySem.W.looks_findIn Y' h1
  have L2 : PySem.W.Looks M hh (typeLookup (.type "object") (dunderI nm)) none := PySem.W.looks_findIn Y' h2
  unfold fillsInplaceSlot
  refine wpAny_bind (Lm.at ?_)
  rw [hm, List.anyM_cons, List.anyM_cons, List.anyM_nil]
  refine wpAny_bind (wpAny_bind (L1.at (wpAny_pure ?_)))
  refine wpAny_bind (wpAny_bind (L2.at (wpAny_pure ?_)))
  exact wpAny_pure q
/-- what the class must have for an operator, with its own and with ints -/
structure BinF (K : Fr) (C : Addr) (nm : String) (f : Addr) : Prop where
  self : PySem.W.selfFirst K C = true
  at_ : PySem.W.findIn K (.ref C) (PySem.dunder nm) = some (some (.ref f))
  fn : PySem.W.isFn K (.ref f) = true
  rr : ∃ rc, PySem.W.findIn K (.ref C) (dunderR nm) = some rc ∧ (rc = none ∨ ∃ g : Addr, rc = some (.ref g))
  i1 : ∃ fo, PySem.W.findIn K (.type "int") (PySem.dunder nm) = some fo
  i2 : ∃ ro, PySem.W.findIn K (.type "int") (dunderR nm) = some ro
  sub : PySem.W.subIn K (.type "int") (.ref C) = some false
/-- the operator's first part: with its own, with an int -/
theorem bin1_own {nm : String} {b : Value} {Q : Value → Shared → Prop} (Y : K.In s.heap) (I : PySem.W.InstAt s.heap x ox C od) (B : BinF K C nm f) (hb : PySem.W.Looks (model prog w) s.heap (typeOf b) (.ref C))
    (h : wpAny (model prog w) A (call (.ref f) [.ref x, b]) (PySem.W.CmpBack Q) E s) : wpAny (model prog w) A (binaryOp1 nm (.ref x) b) (fun r s' => ∃ v, r = some v ∧ Q v s') E s := by
  obtain ⟨cd, rest, hcd, hm⟩ := PySem.W.ksp_first B.self
  unfold binaryOp1
  refine wpAny_bind (I.type.here (wpAny_bind (hb.here (wpAny_bind ((PySem.W.fills_K Y hcd hm B.at_).here ?_)))))
  simp only [beq_self_eq_true, if_true]
  refine wpAny_bind (wpAny_pure ?_)
  simp only [Bool.and_false, Bool.false_eq_true, if_false, Bool.false_and]
  refine wpAny_bind (wpAny_pure ?_)
  simp only [Bool.false_eq_true, if_false]
  refine wpAny_bind (wpAny_mono (PySem.W.ksp_try Y I B.at_ B.fn h) (fun r s' hr => ?_) fun _ _ e => e)
  obtain ⟨v, rfl, hq⟩ := hr
  exact wpAny_pure ⟨v, rfl, hq⟩
theorem bin1_int {nm : String} {i : Int} {t : Tok} {Q : Value → Shared → Prop} (Y : K.In s.heap) (I : PySem.W.InstAt s.heap x ox C od) (B : BinF K C nm f)
    (h : wpAny (model prog w) A (call (.ref f) [.ref x, .int i t]) (PySem.W.CmpBack Q) E s) : wpAny (model prog w) A (binaryOp1 nm (.ref x) (.int i t)) (fun r s' => ∃ v, r = some v ∧ Q v s') E s := by
  obtain ⟨cd, rest, hcd, hm⟩ := PySem.W.ksp_first B.self
  have one := PySem.W.ksp_try Y I B.at_ B.fn h
  obtain ⟨rc, hr, hp⟩ := B.rr
  obtain ⟨fo, h1⟩ := B.i1
  obtain ⟨ro, h2⟩ := B.i2
  obtain ⟨hh, gg, d, tt, os⟩ := s
  have L1 : PySem.W.Looks (model prog w) hh (typeOf (.ref x)) (.ref C) := I.type
  have L2 : PySem.W.Looks (model prog w) hh (typeOf (.int i t)) (.type "int") := PySem.W.Looks.of_pure rfl
  have L3 : PySem.W.Looks (model prog w) hh (fillsNumberSlot (.ref C) nm) true := PySem.W.fills_K Y hcd hm B.at_
  have L4 : PySem.W.Looks (model prog w) hh (fillsNumberSlot (.type "int") nm) ((fo.isSome && !isSeqSlot fo) || (ro.isSome && !isSeqSlot ro)) := PySem.W.ksp_fillsT Y h1 h2
  have L5 : PySem.W.Looks (model prog w) hh (isSubtype (.type "int") (.ref C)) false := PySem.W.looks_subIn Y B.sub
  have L6 : PySem.W.Looks (model prog w) hh (numberSlotInPython (.ref C) nm) true := PySem.W.ksp_inPy Y B.at_ hr hp
  have L7 : PySem.W.Looks (model prog w) hh (numberSlotInPython (.type "int") nm) false := PySem.W.Looks.of_pure rfl
  have L8 : PySem.W.Looks (model prog w) hh (typeLookup (.type "int") (dunderR nm)) ro := PySem.W.looks_findIn Y h2
  generalize ((fo.isSome && !isSeqSlot fo) || (ro.isSome && !isSeqSlot ro)) = right at L4
  have hne : (Value.ref C == Value.type "int") = false := Bool.eq_false_iff.mpr fun q => nomatch beq_iff_eq.mp q
  unfold binaryOp1
  refine wpAny_bind (L1.at (wpAny_bind (L2.at (wpAny_bind (L3.at ?_)))))
  simp only [hne, Bool.false_eq_true, if_false]
  cases right with
  | false =>
    ksp_lk
    refine wpAny_mono one (fun r s' hr' => ?_) fun _ _ e => e
    obtain ⟨v, rfl, hq⟩ := hr'
    ksp_lk
    exact ⟨v, rfl, hq⟩
  | true =>
    ksp_lk
    refine wpAny_mono one (fun r s' hr' => ?_) fun _ _ e => e
    obtain ⟨v, rfl, hq⟩ := hr'
    ksp_lk
    exact ⟨v, rfl, hq⟩
theorem bin_of1 {op : Operator} {a b : Value} {Q : Value → Shared → Prop} (h : wpAny (model prog w) A (binaryOp1 op.info.2 a b) (fun r s' => ∃ v, r = some v ∧ Q v s') E s) : wpAny (model prog w) A (binaryOp op a b) Q E s := by
  rcases hi : op.info with ⟨sym, nm⟩
  rw [hi] at h
  simp only [binaryOp, hi]
  refine wpAny_holding (wpAny_bind (wpAny_mono h (fun r s' hr => ?_) fun _ _ e => e))
  obtain ⟨v, rfl, hq⟩ := hr
  exact wpAny_pure hq
/-- op= by the plain operator -/
theorem ip_of1 {op : Operator} {cd : ClassData} {b : Value} {Q : Value → Shared → Prop} (Y : K.In s.heap) (I : PySem.W.InstAt s.heap x ox C od) (hc : PySem.W.clsIn K C = some cd) (hm : cd.mro = [.ref C, .type "object"])
    (h1 : PySem.W.findIn K (.ref C) (dunderI op.info.2) = some none) (h2 : PySem.W.findIn K (.type "object") (dunderI op.info.2) = some none)
    (h : wpAny (model prog w) A (binaryOp1 op.info.2 (.ref x) b) (fun r s' => ∃ v, r = some v ∧ Q v s') E s) : wpAny (model prog w) A (inplaceOp op (.ref x) b) Q E s := by
  unfold inplaceOp
  refine wpAny_holding (wpAny_bind (I.type.here (wpAny_bind ((noInplace Y hc hm h1 h2).here ?_))))
  simp only [Bool.false_eq_true, if_false]
  refine wpAny_bind (wpAny_mono h (fun r s' hr => ?_) fun _ _ e => e)
  obtain ⟨v, rfl, hq⟩ := hr
  exact wpAny_pure hq
end
end Hk
namespace Hk
open PySem PySem.Spec PyProof.Rows L2
theorem backC {Q : Value → Shared → Prop} {z : V} {u : Value} {s' : Shared} (r : RelV z u) (h : Q u s') : PySem.W.CmpBack Q u s' := by
  cases z with
  | non => cases r; exact h
  | bl b => cases r; exact h
  | int i => obtain ⟨t, rfl⟩ := r; exact h
  | str y => obtain ⟨t, rfl⟩ := r; exact h
  | byt y => obtain ⟨t, rfl⟩ := r; exact h
  | flt y => obtain ⟨t, rfl⟩ := r; exact h
  | ref a => cases r; exact h
  | ty n => cases r; exact h
/-- x op y: x of the class at C, y another or an int: the def's promise -/
def rBinO (C : Addr) (sp : Sp) : R2 := fun x y H Q => ∃ a dx fs, x = .ref a ∧ H a = some (.ins C dx fs) ∧ ((∃ i, y = .int i) ∨ ∃ b dy gs, y = .ref b ∧ H b = some (.ins C dy gs)) ∧ sp [x, y] H Q E0
/-- i op y, i an int -/
def rRbinO (C : Addr) (sp : Sp) : R2 := fun x y H Q => ∃ i b dy gs, x = .int i ∧ y = .ref b ∧ H b = some (.ins C dy gs) ∧ sp [y, x] H Q E0
def rUnO (C : Addr) (sp : Sp) : V → Hp → VK → Prop := fun x H Q => ∃ a dx fs, x = .ref a ∧ H a = some (.ins C dx fs) ∧ sp [x] H Q E0
/-- the class's mro is itself and object, it names no op= -/
structure NoIp (K : Fr) (C : Addr) (nm : String) : Prop where
  mro : ∃ cd, PySem.W.clsIn K C = some cd ∧ cd.mro = [.ref C, .type "object"]
  no : PySem.W.findIn K (.ref C) (dunderI nm) = some none
  noO : PySem.W.findIn K (.type "object") (dunderI nm) = some none
/-- the reflected one -/
structure RbinF (K : Fr) (C : Addr) (nm : String) (g : Addr) : Prop where
  at_ : PySem.W.findIn K (.ref C) (dunderR nm) = some (some (.ref g))
  fn : PySem.W.isFn K (.ref g) = true
  sub : PySem.W.subIn K (.ref C) (.type "int") = some false
section
variable {X : Cx} {k : Nat} {C f g : Addr} {fd : FuncData} {ps : List Str} {sp : Sp} {op : Operator}
theorem bin1_run {pins : List (Addr × Obj)} {s : Shared} {σ : L2.St} {H : Hp} {x y : V} {v u : Value} {Q : VK} (B : BinF X.K C op.info.2 f) (F : FnOk X.prog X.w X.K X.mg X.base CX0 k f fd ps sp) (hb : Binds X.K fd ps []) (hr : Room k X.A)
    (I : Inv X pins σ H s) (rx : RelV x v) (ry : RelV y u) (h : rBinO C sp x y H Q) :
    wpAny (model X.prog X.w) X.A (binaryOp1 op.info.2 v u) (fun r s' => ∃ w, r = some w ∧ EP X pins σ Q w s') X.xe s := by
  obtain ⟨a, dx, fs, rfl, ha, hy, q⟩ := h
  cases (show v = Value.ref a from rx)
  obtain ⟨mA, M, _⟩ := ins_get I.hok ha
  obtain ⟨od, J, _⟩ := M.look
  have run : wpAny (model X.prog X.w) X.A (call (.ref f) [.ref a, u]) (PySem.W.CmpBack (EP X pins σ Q)) X.xe s :=
    wpAny_mono (own_run (vs := [.ref a, y]) F hr I.env0 hb I (.cons rfl (.cons ry .nil)) q) (fun w s' z => by
      obtain ⟨z', H', I', rz, qz⟩ := id z
      exact backC rz z) fun _ _ z => z
  rcases hy with ⟨i, rfl⟩ | ⟨b, dy, gs, rfl, hb2⟩
  · obtain ⟨t, rfl⟩ := (show ∃ t, u = Value.int i t from ry)
    exact bin1_int I.kIn J B run
  · exact bin1_own I.kIn J B (TyL.looks I ry (.ins hb2)) run
theorem op_binO (B : BinF X.K C op.info.2 f) (F : FnOk X.prog X.w X.K X.mg X.base CX0 k f fd ps sp) (hb : Binds X.K fd ps []) (hr : Room k X.A) : OpR X (binaryOp op) (rBinO C sp) :=
  fun pins s σ H x y v u Q I rx ry h => bin_of1 (bin1_run B F hb hr I rx ry h)
theorem ip_binO (B : BinF X.K C op.info.2 f) (N : NoIp X.K C op.info.2) (F : FnOk X.prog X.w X.K X.mg X.base CX0 k f fd ps sp) (hb : Binds X.K fd ps []) (hr : Room k X.A) : PIp X op (rBinO C sp) := by
  intro pins s σ H x y v u Q I rx ry h
  obtain ⟨a, dx, fs, ex, ha, _⟩ := id h
  subst ex
  obtain ⟨mA, M, _⟩ := ins_get I.hok ha
  obtain ⟨od, J, _⟩ := M.look
  obtain ⟨cd, m1, m2⟩ := N.mro
  have e : v = Value.ref a := rx
  subst e
  exact ip_of1 I.kIn J m1 m2 N.no N.noO (bin1_run B F hb hr I rx ry h)
theorem op_rbinO {bi : String} (B : BinF X.K C op.info.2 f) (R : RbinF X.K C op.info.2 g) (fT : fillsNumberSlot (.type "int") op.info.2 = pure true) (slot : Slot "int" (PySem.dunder op.info.2) bi) (dec : Declines bi)
    (F : FnOk X.prog X.w X.K X.mg X.base CX0 k g fd ps sp) (hb : Binds X.K fd ps []) (hr : Room k X.A) : OpR X (binaryOp op) (rRbinO C sp) := by
  intro pins s σ H x y v u Q I rx ry h
  obtain ⟨i, b, dy, gs, rfl, rfl, ha, q⟩ := h
  obtain ⟨t, rfl⟩ := (show ∃ t, v = Value.int i t from rx)
  cases (show u = Value.ref b from ry)
  obtain ⟨mA, M, _⟩ := ins_get I.hok ha
  obtain ⟨od, J, _⟩ := M.look
  exact rbin_own I.kIn J B.self fT slot dec B.at_ R.sub R.at_ R.fn (wpAny_mono (own_run (vs := [.ref b, .int i]) F hr I.env0 hb I (.cons rfl (.cons rx .nil)) q) (fun w s' z => by
      obtain ⟨z', H', I', rz, qz⟩ := id z
      exact backC rz z) fun _ _ z => z)
theorem op_negO (O : Own X.K C "__neg__" f) (F : FnOk X.prog X.w X.K X.mg X.base CX0 k f fd ps sp) (hb : Binds X.K fd ps []) (hr : Room k X.A) : UnR X (unaryOp .USub) (rUnO C sp) := by
  intro pins s σ H x v Q I rx h
  obtain ⟨a, dx, fs, rfl, ha, q⟩ := h
  cases (show v = Value.ref a from rx)
  obtain ⟨mA, M, _⟩ := ins_get I.hok ha
  obtain ⟨od, J, _⟩ := M.look
  obtain ⟨m, hF⟩ := I.fr
  exact PySem.W.ksp_neg hF I.ok.mod.kin J O.at_ O.fn (own_run (vs := [.ref a]) F hr I.env0 hb I (.cons rfl .nil) q)
theorem call_absO (O : Own X.K C "__abs__" f) (F : FnOk X.prog X.w X.K X.mg X.base CX0 k f fd ps sp) (hb : Binds X.K fd ps []) (hr : Room (k + 1) X.A) : CallR X (.builtin "abs") (fun xs H Q => ∃ x, xs = [x] ∧ rUnO C sp x H Q) := by
  intro pins s σ H xs us Q I r h
  obtain ⟨x, rfl, a, dx, fs, rfl, ha, q⟩ := h
  obtain ⟨u, rfl, ru⟩ := r.one
  cases (show u = Value.ref a from ru)
  obtain ⟨mA, M, _⟩ := ins_get I.hok ha
  obtain ⟨od, J, _⟩ := M.look
  have r2 : Room k X.A.in1 := Room.in1 hr
  refine Calls.call_function_entry kind_abs plain_abs entry_abs (args_abs _) ?_
  unfold Builtin.«abs»
  refine wpAny_bind (m := oneArg "abs" _) (wpAny_pure ?_)
  refine wpAny_bind (m := callSpecial? (.ref a) (Str.ofString "__abs__")) (PySem.W.special_fn I.kIn J O.at_ (beq_iff_eq.mp O.fn) (wpAny_mono (own_run (vs := [.ref a]) F r2 I.env0.in1 hb I (.cons rfl .nil) q) (fun v s' z => ?_) fun _ _ z => z))
  exact wpAny_pure ⟨_, rfl, z⟩
end
/-! ### their facts -/
def tBin (x : Str) (nm : String) : Tst := fun K => PySem.W.selfFirst K (He.ga K x) && (tMeth x (PySem.dunder nm) K && ((match PySem.W.findIn K (.ref (He.ga K x)) (dunderR nm) with
    | some none => true
    | some (some (.ref _)) => true
    | _ => false) && ((PySem.W.findIn K (.type "int") (PySem.dunder nm)).isSome && ((PySem.W.findIn K (.type "int") (dunderR nm)).isSome && decide (PySem.W.subIn K (.type "int") (.ref (He.ga K x)) = some false)))))
def tRbin (x : Str) (nm : String) : Tst := fun K => tMeth x (dunderR nm) K && decide (PySem.W.subIn K (.ref (He.ga K x)) (.type "int") = some false)
def tNoIp (x : Str) (nm : String) : Tst := fun K => (match PySem.W.clsIn K (He.ga K x) with
    | some cd => decide (cd.mro = [.ref (He.ga K x), .type "object"])
    | none => false) && (He.eqO (PySem.W.findIn K (.ref (He.ga K x)) (dunderI nm)) (some none) && He.eqO (PySem.W.findIn K (.type "object") (dunderI nm)) (some none))
theorem bin_ok {K : Fr} {x : Str} {nm : String} (c : tBin x nm K = true) : BinF K (He.ga K x) nm (mAd x (PySem.dunder nm) K) := by
  obtain ⟨c1, c⟩ := He.ba c
  obtain ⟨c2, c⟩ := He.ba c
  obtain ⟨c3, c⟩ := He.ba c
  obtain ⟨c4, c⟩ := He.ba c
  obtain ⟨c5, c6⟩ := He.ba c
  have m := He.meth_ok c2
  refine ⟨c1, m.at_, m.fn, ?_, Option.isSome_iff_exists.mp c4, Option.isSome_iff_exists.mp c5, of_decide_eq_true c6⟩
  cases e : PySem.W.findIn K (.ref (He.ga K x)) (dunderR nm) with
  | none =>
    rw [e] at c3
    exact nomatch c3
  | some o =>
    rw [e] at c3
    cases o with
    | none => exact ⟨none, rfl, .inl rfl⟩
    | some v =>
      cases v with
      | ref g => exact ⟨_, rfl, .inr ⟨g, rfl⟩⟩
      | _ => exact nomatch c3
theorem rbin_ok {K : Fr} {x : Str} {nm : String} (c : tRbin x nm K = true) : RbinF K (He.ga K x) nm (mAd x (dunderR nm) K) := by
  obtain ⟨c1, c2⟩ := He.ba c
  have m := He.meth_ok c1
  exact ⟨m.at_, m.fn, of_decide_eq_true c2⟩
theorem noip_ok {K : Fr} {x : Str} {nm : String} (c : tNoIp x nm K = true) : NoIp K (He.ga K x) nm := by
  obtain ⟨c1, c⟩ := He.ba c
  obtain ⟨c2, c3⟩ := He.ba c
  refine ⟨?_, He.eqO_ok c2, He.eqO_ok c3⟩
  cases e : PySem.W.clsIn K (He.ga K x) with
  | none =>
    rw [e] at c1
    exact nomatch c1
  | some cd =>
    rw [e] at c1
    exact ⟨cd, rfl, of_decide_eq_true c1⟩
end Hk

/-! Fractions in lowest terms, over Int. -/
namespace NumM
def sg (b : Int) : Int := if b < 0 then -1 else 1
def gd (h b : Int) : Int := ((Nat.gcd h.natAbs b.natAbs : Nat) : Int)
def lowT (h b : Int) : Int := sg b * h / gd h b
def lowB (h b : Int) : Int := sg b * b / gd h b
theorem gd_pos {h b : Int} (hb : b ≠ 0) : 0 < gd h b := by
  have : 0 < Nat.gcd h.natAbs b.natAbs := Nat.gcd_pos_of_pos_right _ (by omega)
  unfold gd; omega
theorem gd_dvd_l (h b : Int) : gd h b ∣ h := by
  unfold gd
  exact Int.ofNat_dvd_left.mpr (Nat.gcd_dvd_left _ _)
theorem gd_dvd_r (h b : Int) : gd h b ∣ b := by
  unfold gd
  exact Int.ofNat_dvd_left.mpr (Nat.gcd_dvd_right _ _)
theorem gd_le {h b : Int} (hb : b ≠ 0) : (gd h b).natAbs ≤ b.natAbs := by
  have := Nat.gcd_le_right h.natAbs (show 0 < b.natAbs by omega)
  unfold gd; omega
theorem sg_sq (b : Int) : sg b * sg b = 1 := by unfold sg; split <;> rfl
theorem sg_mul {b : Int} (hb : b ≠ 0) : 0 < sg b * b := by unfold sg; split <;> omega
theorem natAbs_sg (b x : Int) : (sg b * x).natAbs = x.natAbs := by unfold sg; split <;> simp
theorem lowT_mul {h b : Int} : lowT h b * gd h b = sg b * h := by
  unfold lowT
  exact Int.ediv_mul_cancel (Int.dvd_mul_of_dvd_right (gd_dvd_l h b))
theorem lowB_mul {h b : Int} : lowB h b * gd h b = sg b * b := by
  unfold lowB
  exact Int.ediv_mul_cancel (Int.dvd_mul_of_dvd_right (gd_dvd_r h b))
theorem low_pos {h b : Int} (hb : b ≠ 0) : 0 < lowB h b := by
  have h1 := gd_pos (h := h) hb
  have h2 := sg_mul hb
  rw [← lowB_mul (h := h)] at h2
  exact Int.pos_of_mul_pos_left h2 (by omega)
theorem low_cop {h b : Int} (hb : b ≠ 0) : Nat.gcd (lowT h b).natAbs (lowB h b).natAbs = 1 := by
  have hp := gd_pos (h := h) hb
  have e1 : (lowT h b).natAbs * (gd h b).natAbs = h.natAbs := by rw [← Int.natAbs_mul, lowT_mul, natAbs_sg]
  have e2 : (lowB h b).natAbs * (gd h b).natAbs = b.natAbs := by rw [← Int.natAbs_mul, lowB_mul, natAbs_sg]
  have g : Nat.gcd ((lowT h b).natAbs * (gd h b).natAbs) ((lowB h b).natAbs * (gd h b).natAbs) = (gd h b).natAbs := by
    rw [e1, e2]; unfold gd; simp
  rw [Nat.gcd_mul_right] at g
  have hp' : 0 < (gd h b).natAbs := by omega
  exact Nat.eq_of_mul_eq_mul_right hp' (by rw [g, Nat.one_mul])
theorem low_eq {h b : Int} (hb : b ≠ 0) : lowT h b * b = h * lowB h b := by
  have hp := gd_pos (h := h) hb
  have e1 := lowT_mul (h := h) (b := b)
  have e2 := lowB_mul (h := h) (b := b)
  have : (lowT h b * b) * gd h b = (h * lowB h b) * gd h b := by
    calc (lowT h b * b) * gd h b = (lowT h b * gd h b) * b := by rw [Int.mul_right_comm]
      _ = (sg b * h) * b := by rw [e1]
      _ = h * (sg b * b) := by rw [Int.mul_comm (sg b) h, Int.mul_assoc]
      _ = h * (lowB h b * gd h b) := by rw [e2]
      _ = (h * lowB h b) * gd h b := by rw [Int.mul_assoc]
  exact Int.eq_of_mul_eq_mul_right (by omega) this
theorem uniq {t b u c : Int} (hb : 0 < b) (hc : 0 < c) (h1 : Nat.gcd t.natAbs b.natAbs = 1) (h2 : Nat.gcd u.natAbs c.natAbs = 1) (e : t * c = u * b) : t = u ∧ b = c := by
  have en : t.natAbs * c.natAbs = u.natAbs * b.natAbs := by rw [← Int.natAbs_mul, ← Int.natAbs_mul, e]
  have d1 : b.natAbs ∣ c.natAbs := by
    have : b.natAbs ∣ t.natAbs * c.natAbs := ⟨u.natAbs, by rw [en, Nat.mul_comm]⟩
    exact Nat.Coprime.dvd_of_dvd_mul_left (show Nat.Coprime b.natAbs t.natAbs by unfold Nat.Coprime; rw [Nat.gcd_comm]; exact h1) this
  have d2 : c.natAbs ∣ b.natAbs := by
    have : c.natAbs ∣ u.natAbs * b.natAbs := ⟨t.natAbs, by rw [← en, Nat.mul_comm]⟩
    exact Nat.Coprime.dvd_of_dvd_mul_left (show Nat.Coprime c.natAbs u.natAbs by unfold Nat.Coprime; rw [Nat.gcd_comm]; exact h2) this
  have ebc : b.natAbs = c.natAbs := Nat.dvd_antisymm d1 d2
  have bc : b = c := by omega
  subst bc
  exact ⟨Int.eq_of_mul_eq_mul_right (by omega) e, rfl⟩
theorem low_of {h b t c : Int} (hb : b ≠ 0) (hc : 0 < c) (h1 : Nat.gcd t.natAbs c.natAbs = 1) (e : t * b = h * c) : lowT h b = t ∧ lowB h b = c := by
  have l := low_eq (h := h) hb
  refine uniq (low_pos hb) hc (low_cop hb) h1 ?_
  have : (lowT h b * c) * b = (t * lowB h b) * b := by
    calc (lowT h b * c) * b = (lowT h b * b) * c := by rw [Int.mul_right_comm]
      _ = h * lowB h b * c := by rw [l]
      _ = (h * c) * lowB h b := by rw [Int.mul_right_comm]
      _ = (t * b) * lowB h b := by rw [e]
      _ = (t * lowB h b) * b := by rw [Int.mul_right_comm]
  exact Int.eq_of_mul_eq_mul_right hb this
theorem low_red {t b : Int} (hb : 0 < b) (h1 : Nat.gcd t.natAbs b.natAbs = 1) : lowT t b = t ∧ lowB t b = b := low_of (by omega) hb h1 rfl
theorem low_mul {h b m : Int} (hb : b ≠ 0) (hm : m ≠ 0) : lowT (h * m) (b * m) = lowT h b ∧ lowB (h * m) (b * m) = lowB h b := by
  refine low_of (Int.mul_ne_zero hb hm) (low_pos hb) (low_cop hb) ?_
  rw [← Int.mul_assoc, low_eq hb, Int.mul_right_comm]
theorem natAbs_le_of_mul {x g y : Int} (hg : 0 < g) (e : x * g = y) : x.natAbs ≤ y.natAbs := by
  rw [← e, Int.natAbs_mul]
  exact Nat.le_mul_of_pos_right _ (by omega)
theorem lowT_le {h b : Int} (hb : b ≠ 0) : (lowT h b).natAbs ≤ h.natAbs := by
  have := natAbs_le_of_mul (gd_pos (h := h) hb) (lowT_mul (h := h) (b := b))
  rwa [natAbs_sg] at this
theorem lowB_le {h b : Int} (hb : b ≠ 0) : (lowB h b).natAbs ≤ b.natAbs := by
  have := natAbs_le_of_mul (gd_pos (h := h) hb) (lowB_mul (h := h) (b := b))
  rwa [natAbs_sg] at this
/-- what __init__ divides by -/
def shr (h b : Int) : Int := if b < 0 then -(gd h b) else gd h b
theorem shr_eq (h b : Int) : shr h b = sg b * gd h b := by unfold shr sg; split <;> simp
theorem fdiv_of {x y z : Int} (hy : y ≠ 0) (e : x = z * y) : x.fdiv y = z := by
  rw [e]
  exact Int.mul_fdiv_cancel _ hy
theorem init_top {h b : Int} (hb : b ≠ 0) : h.fdiv (shr h b) = lowT h b := by
  have hp := gd_pos (h := h) hb
  refine fdiv_of (by rw [shr_eq]; unfold sg; split <;> omega) ?_
  rw [shr_eq, Int.mul_comm (sg b), ← Int.mul_assoc, lowT_mul, Int.mul_right_comm, sg_sq, Int.one_mul]
theorem init_bot {h b : Int} (hb : b ≠ 0) : b.fdiv (shr h b) = lowB h b := by
  have hp := gd_pos (h := h) hb
  refine fdiv_of (by rw [shr_eq]; unfold sg; split <;> omega) ?_
  rw [shr_eq, Int.mul_comm (sg b), ← Int.mul_assoc, lowB_mul, Int.mul_right_comm, sg_sq, Int.one_mul]
theorem shr_ne {h b : Int} (hb : b ≠ 0) : shr h b ≠ 0 := by
  have hp := gd_pos (h := h) hb
  rw [shr_eq]; unfold sg; split <;> omega
theorem shr_le {h b : Int} (hb : b ≠ 0) : (shr h b).natAbs ≤ b.natAbs := by
  rw [shr_eq, natAbs_sg]; exact gd_le hb
end NumM

/-! The texts of ints and fractions, as lists of codes. -/
namespace NumT
open PySem PySem.Spec PyProof.Rows L2 SX
open TL (numL)
def iL (z : Int) : List Nat := if z < 0 then 45 :: numL z.natAbs else numL z.natAbs
theorem toS (z : Int) : ((toString z : String) : Str) = S (iL z) := by
  unfold iL
  by_cases h : z < 0
  · rw [if_pos h]
    obtain ⟨n, rfl⟩ : ∃ n : Nat, z = -((n : Nat) : Int) := ⟨z.natAbs, by omega⟩
    have hn : 0 < n := by omega
    obtain ⟨m, rfl⟩ : ∃ m, n = m + 1 := ⟨n - 1, by omega⟩
    have e : (toString (-(((m + 1 : Nat)) : Int)) : String) = "-" ++ toString (((m + 1 : Nat) : Nat) : Int) := rfl
    have e2 : ((-(((m + 1 : Nat)) : Int)).natAbs) = m + 1 := by omega
    rw [e2]
    show Str.ofString (toString (-(((m + 1 : Nat)) : Int))) = _
    rw [e]
    have e3 := TL.tl_num (m + 1)
    refine TL.ext_tl ?_
    show (Str.ofString ("-" ++ toString (((m + 1 : Nat)) : Int))).cps.toList = _
    have e4 : (Str.ofString ("-" ++ toString (((m + 1 : Nat)) : Int))).cps.toList = 45 :: (Str.ofString (toString (((m + 1 : Nat)) : Int))).cps.toList := by
      simp [Str.ofString]
      rfl
    rw [e4]
    exact congrArg (45 :: ·) e3
  · rw [if_neg h]
    obtain ⟨n, rfl⟩ : ∃ n : Nat, z = ((n : Nat) : Int) := ⟨z.natAbs, by omega⟩
    exact num_S n
theorem iL_free {z : Int} : 47 ∉ iL z := by
  unfold iL
  split
  · intro h
    rcases List.mem_cons.mp h with h | h
    · cases h
    · exact TL.numL_free (by decide) h
  · exact TL.numL_free (by decide)
theorem numL_all (n : Nat) : NumText.AllDigits (numL n) := TL.numL_digits n
theorem pre_one {c d : Nat} {r : List Nat} : TL.pre [c] (d :: r) = decide (c = d) := by
  by_cases h : c = d
  · rw [decide_eq_true h]
    subst h
    simp [TL.pre]
  · rw [decide_eq_false h]
    have h2 : ¬ d = c := fun e => h e.symm
    simp [TL.pre, h, h2]
theorem par_none (c : Nat) : ∀ (a acc : List Nat), c ∉ a → TL.par [c] acc a = none
  | [], _, _ => rfl
  | d :: r, acc, h => by
    have hd : ¬ c = d := fun e => h (by rw [e]; exact List.mem_cons_self)
    show (if TL.pre [c] (d :: r) = true then _ else _) = _
    rw [pre_one, decide_eq_false hd, if_neg Bool.false_ne_true]
    exact par_none c r _ fun z => h (List.mem_cons_of_mem _ z)
theorem par_some (c : Nat) (q : List Nat) : ∀ (a acc : List Nat), c ∉ a → TL.par [c] acc (a ++ c :: q) = some (acc ++ a, q)
  | [], acc, _ => by
    show (if TL.pre [c] (c :: q) = true then _ else _) = _
    rw [pre_one, decide_eq_true rfl, if_pos rfl]
    simp
  | d :: r, acc, h => by
    have hd : ¬ c = d := fun e => h (by rw [e]; exact List.mem_cons_self)
    rw [List.cons_append]
    show (if TL.pre [c] (d :: (r ++ c :: q)) = true then _ else TL.par [c] (acc ++ [d]) (r ++ c :: q)) = _
    rw [pre_one, decide_eq_false hd, if_neg Bool.false_ne_true, par_some c q r _ fun z => h (List.mem_cons_of_mem _ z)]
    simp
theorem part_none {a : List Nat} (h : 47 ∉ a) : Txt.partition (S a) (S [47]) = (S a, S [], S []) := partition_none (by simp) (par_none 47 a [] h)
theorem part_some {a q : List Nat} (h : 47 ∉ a) : Txt.partition (S (a ++ 47 :: q)) (S [47]) = (S a, S [47], S q) := partition_some (by simp) (par_some 47 q a [] h)
theorem slash_S : ("/" : Str) = S [47] := by decide +kernel
theorem minus_S : ("-" : Str) = S [45] := by decide +kernel
/-- digits, and at least one -/
def dig (a : List Nat) : Bool := !a.isEmpty && a.all (fun c => decide (48 ≤ c) && decide (c ≤ 57))
theorem ascii_S (a : List Nat) : Txt.isascii (S a) = a.all (fun c => decide (c < 128)) := by
  show (S a).cps.all (· < 128) = _
  rw [← Array.all_toList]
theorem digit_S {a : List Nat} (h : a.all (fun c => decide (c < 128)) = true) : Txt.isdigit (S a) = dig a := by
  have e : Txt.isdigit (S a) = (decide ((S a).length > 0) && (S a).cps.all Unicode.isDigit) := rfl
  rw [e, ← Array.all_toList, S_len]
  show (decide (a.length > 0) && a.all Unicode.isDigit) = _
  unfold dig
  have e1 : decide (a.length > 0) = !a.isEmpty := by cases a <;> simp
  rw [e1]
  congr 1
  have hall : ∀ c ∈ a, c < 128 := fun c hc => of_decide_eq_true (List.all_eq_true.mp h c hc)
  clear h e e1
  induction a with
  | nil => rfl
  | cons c r ih =>
    have k : ∀ n : _root_.Fin 128, Unicode.isDigit n.val = (decide (48 ≤ n.val) && decide (n.val ≤ 57)) := by decide +kernel
    rw [List.all_cons, List.all_cons, ih fun d hd => hall d (List.mem_cons_of_mem _ hd), k ⟨c, hall c List.mem_cons_self⟩]
/-- isascii and isdigit together -/
theorem both_S (a : List Nat) : (Txt.isascii (S a) && Txt.isdigit (S a)) = dig a := by
  rw [ascii_S]
  cases h : a.all (fun c => decide (c < 128)) with
  | true => rw [Bool.true_and]; exact digit_S h
  | false =>
    rw [Bool.false_and]
    cases q : dig a with
    | false => rfl
    | true =>
      unfold dig at q
      have q2 := (Bool.and_eq_true_iff.mp q).2
      have : a.all (fun c => decide (c < 128)) = true := List.all_eq_true.mpr fun c hc => by
        have z := List.all_eq_true.mp q2 c hc
        rw [Bool.and_eq_true, decide_eq_true_eq, decide_eq_true_eq] at z
        exact decide_eq_true (by omega)
      rw [this] at h
      exact nomatch h
theorem dig_num (n : Nat) : dig (numL n) = true := by
  unfold dig
  have h1 := TL.numL_ne n
  have h2 := numL_all n
  rw [Bool.and_eq_true]
  refine ⟨by cases e : numL n with
    | nil => exact absurd e h1
    | cons => rfl, List.all_eq_true.mpr fun c hc => ?_⟩
  have := h2 c hc
  rw [Bool.and_eq_true, decide_eq_true_eq, decide_eq_true_eq]
  exact this
theorem dig_all {a : List Nat} (h : dig a = true) : NumText.AllDigits a ∧ a ≠ [] := by
  unfold dig at h
  obtain ⟨h1, h2⟩ := Bool.and_eq_true_iff.mp h
  refine ⟨fun c hc => ?_, by rintro rfl; exact nomatch h1⟩
  have z := List.all_eq_true.mp h2 c hc
  rw [Bool.and_eq_true, decide_eq_true_eq, decide_eq_true_eq] at z
  exact z
/-- removeprefix('-') -/
def unsig : List Nat → List Nat
  | 45 :: r => r
  | a => a
theorem rmp_S (a : List Nat) (ha : a ≠ [45]) : Txt.removeprefix (S a) (S [45]) = S (unsig a) := by
  rw [StrLaws.removeprefix_eq]
  have e : ∀ l : List Nat, Builtin.Str.subAt (S l) (S [45]) 0 = (match l with
    | c :: _ => decide (45 = c)
    | [] => false) := fun l => by
    rw [StrLaws.subAt_eq]
    cases l with
    | nil => decide +kernel
    | cons c r =>
      show (((c :: r).drop 0).take 1 == [45]) = _
      simp [eq_comm]
      try rfl
  cases a with
  | nil => decide +kernel
  | cons c r =>
    rw [e (c :: r)]
    have hl : decide (0 + (S [45]).length ≤ (S (c :: r)).length) = true := by
      rw [S_len, S_len]
      simp
    rw [hl, Bool.true_and]
    by_cases h : 45 = c
    · subst h
      show (if decide ((45 : Nat) = 45) = true then _ else _) = _
      rw [if_pos (by decide)]
      refine TL.ext_tl ?_
      show (((45 :: r).drop (S [45]).length).take ((S (45 :: r)).length - (S [45]).length)) = r
      rw [S_len, S_len]
      simp
    · have hu : unsig (c :: r) = c :: r := by
        unfold unsig
        split
        · rename_i z
          have := (List.cons.inj z).1
          exact absurd this.symm h
        · rfl
      show (if decide (45 = c) = true then _ else _) = _
      rw [decide_eq_false h, if_neg Bool.false_ne_true, hu]
theorem unsig_i (z : Int) : unsig (iL z) = numL z.natAbs := by
  unfold iL
  split
  · rfl
  · have h := numL_all z.natAbs
    cases e : numL z.natAbs with
    | nil => rfl
    | cons c r =>
      have := h c (by rw [e]; exact List.mem_cons_self)
      unfold unsig
      split
      · rename_i z
        have := (List.cons.inj z).1
        omega
      · rfl
theorem iL_ne45 (z : Int) : iL z ≠ [45] := fun h => by
  have e := unsig_i z
  rw [h] at e
  exact TL.numL_ne _ e.symm
theorem num_len {n : Nat} (h : n < 2 ^ 1000) : (numL n).length ≤ 302 := TL.numL_len (by decide) (Nat.lt_of_lt_of_le h (by decide +kernel))
theorem i_len {z : Int} (h : z.natAbs < 2 ^ 1000) : (iL z).length ≤ 303 := by
  unfold iL
  have := num_len h
  split
  · rw [List.length_cons]; omega
  · omega
theorem int_i {z : Int} (h : z.natAbs < 2 ^ 1000) : intText? (S (iL z)) = some z := by
  have hl := num_len h
  unfold iL
  split
  · rename_i hz
    have e := PySem.intText_neg (x := S (45 :: numL z.natAbs)) (cs := numL z.natAbs) rfl (numL_all _) (TL.numL_ne _) (by rw [S_len, List.length_cons]; omega)
    rw [TL.numL_val] at e
    rw [e]
    congr 1
    omega
  · rename_i hz
    have e := PySem.intText_digits (x := S (numL z.natAbs)) (numL_all _) (TL.numL_ne _) (by rw [S_len]; omega)
    have e2 : (S (numL z.natAbs)).cps.toList = numL z.natAbs := rfl
    rw [e2, TL.numL_val] at e
    rw [e]
    congr 1
    omega
/-- the text of a fraction -/
def fL (t b : Int) : List Nat := if b = 1 then iL t else iL t ++ 47 :: iL b
theorem iL_inj {x y : Int} (h : iL x = iL y) : x = y := by
  have hu := congrArg unsig h
  rw [unsig_i, unsig_i] at hu
  have e := TL.numL_inj hu
  by_cases hx : x < 0 <;> by_cases hy : y < 0
  · omega
  · exfalso
    unfold iL at h
    rw [if_pos hx, if_neg hy] at h
    have := numL_all y.natAbs 45 (by rw [← h]; exact List.mem_cons_self)
    omega
  · exfalso
    unfold iL at h
    rw [if_neg hx, if_pos hy] at h
    have := numL_all x.natAbs 45 (by rw [h]; exact List.mem_cons_self)
    omega
  · omega
theorem f_len {t b : Int} (h1 : t.natAbs < 2 ^ 1000) (h2 : b.natAbs < 2 ^ 1000) : (fL t b).length ≤ 610 := by
  have a := i_len h1
  have c := i_len h2
  unfold fL
  split
  · omega
  · rw [List.length_append, List.length_cons]; omega
theorem fL_inj {t b u c : Int} (h : fL t b = fL u c) : t = u ∧ b = c := by
  unfold fL at h
  by_cases hb : b = 1 <;> by_cases hc : c = 1
  · rw [if_pos hb, if_pos hc] at h
    exact ⟨iL_inj h, by omega⟩
  · rw [if_pos hb, if_neg hc] at h
    exact absurd (by rw [h]; simp) (iL_free (z := t))
  · rw [if_neg hb, if_pos hc] at h
    exact absurd (by rw [← h]; simp) (iL_free (z := u))
  · rw [if_neg hb, if_neg hc] at h
    have p1 := par_some 47 (iL b) (iL t) [] iL_free
    have p2 := par_some 47 (iL c) (iL u) [] iL_free
    rw [h, p2] at p1
    have := Prod.mk.inj (Option.some.inj p1)
    exact ⟨(iL_inj this.1).symm, (iL_inj this.2).symm⟩
end NumT

namespace Hk
open PySem PySem.Spec PyProof.Rows L2 NumM NumT SX
/-- codes below 128 -/
def Asc (x : Str) : Prop := ∀ c ∈ x.cps.toList, c < 128
theorem Asc.app {x y : Str} (h : Asc x) (g : Asc y) : Asc (x ++ y) := fun c hc => by
  rw [show (x ++ y).cps.toList = x.cps.toList ++ y.cps.toList from TL.tl_append x y] at hc
  rcases List.mem_append.mp hc with z | z
  · exact h c z
  · exact g c z
theorem Asc.ok {x : Str} (h : Asc x) : PyData.strOk x = true := by
  unfold PyData.strOk
  rw [← Array.all_toList, List.all_eq_true]
  intro c hc
  have := h c hc
  exact decide_eq_true (by omega)
theorem char_asc (q c : Nat) (hq : q = 39 ∨ q = 34) (hc : c < 128) : ∀ d ∈ Builtin.Str.reprChar q c, d < 128 := by
  have k : ∀ n : _root_.Fin 128, ((Builtin.Str.reprChar 39 n.val).all (fun d => decide (d < 128)) && (Builtin.Str.reprChar 34 n.val).all (fun d => decide (d < 128))) = true := by decide +kernel
  have h := k ⟨c, hc⟩
  obtain ⟨h1, h2⟩ := Bool.and_eq_true_iff.mp h
  intro d hd
  rcases hq with rfl | rfl
  · exact of_decide_eq_true (List.all_eq_true.mp h1 d hd)
  · exact of_decide_eq_true (List.all_eq_true.mp h2 d hd)
theorem fold_asc (q : Nat) (hq : q = 39 ∨ q = 34) : ∀ (l : List Nat) (acc : Array Nat), (∀ c ∈ l, c < 128) → (∀ c ∈ acc.toList, c < 128) → ∀ c ∈ (l.foldl (fun out c => out ++ (Builtin.Str.reprChar q c).toArray) acc).toList, c < 128
  | [], acc, _, h => h
  | x :: r, acc, hl, h => by
    rw [List.foldl_cons]
    refine fold_asc q hq r _ (fun c hc => hl c (List.mem_cons_of_mem _ hc)) fun c hc => ?_
    rw [Array.toList_append] at hc
    rcases List.mem_append.mp hc with z | z
    · exact h c z
    · exact char_asc q x hq (hl x List.mem_cons_self) c (by simpa using z)
theorem repr_asc {x : Str} (h : Asc x) : Asc (reprText x) := by
  have hq : reprQuote x = 39 ∨ reprQuote x = 34 := by
    unfold reprQuote
    split <;> simp
  intro c hc
  unfold reprText at hc
  rw [Array.toList_push] at hc
  rcases List.mem_append.mp hc with z | z
  · rw [← Array.foldl_toList] at z
    refine fold_asc _ hq x.cps.toList _ h (fun d hd => ?_) c z
    have : d = reprQuote x := by simpa using hd
    rw [this]
    rcases hq with e | e <;> rw [e] <;> decide
  · have : c = reprQuote x := by simpa using z
    rw [this]
    rcases hq with e | e <;> rw [e] <;> decide
theorem lit_asc {x : Str} (h : x.cps.toList.all (fun c => decide (c < 128)) = true) : Asc x := fun c hc => of_decide_eq_true (List.all_eq_true.mp h c hc)
theorem join_asc {s : Str} {ts : List Str} (hs : Asc s) (h : ∀ t ∈ ts, Asc t) : Asc (Str.join s ts) := fun c hc => by
  rcases (mem_join s c ts).mp hc with ⟨t, ht, z⟩ | ⟨_, z⟩
  · exact h t ht c z
  · exact hs c z
theorem S_asc {a : List Nat} (h : ∀ c ∈ a, c < 128) : Asc (S a) := h
theorem int_asc (i : Int) : Asc ((toString i : String) : Str) := by
  rw [toS]
  intro c hc
  have hc : c ∈ iL i := hc
  unfold iL at hc
  split at hc
  · rcases List.mem_cons.mp hc with h | h
    · omega
    · have := numL_all _ c h; omega
  · have := numL_all _ c hc; omega
mutual
/-- all texts in it have codes below 128 -/
def ascD : PyData → Prop
  | .str x => Asc x
  | .list xs => ascDs xs
  | .tuple xs => ascDs xs
  | .dict _ => False
  | _ => True
def ascDs : List PyData → Prop
  | [] => True
  | x :: xs => ascD x ∧ ascDs xs
end
mutual
theorem shown_asc : ∀ d : PyData, ascD d → Asc d.shown
  | .none, _ => lit_asc (by decide +kernel)
  | .bool b, _ => by cases b <;> exact lit_asc (by decide +kernel)
  | .int i, _ => by rw [PyData.shown_int]; exact int_asc i
  | .str x, h => by
    rw [PyData.shown_str]
    simp only [ascD] at h
    exact repr_asc h
  | .list xs, h => by
    simp only [ascD] at h
    rw [PyData.shown_list]
    exact ((lit_asc (by decide +kernel)).app (join_asc (lit_asc (by decide +kernel)) (shownAll_asc xs h))).app (lit_asc (by decide +kernel))
  | .tuple xs, h => by
    simp only [ascD] at h
    rw [PyData.shown_tuple]
    refine ((lit_asc (by decide +kernel)).app (join_asc (lit_asc (by decide +kernel)) (shownAll_asc xs h))).app ?_
    split <;> exact lit_asc (by decide +kernel)
  | .dict _, h => by simp only [ascD] at h
theorem shownAll_asc : ∀ xs : List PyData, ascDs xs → ∀ t ∈ PyData.shownAll xs, Asc t
  | [], _ => by
    rw [PyData.shownAll_nil]
    intro t ht
    exact absurd ht (List.not_mem_nil)
  | x :: xs, h => by
    simp only [ascDs] at h
    rw [PyData.shownAll_cons]
    intro t ht
    rcases List.mem_cons.mp ht with e | e
    · rw [e]; exact shown_asc x h.1
    · exact shownAll_asc xs h.2 t e
end
end Hk

/-! Numbers: what stands at an instance, promises, texts. -/
namespace Hk
open PySem PySem.Spec PyProof.Rows L2 NumM
/-! ### the class Number: data, promises -/
def numF (t b : Int) : List (Str × V) := [("_top", .int t), ("_bottom", .int b)]
theorem ktb : ¬ (("_top" : Str) = "_bottom") := by decide +kernel
theorem numF_eq (t b : Int) : putF "_bottom" (.int b) (putF "_top" (.int t) []) = numF t b := by
  show (if ("_top" : Str) = "_bottom" then [(("_top" : Str), V.int b)] else (("_top" : Str), V.int t) :: putF "_bottom" (V.int b) []) = numF t b
  rw [if_neg ktb]
  rfl
theorem numF_top (t b : Int) : (numF t b).lookup ("_top" : Str) = some (.int t) := by
  rw [← numF_eq, lookup_putF, if_neg ktb, lookup_putF, if_pos rfl]
theorem numF_bot (t b : Int) : (numF t b).lookup ("_bottom" : Str) = some (.int b) := by
  rw [← numF_eq, lookup_putF, if_pos rfl]
/-- a Number in lowest terms stands at p -/
structure NumAt (C : Addr) (H : Hp) (p : Addr) (t b : Int) : Prop where
  at_ : ∃ dx, H p = some (.ins C dx (numF t b))
  pos : 0 < b
  cop : Nat.gcd t.natAbs b.natAbs = 1
theorem NumAt.same {C : Addr} {H H' : Hp} {p : Addr} {t b : Int} (n : NumAt C H p t b) (s : Same H H') : NumAt C H' p t b := by
  obtain ⟨dx, h⟩ := n.at_
  exact ⟨⟨dx, s _ _ h⟩, n.pos, n.cop⟩
/-- sizes: numbers of this many bits -/
abbrev Sz (n : Int) : Prop := n.natAbs < 2 ^ 1000
def spInit (C : Addr) : Sp := fun vs H Q _ => ∃ (p dx : Addr) (h b : Int), vs = [.ref p, .int h, .int b] ∧ H p = some (.ins C dx []) ∧ b ≠ 0 ∧ Sz b ∧ Q .non (upd H p (.ins C dx (numF (lowT h b) (lowB h b))))
/-- a reader of a Number -/
def spGet (C : Addr) (g : Int → Int → V) : Sp := fun vs H Q _ => ∃ (p : Addr) (t b : Int), vs = [.ref p] ∧ NumAt C H p t b ∧ Sz t ∧ Sz b ∧ Q (g t b) H
def sgn (t : Int) : Int := if t = 0 then 0 else if 0 < t then 1 else -1
def txt (t b : Int) : Str := if b = 1 then ((toString t : String) : Str) else ((toString t : String) : Str) ++ ("/" : Str) ++ ((toString b : String) : Str)
/-- __eq__ -/
def spEq (C : Addr) (K : Fr) : Sp := fun vs H Q _ => ∃ (p : Addr) (t b : Int) (y : V), vs = [.ref p, y] ∧ NumAt C H p t b ∧
  ((∃ q u c, y = .ref q ∧ NumAt C H q u c ∧ Q (.bl (decide (t = u) && decide (b = c))) H) ∨ (∃ ty, TyX K H y ty ∧ PySem.W.kitOne K ty (.ref C) = some false ∧ Q (.bl false) H))
def spIsInt : Sp := fun vs H Q _ => ∃ i : Int, vs = [.int i] ∧ Q (.bl true) H
section
variable {X : Cx}
/-- // by any divisor below 2 ^ 9000 -/
def CDivG (_ j : Int) : Prop := j ≠ 0 ∧ j.natAbs.log2 < 9000
theorem op_fdivG : OpR X (binaryOp .FloorDiv) (rI CDivG fun i j => .int (i.fdiv j)) := opI fun _ _ _ _ _ _ _ hc q => floordiv_int hc.1 q (.inl (PyProof.noPylong_of_log2 hc.2))
end
theorem log2_sz {i : Int} (h : Sz i) : i.natAbs.log2 < 1000 := PySem.Flt.log2_lt_of (by decide) h
end Hk
namespace Hk
open PySem PySem.Spec PyProof.Rows L2 NumM NumT SX
theorem empty_S : Str.empty = S [] := by decide +kernel
theorem log2_small {i : Int} (h : Sz i) : i.natAbs.log2 < 1920 := Nat.lt_trans (log2_sz h) (by decide)
theorem line_ge {n : Nat} (h : n ≤ 100000) : n ≤ sizeLine := Nat.le_trans h (by decide)
end Hk
namespace Hk
open PySem PySem.Spec PyProof.Rows L2 NumM NumT SX
/-- a promise about one text -/
def spDigits : Sp := fun vs H Q _ => ∃ a : List Nat, vs = [.str (S a)] ∧ Q (.bl (dig a)) H
end Hk
namespace Hk
open PySem PySem.Spec PyProof.Rows L2 NumM NumT SX
/-- a new Number comes back -/
abbrev NewNum (C : Addr) (H : Hp) (Q : VK) (t b : Int) : Prop := ∀ (H' : Hp) (p : Addr), Same H H' → H p = none → NumAt C H' p t b → Q (.ref p) H'
/-- a text of a fraction in lowest terms is read -/
def spRead (C : Addr) : Sp := fun vs H Q _ => ∃ t b : Int, vs = [.str (S (fL t b))] ∧ 0 < b ∧ Nat.gcd t.natAbs b.natAbs = 1 ∧ Sz t ∧ Sz b ∧ NewNum C H Q t b
theorem truS {K : Fr} {H : Hp} {a : List Nat} (h : a.length ≤ 100000) : TruV K (.str (S a)) H (!a.isEmpty) := by
  refine ⟨by rw [S_len]; exact line_ge h, ?_⟩
  rw [S_len]
  cases a with
  | nil => rfl
  | cons c r => rfl
/-- an instance is laid: it and its dict are new -/
theorem laid_same {H : Hp} {x dx C : Addr} {fs : List (Str × V)} (nx : H x = none) (nd : H dx = none) : Same H (upd (upd (upd H dx (.own x)) x (.ins C dx [])) x (.ins C dx fs)) := by
  intro b o e
  rw [upd_upd, upd_ne (ne_of_none e nx), upd_ne (ne_of_none e nd)]
  exact e
theorem same_upd {H : Hp} {p : Addr} {o : HO} (h : H p = none) : Same H (upd H p o) := fun b u e => by
  rw [upd_ne (ne_of_none e h)]
  exact e
theorem same_upd' {H H1 : Hp} {p : Addr} {o : HO} (s : Same H H1) (h : H p = none) : Same H (upd H1 p o) := fun b u e => by
  rw [upd_ne (ne_of_none e h)]
  exact s b u e
/-- a call of the class with its two arguments: what __init__ promises of it -/
theorem mk_num {C : Addr} {H : Hp} {Q : VK} {h b : Int} (hb : b ≠ 0) (sb : Sz b) (k : NewNum C H Q (lowT h b) (lowB h b)) : ∀ x dx, H x = none → H dx = none → dx ≠ x →
    spInit C [.ref x, .int h, .int b] (upd (upd H dx (.own x)) x (.ins C dx [])) (fun v H2 => v = .non ∧ Q (.ref x) H2) E0 := by
  intro x dx nx nd ne
  refine ⟨x, dx, h, b, rfl, upd_same, hb, sb, rfl, ?_⟩
  exact k _ x (laid_same nx nd) nx ⟨⟨dx, upd_same⟩, low_pos hb, low_cop hb⟩
end Hk
namespace Hk
open PySem PySem.Spec PyProof.Rows L2 NumM NumT SX
theorem map_int_get {ns : List Int} {j : Nat} (h : j < ns.length) : ∃ n : Int, ns[j]? = some n ∧ atI (ns.map V.int) ((j : Nat) : Int) = some (V.int n) := by
  refine ⟨ns[j], by simp [h], ?_⟩
  refine atI_nat ?_
  rw [List.getElem?_map]
  simp [h]
end Hk
namespace Hk
open PySem PySem.Spec PyProof.Rows L2 NumM NumT SX
theorem iL_small (z : Int) : ∀ c ∈ iL z, c < 128 := fun c hc => by
  unfold iL at hc
  split at hc
  · rcases List.mem_cons.mp hc with h | h
    · omega
    · have := numL_all _ c h; omega
  · have := numL_all _ c hc; omega
theorem fL_small (t b : Int) : ∀ c ∈ fL t b, c < 128 := fun c hc => by
  unfold fL at hc
  split at hc
  · exact iL_small _ c hc
  · rcases List.mem_append.mp hc with h | h
    · exact iL_small _ c h
    · rcases List.mem_cons.mp h with h | h
      · omega
      · exact iL_small _ c h
/-- repr of a Number, by its codes -/
def rL (t b : Int) : List Nat := [78, 117, 109, 98, 101, 114, 40] ++ fL t b ++ [41]
theorem repr_S (t b : Int) : ("Number(" : Str) ++ S (fL t b) ++ (")" : Str) = S (rL t b) := by
  have e1 : ("Number(" : Str) = S [78, 117, 109, 98, 101, 114, 40] := by decide +kernel
  have e2 : (")" : Str) = S [41] := by decide +kernel
  rw [e1, e2, S_cat, S_cat]
  rfl
theorem rL_small (t b : Int) : ∀ c ∈ rL t b, c < 128 := fun c hc => by
  unfold rL at hc
  rcases List.mem_append.mp hc with h | h
  · rcases List.mem_append.mp h with h | h
    · exact (by decide : ∀ c ∈ [78, 117, 109, 98, 101, 114, 40], c < 128) c h
    · exact fL_small _ _ c h
  · rw [List.mem_singleton.mp h]; decide
/-- what is shown of a Number -/
def seenD (t b : Int) : PyData := .list [.int t, .int b, .int (sgn t), .str (S (fL t b)), .str (S (rL t b)), .bool true]
def seenT (t b : Int) : Str := (seenD t b).shown
theorem sgn_sz (t : Int) : Sz (sgn t) := by
  unfold sgn
  split
  · decide +kernel
  · split <;> decide +kernel
theorem show_int {i : Int} (h : Sz i) : (PyData.int i).showable = true := by
  simp only [PyData.showable, decide_eq_true_eq]
  exact log2_small h
theorem short_int {i : Int} (h : Sz i) : (PyData.int i).leavesShort 320 = true := by
  simp only [PyData.leavesShort, decide_eq_true_eq]
  rw [PyData.shown_int, toS, S_len]
  have := i_len h
  omega
theorem short_S {a : List Nat} (h : ∀ c ∈ a, c < 128) : (PyData.str (S a)).leavesShort 320 = true := by
  simp only [PyData.leavesShort, List.all_eq_true, decide_eq_true_eq]
  intro c hc
  exact Nat.lt_trans (h c hc) (by decide)
theorem seen_ok {t b : Int} (st : Sz t) (sb : Sz b) : (seenD t b).showable = true ∧ (seenD t b).depth ≤ 60 ∧ (seenD t b).shown.length ≤ sizeLine := by
  have l := f_len st sb
  refine ⟨?_, ?_, ?_⟩
  · unfold seenD
    have a := show_int st
    have c := show_int sb
    have d := show_int (sgn_sz t)
    simp only [PyData.showable, PyData.showableAll] at a c d ⊢
    simp [a, c, d]
  · unfold seenD
    simp [PyData.depth, PyData.depthAll]
  · have h := PyData.shown_le_bulk 320 (by decide) (seenD t b) (by
      have a := short_int st
      have c := short_int sb
      have d := short_int (sgn_sz t)
      have e := short_S (fL_small t b)
      have f := short_S (rL_small t b)
      have g : (PyData.bool true).leavesShort 320 = true := rfl
      unfold seenD
      simp only [PyData.leavesShort, PyData.leavesShortAll] at a c d e f g ⊢
      simp [a, c, d, e, f])
    have hb : (seenD t b).bulk ≤ 2000 := by
      unfold seenD
      simp only [PyData.bulk, PyData.bulkAll]
      have e1 : (S (fL t b)).cps.size = (fL t b).length := by simp
      have e2 : (S (rL t b)).cps.size = (fL t b).length + 8 := by simp [rL]
      rw [e1, e2]
      omega
    rw [sizeLine_eq]
    have : 322 * (seenD t b).bulk ≤ 322 * 2000 := Nat.mul_le_mul (Nat.le_refl _) hb
    omega
theorem dp_seen {K : Fr} {H : Hp} {p : Addr} {t b z : Int} (hz : z = sgn t) (h : H p = some (.lst [.int t, .int b, .int z, .str (S (fL t b)), .str (S (rL t b)), .bl true])) : Dp K H (.ref p) (seenD t b) := by
  subst hz
  exact .lst (.inl (.inl h)) (.cons (.int _) (.cons (.int _) (.cons (.int _) (.cons (.str _) (.cons (.str _) (.cons (.bl _) .nil))))))
theorem dp_due {K : Fr} {H : Hp} {p : Addr} {t b z : Int} (hz : z = sgn t) (h : H p = some (.lst [.int t, .int b, .int z, .str (S (fL t b)), .str (("Number(" : Str) ++ S (fL t b) ++ (")" : Str)), .bl true])) : Dp K H (.ref p) (seenD t b) := by
  rw [repr_S] at h
  exact dp_seen hz h
end Hk
namespace Hk
open PySem PySem.Spec PyProof.Rows L2 NumM NumT SX
/-- a promise of a def over a pair (a tuple of two ints at p) -/
def spPair (g : Int → Int → V) : Sp := fun vs H Q _ => ∃ (p : Addr) (t b : Int), vs = [.ref p] ∧ H p = some (.tup [.int t, .int b]) ∧ 0 < b ∧ Sz t ∧ Sz b ∧ ∀ H', Same H H' → Q (g t b) H'
def spSeen (C : Addr) : Sp := fun vs H Q _ => ∃ (p : Addr) (t b : Int), vs = [.ref p] ∧ NumAt C H p t b ∧ Sz t ∧ Sz b ∧ ∀ H', Same H H' → Q (.str (seenT t b)) H'
theorem add_SS (a b : List Nat) : S a ++ S b = S (a ++ b) := S_cat a b
end Hk
namespace Hk
open PySem PySem.Spec PyProof.Rows L2 NumM NumT SX
/-- all but what stands at a is as it was -/
def Old (a : Addr) (H H' : Hp) : Prop := ∀ x o, H x = some o → x ≠ a → H' x = some o
theorem Old.refl (a : Addr) (H : Hp) : Old a H H := fun _ _ h _ => h
theorem Old.trans {a : Addr} {H H1 H2 : Hp} (s : Old a H H1) (t : Old a H1 H2) : Old a H H2 := fun x o h n => t x o (s x o h n) n
theorem Old.same {a : Addr} {H H1 : Hp} (s : Same H H1) : Old a H H1 := fun x o h _ => s x o h
theorem Old.put {a : Addr} {H : Hp} {o : HO} : Old a H (upd H a o) := fun x u h n => by
  rw [upd_ne n]
  exact h
theorem Old.new {a p : Addr} {H : Hp} {o : HO} (np : H p = none) : Old a H (upd H p o) := Old.same (same_upd np)
end Hk
namespace Hk
open PySem PySem.Spec PyProof.Rows L2 NumM NumT SX
theorem dec_int (x y : Int) : decide (V.int x = V.int y) = decide (x = y) := by
  by_cases h : x = y
  · subst h; simp
  · rw [decide_eq_false h, decide_eq_false fun z => h (V.int.inj z)]
theorem sz200 {z : Int} (h : z.natAbs < 2 ^ 200) : Sz z := Nat.lt_of_lt_of_le h (by decide +kernel)
theorem sz_mul {x y : Int} (h : x.natAbs < 2 ^ 200) (h2 : y.natAbs < 2 ^ 4) : Sz (x * y) := Nat.lt_of_lt_of_le (wide_lt h h2) (by decide +kernel)
theorem sz_succ {x : Int} (h : x.natAbs < 2 ^ 200) : Sz (x + 1) := by
  have e : (2 : Nat) ^ 200 + 1 ≤ 2 ^ 1000 := by decide +kernel
  have : (x + 1).natAbs ≤ x.natAbs + 1 := by omega
  exact Nat.lt_of_lt_of_le (show (x + 1).natAbs < 2 ^ 200 + 1 by omega) e
/-- the fraction one greater is another one -/
theorem far_ne {t b : Int} (hb : 0 < b) : (decide (t = lowT (t + 1) b) && decide (b = lowB (t + 1) b)) = false := by
  cases h : (decide (t = lowT (t + 1) b) && decide (b = lowB (t + 1) b)) with
  | false => rfl
  | true =>
    obtain ⟨h1, h2⟩ := Bool.and_eq_true_iff.mp h
    have e1 := of_decide_eq_true h1
    have e2 := of_decide_eq_true h2
    have l := low_eq (h := t + 1) (b := b) (by omega)
    rw [← e1, ← e2, Int.add_mul, Int.one_mul] at l
    omega
theorem num_ne {C : Addr} {H : Hp} {a p : Addr} {xs : List V} {t b : Int} (N : NumAt C H p t b) (h : H a = some (.lst xs)) : p ≠ a := by
  obtain ⟨dx, e⟩ := N.at_
  exact ne_of e h (by intro z; exact nomatch z)
theorem NumAt.old {C : Addr} {H H' : Hp} {a p : Addr} {t b : Int} (N : NumAt C H p t b) (s : Old a H H') (ne : p ≠ a) : NumAt C H' p t b := by
  obtain ⟨dx, h⟩ := N.at_
  exact ⟨⟨dx, s _ _ h ne⟩, N.pos, N.cop⟩
theorem dp_strs {K : Fr} {H : Hp} {p : Addr} {xs : List Str} (h : H p = some (.lst (xs.map V.str))) : Dp K H (.ref p) (.list (xs.map PyData.str)) := by
  refine .lst (.inl (.inl h)) ?_
  clear h
  induction xs with
  | nil => exact .nil
  | cons x r ih => exact .cons (.str x) ih
theorem dp_bls {K : Fr} {H : Hp} {p : Addr} {xs : List Bool} (h : H p = some (.lst (xs.map V.bl))) : Dp K H (.ref p) (.list (xs.map PyData.bool)) := by
  refine .lst (.inl (.inl h)) ?_
  clear h
  induction xs with
  | nil => exact .nil
  | cons x r ih => exact .cons (.bl x) ih
theorem depth_strs : ∀ xs : List Str, PyData.depthAll (xs.map PyData.str) ≤ 1
  | [] => by simp [PyData.depthAll]
  | x :: r => by
    have := depth_strs r
    simp only [List.map_cons, PyData.depthAll, PyData.depth]
    omega
theorem depth_bls : ∀ xs : List Bool, PyData.depthAll (xs.map PyData.bool) ≤ 1
  | [] => by simp [PyData.depthAll]
  | x :: r => by
    have := depth_bls r
    simp only [List.map_cons, PyData.depthAll, PyData.depth]
    omega
theorem shaped_strs {xs : List Str} (h : ∀ x ∈ xs, Asc x) : SeqAt.shaped (.list (xs.map PyData.str)) = true := by
  unfold SeqAt.shaped
  rw [Bool.and_eq_true]
  refine ⟨?_, decide_eq_true ?_⟩
  · show PyData.canLayAll0 (xs.map PyData.str) = true
    rw [PyProof.Rows.canLayAll_strs', List.all_eq_true]
    exact fun x hx => (h x hx).ok
  · have := depth_strs xs
    simp only [PyData.depth]
    omega
theorem shaped_bls (xs : List Bool) : SeqAt.shaped (.list (xs.map PyData.bool)) = true := by
  unfold SeqAt.shaped
  rw [Bool.and_eq_true]
  refine ⟨?_, decide_eq_true ?_⟩
  · show PyData.canLayAll0 (xs.map PyData.bool) = true
    induction xs with
    | nil => rfl
    | cons x r ih => simpa [PyData.canLayAll0, PyData.canLay0] using ih
  · have := depth_bls xs
    simp only [PyData.depth]
    omega
theorem seen_asc (t b : Int) : Asc (seenT t b) := by
  refine shown_asc _ ?_
  unfold seenD
  simp only [ascD, ascDs, and_true, true_and]
  exact ⟨S_asc (fL_small t b), S_asc (rL_small t b)⟩
theorem eqv_strs (xs : List Str) : PyData.eqv (.list (xs.map PyData.str)) (.list (xs.map PyData.str)) = true := by
  simp only [PyData.eqv]
  induction xs with
  | nil => rfl
  | cons x r ih => simp [PyData.eqvAll, PyData.eqv, ih]
theorem eqv_bls (xs : List Bool) : PyData.eqv (.list (xs.map PyData.bool)) (.list (xs.map PyData.bool)) = true := by
  simp only [PyData.eqv]
  induction xs with
  | nil => rfl
  | cons x r ih => simp [PyData.eqvAll, PyData.eqv, ih]
/-- two keywords, given in the other order -/
def kwTurn {α : Type} (us ws : List α) : List α := match ws with
  | [b, t] => us ++ [t, b]
  | _ => us
/-- Number(e, ..): a new Number in lowest terms -/
def tNum (C : Addr) (dvs : List V) (t : TA) : TE := fun σ H Q => t σ H fun vs H1 => ∃ h b : Int, vs ++ dvs = [.int h, .int b] ∧ b ≠ 0 ∧ Sz b ∧ NewNum C H1 Q (lowT h b) (lowB h b)
def tNumK (C : Addr) (tk : TA) : TE := fun σ H Q => tk σ H fun zs H1 => ∃ h b : Int, zs = [.int b, .int h] ∧ b ≠ 0 ∧ Sz b ∧ NewNum C H1 Q (lowT h b) (lowB h b)
section
variable {X : Cx} {k : Nat} {f C : Addr} {fd : FuncData} {ps : List Str} {dvs : List V} {ds : List Value} {x : Str} {p pos : Pos} {e : Expr} {es : List Expr} {kws : List Keyword} {t tk : TA} {g : List Value → List Value → List Value}
theorem pe_num (M : Mk X.K C f) (F : FnOk X.prog X.w X.K X.mg X.base CX0 k f fd ps (spInit C)) (hr : Room (k + 1) X.A) (hm : X.mg x = some (.ref C)) (hb : Binds X.K fd ps ds) (hd : Vals dvs ds) (ha : PA X (e :: es) t) (hg : Gl X x := by rfl)
    (hdb : (x == ("__debug__" : Str)) = false := by decide) (he : starEach (e :: es) X.env = (false, eval e X.env) :: starEach es X.env := by rfl) (hpl : (backTo pos (starEach es X.env)).any (·.1) = false := by rfl) :
    PE X (.Call (.Name x p) (e :: es) [] pos) (tNum C dvs t) := by
  refine ⟨fun pins s σ H Q I h => wpAny_Call_Name_kw (ld_glob I hg hm ?_ hdb)⟩
  refine PySem.W.callWith_K (h₀ := X.base) I.ok.mod.kin M.kp (thn (ha.run pos pins s σ H _ I h) fun us s1 hu => ?_) he hpl
  obtain ⟨vs, H1, J, r, a, b, ev, hb0, sb, q⟩ := hu
  refine ⟨J.kIn, run_make (E := E0) M F hr hb hd pass0 J r ?_⟩
  rw [ev]
  exact mk_num hb0 sb q
theorem pe_numK (M : Mk X.K C f) (F : FnOk X.prog X.w X.K X.mg X.base CX0 k f fd ps (spInit C)) (hr : Room (k + 1) X.A) (hm : X.mg x = some (.ref C)) (hb : KBn X.K fd ps 1 ["bottom", "top"] g (fun vs zs => kwTurn vs zs)) (hkw : PK X kws tk) (hg : Gl X x := by rfl)
    (hall : (backToKw pos (keywordEach kws X.env)).all (·.1.isSome) = true := by rfl) (hks : (backToKw pos (keywordEach kws X.env)).filterMap (·.1) = [("bottom" : Str), ("top" : Str)] := by rfl) (hdb : (x == ("__debug__" : Str)) = false := by decide)
    (hpl : ((backTo pos (starEach [] X.env)).any (·.1) || (backToKw pos (keywordEach kws X.env)).any (·.1.isNone)) = false := by rfl) : PE X (.Call (.Name x p) [] kws pos) (tNumK C tk) := by
  refine ⟨fun pins s σ H Q I h => wpAny_Call_Name_kw (ld_glob I hg hm ?_ hdb)⟩
  refine PySem.W.callWith_KW0 (h₀ := X.base) I.ok.mod.kin M.kp hall (thn (hkw.run pos pins s σ H _ I h) fun ws s2 hu => ?_) hpl
  obtain ⟨zs, H2, J, rz, a, b, ev, hb0, sb, q⟩ := hu
  refine ⟨J.kIn, ?_⟩
  rw [hks]
  refine run_makeK (E := E0) (us := []) (vs := []) M F hr hb pass0 J .nil rz rfl (by rw [ev]; rfl) ?_
  rw [ev]
  exact mk_num hb0 sb q
end
end Hk

/-! A method called by one keyword or more. -/
namespace Hk
open PySem PySem.Spec PyProof.Rows L2
def tMethK (C : Addr) (m : Str) (sp : Sp) (ta : TE) (tk : TA) : TE := fun σ H Q => ta σ H fun x H1 => ∃ a dx fs, x = .ref a ∧ H1 a = some (.ins C dx fs) ∧ fs.lookup m = none ∧ tk σ H1 fun vs H2 => sp (x :: vs) H2 Q E0
section
variable {X : Cx} {k : Nat} {C p f : Addr} {m : Str} {fd : FuncData} {p1 : Str} {ps : List Str} {sp : Sp} {o : Expr} {kws : List Keyword} {ta : TE} {tk : TA} {pos apos : Pos} {pl : Sem Bool}
theorem pe_methK (he : PE X o ta) (c : Cls X.K C) (hm : Meth X.K C m f) (F : FnOk X.prog X.w X.K X.mg X.base CX0 k f fd (p1 :: ps) sp) (hr : Room k X.A)
    (hbk : ∀ (s : Shared) (v : Value) (ws : List Value), X.K.In s.heap → ws.length = ps.length → BindsTo s fd ⟨[v], ps.zip ws⟩ ((p1 :: ps).zip (v :: ws))) (hk : PK X kws tk)
    (hall : (backToKw pos (keywordEach kws X.env)).all (·.1.isSome) = true := by rfl) (hks : (backToKw pos (keywordEach kws X.env)).filterMap (·.1) = ps := by rfl)
    (hpl : ((backTo pos (starEach [] X.env)).any (·.1) || (backToKw pos (keywordEach kws X.env)).any (·.1.isNone)) = false := by rfl)
    (ht : eval (.Call (.Attribute o m apos) [] kws pos) X.env = (do
      let ov ← eval o X.env
      standAt apos.atName
      let (f, first) ← holding [ov] (getMethod ov m pl)
      callWith pos f first (backTo pos (starEach [] X.env)) (backToKw pos (keywordEach kws X.env))) := by rfl) :
    PE X (.Call (.Attribute o m apos) [] kws pos) (tMethK C m sp ta tk) := by
  refine ⟨fun pins s σ H Q I h => PySem.W.methodCall_KW (pl := pl) (thn (he.run pins s σ H _ I h) fun u s1 hu => ?_) ht⟩
  obtain ⟨x, H1, I1, rx, a, dx, fs, ex, ea, l, q⟩ := hu
  subst ex
  obtain rfl : u = Value.ref a := rx
  refine getmeth_ok I1 ea c hm l ?_
  refine PySem.W.callWith_KW0 (first := [.ref a]) (h₀ := X.base) I.ok.mod.kin hm.kp hall (thn (hk.run pos pins s1 σ H1 _ I1 q) fun ws s2 hw => ?_) hpl
  obtain ⟨vs, H2, I2, rv, q2⟩ := hw
  have rv2 : Vals (.ref a :: vs) (.ref a :: ws) := .cons rfl rv
  have ln : ws.length = ps.length := by
    have h1 := rv2.length
    have h2 := F.len _ _ _ _ q2
    simp only [List.length_cons] at h1 h2
    omega
  refine ⟨I2.kIn, ?_⟩
  rw [hks]
  refine wpAny_call (codeAny_mono (F.run X.A X.stack s2 H2 ⟨[.ref a], ps.zip ws⟩ (.ref a :: ws) (.ref a :: vs) Q E0 hr I2.env0 (hbk s2 _ ws I2.kIn ln) rv2 q2) fun z s' hq => ?_)
  rcases z with e | fl
  · exact (show False from hq).elim
  · cases fl with
    | ret u => exact I2.after hq
    | _ => exact (show False from hq).elim
end
end Hk

/-! Exceptions of own classes: tests of the written part, defs that raise, what a suite asks of what it caught. -/
namespace Hk
open PySem PySem.Spec PyProof.Rows L2
/-! ### tests -/
def oexB (K : Fr) (C : Addr) : Bool := (match K.lookup C with
  | some ⟨.type "type", _, .cls cd, sl⟩ => (match cd.mro, sl.toList with
    | .ref C' :: bm, [_, _, _, _, some (.builtin n), _] => C' == C && (n == "ValueError.__new__" && (!cd.hasDel && (cd.hasDict && PySem.HandSPX.refsVE bm)))
    | _, _ => false)
  | _ => false) && (He.eqO (PySem.W.findIn K (.ref C) "__setattr__") (some (some (.builtin "object.__setattr__"))) && (decide (PySem.W.subIn K (.ref C) (.type "BaseException") = some true) && (decide (PySem.W.typeIn K (.ref C) = some (.type "type")) && PySem.W.keepIn K (.ref C))))
theorem oexB_ok {K : Fr} {C : Addr} (q : oexB K C = true) : OexC K C := by
  obtain ⟨q, c⟩ := He.ba q
  obtain ⟨c1, c⟩ := He.ba c
  obtain ⟨c2, c⟩ := He.ba c
  obtain ⟨c3, c4⟩ := He.ba c
  refine ⟨?_, He.eqO_ok c1, of_decide_eq_true c2, of_decide_eq_true c3, c4⟩
  split at q
  · rename_i dd cd sl ho
    split at q
    · rename_i C' bm k0 k1 k2 k3 n k5 hm hs
      simp only [Bool.and_eq_true, beq_iff_eq, Bool.not_eq_true'] at q
      obtain ⟨rfl, rfl, hdel, hdct, hv⟩ := q
      obtain ⟨nm, bs, mro, ns, qn, hd, sn, sub, ab, col, del⟩ := cd
      dsimp only at hm hdel hdct
      subst hm hdel hdct
      have hsl : sl = #[k0, k1, k2, k3, some (.builtin "ValueError.__new__"), k5] := by
        obtain ⟨l⟩ := sl
        simp only at hs
        rw [hs]
      subst hsl
      exact ⟨nm, qn, ns, bs, bm, sn, sub, ab, col, dd, k0, k1, k2, k3, k5, ho, hv⟩
    · cases q
  · cases q
def tOex (x : Str) : Tst := fun K => oexB K (He.ga K x)
def tXfc (x : Str) : Tst := fun K => xfB K (He.ga K x)
def tNof (x f : Str) : Tst := fun K => He.eqO (PySem.W.findIn K (.ref (He.ga K x)) f) (some none)
/-- its own __init__ stands at the address of the method -/
def tInit (x : Str) : Tst := fun K => tMeth x "__init__" K && decide (PySem.W.typeIn K (.ref (mAd x "__init__" K)) = some (.type "function"))
def excB (K : Fr) (D : Addr) : Bool := He.eqO (PySem.W.findIn K (.ref D) "__getattribute__") (some (some (.builtin "BaseException.__getattribute__"))) && (He.eqO (PySem.W.findIn K (.ref D) "__getattr__") (some none) && (decide (PySem.W.subIn K (.ref D) (.type "BaseException") = some true) && (PySem.W.hasDictIn K D &&
  (He.eqO (PySem.W.findIn K (.ref D) "__class__") (some (some (.builtin "object.__class__"))) && (He.eqO (PySem.W.specialIn K (.builtin "object.__class__") "__get__") (some (some (.builtin "getset_descriptor.__get__"))) && (decide (PySem.W.takesIn K (.builtin "object.__class__") = some true) && decide (PySem.W.mroIn K D (.type "object") = some true)))))))
theorem excB_ok {K : Fr} {D : Addr} (c : excB K D = true) : ExcC K D := by
  obtain ⟨c1, c⟩ := He.ba c
  obtain ⟨c2, c⟩ := He.ba c
  obtain ⟨c3, c⟩ := He.ba c
  obtain ⟨c4, c⟩ := He.ba c
  obtain ⟨c5, c⟩ := He.ba c
  obtain ⟨c6, c⟩ := He.ba c
  obtain ⟨c7, c8⟩ := He.ba c
  exact ⟨He.eqO_ok c1, He.eqO_ok c2, of_decide_eq_true c3, c4, He.eqO_ok c5, He.eqO_ok c6, of_decide_eq_true c7, of_decide_eq_true c8⟩
def tExc (x : Str) : Tst := fun K => excB K (He.ga K x)
/-- except: an error of the class x against the class y -/
def tExm (x y : Str) (b : Bool) : Tst := fun K => decide (PySem.W.exmOne K (.ref (He.ga K x)) (.ref (He.ga K y)) = some b)
/-! ### what a suite asks -/
def tXfX (K : PySem.W.Frag) (a : Addr) (cls : Value) (d : Option Addr) (f : Str) (te : TE) : TE := fun σ H Q => te σ H fun x H1 => x = .ref a ∧ ∃ (C dd : Addr) (fs : List (Str × V)) (v : V), cls = .ref C ∧ XfC K C ∧ PySem.W.findIn K (.ref C) f = some none ∧ d = some dd ∧ H1 dd = some (.xd fs) ∧ fs.lookup f = some v ∧ Q v H1
theorem pe_xfX {X : Cx} {a : Addr} {oe : Obj} {cls : Value} {d : Option Addr} {pn : List (Addr × Obj)} {e : Expr} {te : TE} {pos : Pos} {n : Str} (hz : Zc cls d oe) (hf : ∃ vs, oe.data = .fields vs) (he : PE (X.suite a ((a, oe) :: pn)) e te)
    (hb : attributeBase e n X.env (eval e X.env) = eval e X.env := by rfl) : PE (X.suite a ((a, oe) :: pn)) (.Attribute e n pos) (tXfX X.K a cls d n te) := by
  refine ⟨fun pins s σ H Q I h => ?_⟩
  refine attr_of hb (thn (he.run pins s σ H _ I h) fun u s1 hh => ?_)
  obtain ⟨x, H1, I1, rx, ex, C, dd, fs, v, ec, T, hno, ed, ea, l, q⟩ := hh
  subst ex
  obtain rfl : u = Value.ref a := rx
  subst ec
  subst ed
  obtain ⟨ha, _⟩ := I1.pin (a, oe) (List.mem_append_left _ List.mem_cons_self)
  obtain ⟨vs, hd⟩ := hf
  obtain ⟨mz, ns, rel⟩ : ObjOk X.prog X.w H1 s1.heap dd (.xd fs) := I1.hok dd _ ea
  obtain ⟨od, ho, hl⟩ := lookIn_ns ns
  have rn := rel n
  rw [l] at rn
  obtain ⟨val, ev, rv⟩ := RelO.some_of rn
  have J : PySem.W.InstAt s1.heap a oe C (some od) := ⟨ha, hz.1, by unfold PySem.W.notCls; rw [hd] <;> rfl, by rw [hz.2]; exact ho⟩
  have own := PySem.W.findObj_own T.hdC hno rfl ((hl n).trans (congrArg some ev))
  exact HandSPX.exc_get I1.kIn J T.ga T.gg T.exC own (handed_of rv) ⟨v, H1, I1.tok _, rv, q⟩
/-- isinstance(e, c), e what the suite holds, of the class cls, its dict d -/
def rIsX (K : PySem.W.Frag) (a : Addr) (cls : Value) (d : Option Addr) : List V → Hp → VK → Prop := fun xs H Q => ∃ (D : Addr) (c : V) (cv : Value) (b : Bool), cls = .ref D ∧ ExcC K D ∧ (d = none ∨ ∃ dd fs, d = some dd ∧ H dd = some (.xd fs)) ∧ xs = [.ref a, c] ∧ (∀ u, RelV c u → u = cv) ∧ PySem.W.kitOne K (.ref D) cv = some b ∧ Q (.bl b) H
theorem call_isX {X : Cx} {a : Addr} {cls : Value} {d : Option Addr} {oe : Obj} {pn : List (Addr × Obj)} (hz : Zc cls d oe) (hf : ∃ vs, oe.data = .fields vs) : CallR (X.suite a ((a, oe) :: pn)) (.builtin "isinstance") (rIsX X.K a cls d) := by
  intro pins s σ H xs us Q I r h
  obtain ⟨D, c, cv, b, ec, C, hd, rfl, hcv, e, q⟩ := h
  subst ec
  cases r with
  | cons rx rr =>
    cases rr with
    | cons rt rr =>
      cases rr
      cases rx
      have ec := hcv _ rt
      subst ec
      obtain ⟨hget, _⟩ := I.pin (a, oe) (List.mem_append.mpr (.inl List.mem_cons_self))
      obtain ⟨vs, hv⟩ := hf
      obtain ⟨cdD, hcD, _⟩ := PySem.W.any_some C.hd
      have hcl : (PySem.W.clsIn X.K D).isSome = true := by rw [hcD]; rfl
      obtain ⟨od, J⟩ : ∃ od, PySem.W.InstAt s.heap a oe D od := by
        rcases hd with rfl | ⟨dd, fs, rfl, ea⟩
        · exact ⟨none, hget, hz.1, by unfold PySem.W.notCls; rw [hv] <;> rfl, by rw [hz.2]; trivial⟩
        · have hx : ObjOk X.prog X.w H s.heap dd (.xd fs) := I.hok dd _ ea
          obtain ⟨mA, hns, hr⟩ := hx
          obtain ⟨od, ho, hl⟩ := lookIn_ns hns
          exact ⟨some od, hget, hz.1, by unfold PySem.W.notCls; rw [hv] <;> rfl, by rw [hz.2]; exact ho⟩
      exact PySem.W.kia_one (PySem.W.kitx_exc hcl C.hg C.hk C.hs C.ha C.hn C.ht C.hm) I.kIn J e (fun z => nomatch z) fun tk => ⟨.bl b, H, I.kept (t' := tk) fun _ _ z => z, rfl, q⟩
/-! ### defs that raise -/
section
variable {P : Program} {w : World} {K : Fr} {mg : Str → Option Value} {base : Heap}
/-- as Cal, for a def that may raise (its promise says what) -/
def CalX (P : Program) (w : World) (K : Fr) (mg : Str → Option Value) (base : Heap) (k : Nat) (x : Str) (ad : Addr) (ps : List Str) (sp : Sp) : Prop :=
  ∃ fd : FuncData, FnOk P w K mg base (L2.CX P w) k ad fd ps sp ∧ Binds K fd ps [] ∧ PySem.W.keepIn K (.ref ad) = true ∧ mg x = some (.ref ad)
theorem pe_cx {X : Cx} {k : Nat} {x : Str} {ad : Addr} {ps : List Str} {sp : Sp} {W : WX} {e : Expr} {es : List Expr} {t : TA} {p pos : Pos} (c : CalX X.prog X.w X.K X.mg X.base k x ad ps sp) (tk : Takes X W) (hr : Room k X.A) (ha : PA X (e :: es) t) (hg : Gl X x := by rfl)
    (hdb : (x == ("__debug__" : Str)) = false := by decide) (he : starEach (e :: es) X.env = (false, eval e X.env) :: starEach es X.env := by rfl) (hpl : (backTo pos (starEach es X.env)).any (·.1) = false := by rfl) :
    PE X (.Call (.Name x p) (e :: es) [] pos) (tCallS sp (WE W) t) := by
  obtain ⟨fd, F, b, kp, m⟩ := c
  exact pe_callS F hr hg m kp b (fun σ => passAt tk σ) ha hdb he hpl
abbrev BodyX (P : Program) (w : World) (K : Fr) (mg : Str → Option Value) (base : Heap) (k : Nat) (d : Dx) (N ps : List Str) (sp : Sp) : Prop :=
  ∀ (cdv : Value) (A : Around) (outer : List Env) (s : Shared) (H : Hp) (vs : List V) (Q : VK) (E : XK), Room k (A.deeper (envOfC d.ql (defScope d.st) s.heap.objs.size (d.ad K) cdv)) → sp vs H Q E →
      ∃ t, PSs (cxOf (L2.CX P w) P w K mg base N d.ql (defScope d.st) (d.ad K) cdv A outer s H E) (defBody d.st) t ∧ t { nx := fun _ H' => Q .non H', rt := Q } (start N vs) H
theorem okx_of {k : Nat} {d : Dx} {N ps : List Str} {sp : Sp} {fd : FuncData} (D : DAt K d fd) (S : FnScope N ps (defScope d.st)) (len : ∀ vs H Q E, sp vs H Q E → vs.length = ps.length) (hb : BodyX P w K mg base k d N ps sp) :
    FnOk P w K mg base (L2.CX P w) (k + 1) (d.ad K) fd ps sp := FunD.ok D S len hb
end
end Hk

/-! Exceptions as values: made by a def of their own or without one, positionally or by keywords; their fields; isinstance of them. -/
namespace Hk
open PySem PySem.Spec PyProof.Rows L2
abbrev tlV : List Value := [.type "ValueError", .type "Exception", .type "BaseException", .type "object"]
abbrev tlL : List Value := [.type "LookupError", .type "Exception", .type "BaseException", .type "object"]
abbrev tlR : List Value := [.type "RuntimeError", .type "Exception", .type "BaseException", .type "object"]
abbrev tlA : List Value := [.type "ArithmeticError", .type "Exception", .type "BaseException", .type "object"]
/-- one of four built-in bases -/
structure Bas (B newId initId : String) (bm : List Value) : Prop where
  f : ExcBaseFacts B newId initId bm
  s : StoreFacts B bm "object.__setattr__" "object"
theorem basV : Bas "ValueError" "ValueError.__new__" "ValueError.__init__" tlV := ⟨PySem.F.excBase_ValueError, PySem.F.store_ValueError⟩
theorem basL : Bas "LookupError" "LookupError.__new__" "LookupError.__init__" tlL := ⟨PySem.F.excBase_LookupError, PySem.F.store_LookupError⟩
theorem basR : Bas "RuntimeError" "RuntimeError.__new__" "RuntimeError.__init__" tlR := ⟨PySem.F.excBase_RuntimeError, PySem.F.store_RuntimeError⟩
theorem basA : Bas "ArithmeticError" "ArithmeticError.__new__" "ArithmeticError.__init__" tlA := ⟨PySem.F.excBase_ArithmeticError, PySem.F.store_ArithmeticError⟩
/-- what the written part says of an own exception class -/
structure VeC (K : Fr) (C : Addr) : Prop where
  b : ∃ B newId initId bm, Bas B newId initId bm ∧ PySem.W.excInitIn K C bm newId = true ∧ PySem.W.excOver K C bm = true
  sa : PySem.W.findIn K (.ref C) "__setattr__" = some (some (.builtin "object.__setattr__"))
  kC : PySem.W.keepIn K (.ref C) = true
  x : ExcC K C
def basB (K : Fr) (C : Addr) (bm : List Value) (n : String) : Bool := PySem.W.excInitIn K C bm n && PySem.W.excOver K C bm
def veB (K : Fr) (C : Addr) : Bool := (basB K C tlV "ValueError.__new__" || (basB K C tlL "LookupError.__new__" || (basB K C tlR "RuntimeError.__new__" || basB K C tlA "ArithmeticError.__new__"))) &&
  (He.eqO (PySem.W.findIn K (.ref C) "__setattr__") (some (some (.builtin "object.__setattr__"))) && (PySem.W.keepIn K (.ref C) && excB K C))
theorem veB_ok {K : Fr} {C : Addr} (c : veB K C = true) : VeC K C := by
  obtain ⟨c1, c⟩ := He.ba c
  obtain ⟨c2, c⟩ := He.ba c
  obtain ⟨c3, c4⟩ := He.ba c
  refine ⟨?_, He.eqO_ok c2, c3, excB_ok c4⟩
  rcases Bool.or_eq_true_iff.mp c1 with h | h
  · exact ⟨_, _, _, _, basV, He.ba h⟩
  · rcases Bool.or_eq_true_iff.mp h with h | h
    · exact ⟨_, _, _, _, basL, He.ba h⟩
    · rcases Bool.or_eq_true_iff.mp h with h | h
      · exact ⟨_, _, _, _, basR, He.ba h⟩
      · exact ⟨_, _, _, _, basA, He.ba h⟩
def tVe (x : Str) : Tst := fun K => veB K (He.ga K x)
end Hk
namespace Hk
open PySem PySem.Spec PyProof.Rows L2
/-! ### a class called, with keywords too -/
section
variable {prog : Program} {w : World} {A : Around} {E : Value → Shared → Prop} {R : Result → Shared → Prop} {h : Heap} {g : Array GenState} {d : Drawn} {t : Nat} {os : OsState}
variable {nm q : Str} {C N : Addr} {bs bm bmB : List Value} {hdct : Bool} {sn : List Str} {sub : List Value} {ab : Bool} {col : Option Bool} {dd : Option Addr} {k0 k1 k2 k3 k5 : Option Value} {B newId initId : String}
theorem chk_new (F : ExcBaseFacts B newId initId bmB) (hT : ∀ X : String, bm.contains (.type X) = bmB.contains (.type X)) {rest : List Value} {kw : List (Str × Value)} {Q : Unit → Shared → Prop} {M : Model}
    (hC : h.get? C = some (excClassObj nm q C N bs bm hdct sn sub ab col dd k0 k1 k2 k3 k5 newId)) (hq : Q () ⟨h, g, d, t, os⟩) : wpAny M A (checkBuiltinCall newId ⟨.ref C :: rest, kw⟩) Q E ⟨h, g, d, t, os⟩ := by
  have c1 : (Value.ref C :: bm).contains (.type B) = true := by rw [List.contains_cons, hT, F.hasB, Bool.or_true]
  have c2 := F.noStar
  cases kw with
  | nil => exact HandSPX.check_new_own F hT hC hq
  | cons k r =>
    simp only [checkBuiltinCall, F.newKind, F.newSplit, F.newRow]
    repeat (first | (refine wpAny_loadPart_at hC ?_) | (refine wpAny_isSubtype_exc hC ?_; rw [c1]) | (refine wpAny_staticBase_exc hC ?_) | (refine wpAny_madeBy_exc hC ?_) | (simp only [bne_self_eq_false, Bool.false_eq_true, if_false]) | wp_step)
    exact hq
end
end Hk

namespace Hk
open PySem PySem.Spec PyProof.Rows L2
section
variable {prog : Program} {w : World} {A : Around} {E : Value → Shared → Prop} {R : Result → Shared → Prop} {h : Heap} {g : Array GenState} {d : Drawn} {t : Nat} {os : OsState}
variable {nm q : Str} {C N : Addr} {bs bm bmB : List Value} {hdct : Bool} {sn : List Str} {sub : List Value} {ab : Bool} {col : Option Bool} {dd : Option Addr} {k0 k1 k2 k3 k5 : Option Value} {B newId initId : String}
theorem new_kw (F : ExcBaseFacts B newId initId bmB) (hT : ∀ X : String, bm.contains (.type X) = bmB.contains (.type X)) {rest : List Value} {kw : List (Str × Value)}
    (hC : h.get? C = some (excClassObj nm q C N bs bm hdct sn sub ab col dd k0 k1 k2 k3 k5 newId))
    (hq : R (.ok (.ret (.ref (h.objs.size + 1)))) ⟨(h.push (PySem.W.kdv_tup rest)).push (HandSPX.excO C h.objs.size), g, d, t, os⟩) (hrest : rest.length ≤ sizeLine) :
    codeAny (model prog w) A (.builtin newId ⟨.ref C :: rest, kw⟩) R ⟨h, g, d, t, os⟩ := by
  have e1 := F.ends
  have e2 : (Value.ref C :: bm).contains (.type B) = true := by rw [List.contains_cons, hT, F.hasB, Bool.or_true]
  have e3 : (Value.ref C :: bm).contains (.type "AttributeError") = false := by rw [List.contains_cons, hT, F.noAttr]; rfl
  have e4 : (Value.ref C :: bm).contains (.type "NameError") = false := by rw [List.contains_cons, hT, F.noName]; rfl
  refine codeAny_builtinAt F.entry ?_
  unfold Builtin.«BaseException.__new__»
  refine PySem.wpAt_bind ?_
  show PySem.wpAt _ _ _ (stack >>= _) _ _ _
  refine PySem.wpAt_bind (PySem.wpAt_stack fun p below => PySem.wpAt_of_wpAny ?_)
  wp_walk
  refine PySem.wpAt_of_wpAny ?_
  rw [F.owner]
  repeat (first | (with_reducible refine wpAny_madeHere_exc F.canon hC ?_) | (with_reducible refine wpAny_loadPart_at hC ?_) | (with_reducible refine wpAny_isSubtype_exc hC ?_; first | rw [e2] | rw [e3] | rw [e4]) | wp_step)
  show R _ _
  rw [Heap.size_push]
  exact hq
theorem type_kw (F : ExcBaseFacts B newId initId bmB) (hT : ∀ X : String, bm.contains (.type X) = bmB.contains (.type X)) {rest : List Value} {kw : List (Str × Value)} {fI : Addr} {Q : Fin → Shared → Prop}
    (hC : h.get? C = some (excClassObj nm q C N bs bm hdct sn sub ab col dd k0 k1 k2 k3 k5 newId))
    (hi : PySem.W.Looks (model prog w) h (typeLookup (.ref C) "__init__") (some (.ref fI))) (hb : ∀ self, PySem.W.Looks (model prog w) h (bindSpecial (.ref fI) self) (.ref fI, [self])) (hrest : rest.length ≤ sizeLine)
    (hq : codeAny (model prog w) A (.call (.ref fI) ⟨.ref (h.objs.size + 1) :: rest, kw⟩)
      (fun r s' => match r with | .ok (.ret v) => v = .none ∧ Q (.done (.ret (.ref (h.objs.size + 1)))) s' | .ok _ => False | .error e => E e s')
      ⟨(h.push (PySem.W.kdv_tup rest)).push (HandSPX.excO C h.objs.size), g, d, t, os⟩) :
    wpAny (model prog w) A (Builtin.«type.__call__» ⟨.ref C :: rest, kw⟩) Q E ⟨h, g, d, t, os⟩ := by
  repeat (first | (with_reducible refine wpAny_loadPart_at hC ?_) | (with_reducible refine wpAny_madeBy_exc hC ?_) | wp_step)
  refine codeAny_call_builtin_code (Code.quiet_builtin _ F.quiet) (chk_new F hT hC ?_)
  refine new_kw F hT hC ?_ hrest
  show wpAny _ _ _ _ _ _
  have kk : ∀ b o, h.get? b = some o → ((h.push (PySem.W.kdv_tup rest)).push (HandSPX.excO C h.objs.size)).get? b = some o := fun b o e => Heap.get?_push_of_some _ (Heap.get?_push_of_some _ e)
  have hC2 := kk _ _ hC
  have hg2 : ((h.push (PySem.W.kdv_tup rest)).push (HandSPX.excO C h.objs.size)).get? (h.objs.size + 1) = some (HandSPX.excO C h.objs.size) := by heap_get
  have hcc : (Value.ref C :: bm).contains (.ref C) = true := by simp
  have i1 := hi.keeps kk
  have b1 := (hb (.ref (h.objs.size + 1))).keeps kk
  unfold isInstance
  repeat (first | (with_reducible refine wpAny_loadPart_at hg2 ?_) | (with_reducible refine wpAny_isSubtype_exc hC2 ?_; rw [hcc]) | wp_step)
  show wpAny _ _ (typeLookup (.ref C) _) _ _ _
  refine i1.at ?_
  refine wpAny_holding (wpAny_bind (b1.at ?_))
  refine wpAny_bind (wpAny_call (codeAny_mono hq fun r s' z => ?_))
  rcases r with e | (v | _ | _ | _) <;> first | exact z | exact z.elim | skip
  obtain ⟨rfl, z⟩ := z
  first
    | exact wpAny_pure (wpAny_pure z)
    | (wp_walk; exact z)
theorem chk_tc {M : Model} {rest : List Value} {kw : List (Str × Value)} {Q : Unit → Shared → Prop} (hC : h.get? C = some (excClassObj nm q C N bs bm hdct sn sub ab col dd k0 k1 k2 k3 k5 newId))
    (hq : Q () ⟨h, g, d, t, os⟩) : wpAny M A (checkBuiltinCall "type.__call__" ⟨.ref C :: rest, kw⟩) Q E ⟨h, g, d, t, os⟩ := by
  cases kw with
  | nil => exact wpAny_check_type_call_sub hC hq
  | cons k r =>
    have f3 := tc_sub
    have hT : (⟨h, g, d, t, os⟩ : Shared).TypeIs (.ref C) "type" := ⟨_, hC, rfl⟩
    simp only [checkBuiltinCall, tc_kind, tc_split]
    repeat (any_goals (first | assumption | (with_reducible refine wpAny_loadPart_at hC ?_) | (with_reducible refine wpAny_onRaise ?_) | (with_reducible refine wpAny_map ?_) | wp_step))
theorem call_kw (F : ExcBaseFacts B newId initId bmB) (hT : ∀ X : String, bm.contains (.type X) = bmB.contains (.type X)) {rest : List Value} {kw : List (Str × Value)} {fI : Addr}
    (hC : h.get? C = some (excClassObj nm q C N bs bm hdct sn sub ab col dd k0 k1 k2 k3 k5 newId))
    (hi : PySem.W.Looks (model prog w) h (typeLookup (.ref C) "__init__") (some (.ref fI))) (hb : ∀ self, PySem.W.Looks (model prog w) h (bindSpecial (.ref fI) self) (.ref fI, [self])) (hrest : rest.length ≤ sizeLine)
    (hq : codeAny (model prog w) (A.under (.builtin "type.__call__" ⟨.ref C :: rest, kw⟩)) (.call (.ref fI) ⟨.ref (h.objs.size + 1) :: rest, kw⟩) (PySem.W.InitBack (h.objs.size + 1) R)
      ⟨(h.push (PySem.W.kdv_tup rest)).push (HandSPX.excO C h.objs.size), g, d, t, os⟩) :
    codeAny (model prog w) A (.call (.ref C) ⟨rest, kw⟩) R ⟨h, g, d, t, os⟩ := by
  have f1 := tc_lookup
  have f2 := tc_bind (.ref C)
  have hTy : (⟨h, g, d, t, os⟩ : Shared).TypeIs (.ref C) "type" := ⟨_, hC, rfl⟩
  refine codeAny_of_tree ?_
  show wpAny _ _ (callAny (.ref C) _) _ _ _
  repeat (any_goals (first | assumption | (with_reducible refine wpAny_loadPart_at hC ?_) | wp_step))
  refine ⟨rfl, ?_⟩
  refine codeAny_call_builtin_at (Code.quiet_builtin _ (by decide +kernel)) entry_typeCall (chk_tc hC (type_kw F hT hC hi hb hrest ?_))
  refine codeAny_mono hq fun r s' z => ?_
  rcases r with e | (v | _ | _ | _) <;> exact z
end
end Hk

namespace Hk
open PySem PySem.Spec PyProof.Rows L2
/-! ### self.f = y in __init__ -/
section
open PySem.Builtin PySem.Builtin.ObjectAttr
variable {prog : Program} {w : World} {A : Around} {E : Value → Shared → Prop} {R : Result → Shared → Prop} {hp : Heap} {g : Array GenState} {d : Drawn} {t : Nat} {os : OsState} {K : Fr}
theorem osa_first {name : Str} {tk : Tok} {v : Value} {x C : Addr} {fv : Array Value} (T : VeC K C)
    (Y : K.In hp) (hx : hp.get? x = some { cls := .ref C, data := .fields fv }) (ha : PySem.W.findIn K (.ref C) name = some none)
    (hq : ∀ h' tk' dx, (∀ b o, b ≠ x → hp.get? b = some o → h'.get? b = some o) → hp.objs.size ≤ dx → dx ≠ x → h'.get? x = some { cls := .ref C, dict := some dx, data := .fields fv } →
      h'.Ns1 dx (fun y => if y = name then some v else none) → R (.ok (.ret .none)) ⟨h', g, d, tk', os⟩) :
    codeAny (model prog w) A (.call (.builtin "object.__setattr__") ⟨[.ref x, .str name tk, v], []⟩) R ⟨hp, g, d, t, os⟩ := by
  obtain ⟨B, newId, initId, bm, b, _, ov⟩ := T.b
  have I : PySem.W.InstAt hp x { cls := .ref C, data := .fields fv } C none := ⟨hx, rfl, rfl, trivial⟩
  have hxs : x ≠ hp.objs.size := Nat.ne_of_lt (Heap.lt_size hx)
  refine PySem.W.osa_openX (s := ⟨hp, g, d, t, os⟩) (r := none) b.s Y I ov (by unfold PySem.W.takerIn; rw [ha]; rfl) fun bb => ?_
  show wpAny _ _ (storeInOwnDict (.ref x) (.ref C) (.str name tk) name v bb) _ _ _
  obtain ⟨cd, hcd, hh⟩ := PySem.W.any_some T.x.hd
  have hcls : PySem.W.Looks (model prog w) hp (classData C) cd := PySem.W.looks_clsIn Y hcd
  obtain ⟨nm, bs, mro, ns, qn, hd, sn, sb, ab, col, del⟩ := cd
  dsimp only at hh
  subst hh
  unfold storeInOwnDict ownDictForStores
  repeat (first | (with_reducible refine HandSPX.store_in_new ?_ ?_) | (with_reducible refine wpAny_loadPart_at hx ?_) | (with_reducible refine hcls.at ?_) | wp_step)
  · exact ⟨_, #[], _, (Heap.get?_update_ne _ _ _ _ hxs.symm).trans (Heap.get?_push_at rfl rfl), rfl, fun e he => absurd he (by simp), fun _ => rfl⟩
  · intro h' tk' hn' hs
    have hx1 : (hp.push { cls := .type "dict", data := .dict #[] }).get? x = some { cls := .ref C, data := .fields fv } := Heap.get?_push_of_some _ hx
    refine hq h' tk' hp.objs.size (fun b o hb ho => ?_) (Nat.le_refl _) hxs.symm ?_ hn'
    · exact (hs.2 b (Nat.ne_of_lt (Heap.lt_size ho))).trans ((Heap.get?_update_ne _ _ _ _ hb).trans (Heap.get?_push_of_some _ ho))
    · exact (hs.2 x hxs).trans (Heap.get?_update_self _ hx1 rfl)
theorem osa_more {name : Str} {tk : Tok} {v : Value} {m0 : Str → Option Value} {ns : List Str} {x C dx : Addr} {fv : Array Value} (T : VeC K C)
    (Y : K.In hp) (hx : hp.get? x = some { cls := .ref C, dict := some dx, data := .fields fv }) (hns : hp.Ns1 dx m0) (hw : Within m0 ns) (hz : ns.length ≤ 1000) (ha : PySem.W.findIn K (.ref C) name = some none)
    (hq : ∀ h' tk', (∀ b o, b ≠ dx → hp.get? b = some o → h'.get? b = some o) → h'.Ns1 dx (fun y => if y = name then some v else m0 y) → R (.ok (.ret .none)) ⟨h', g, d, tk', os⟩) :
    codeAny (model prog w) A (.call (.builtin "object.__setattr__") ⟨[.ref x, .str name tk, v], []⟩) R ⟨hp, g, d, t, os⟩ := by
  obtain ⟨B, newId, initId, bm, b, _, ov⟩ := T.b
  obtain ⟨oD, esD, epD, hoD, hdD, _⟩ := hns.count hw
  have I : PySem.W.InstAt hp x { cls := .ref C, dict := some dx, data := .fields fv } C (some oD) := ⟨hx, rfl, rfl, hoD⟩
  refine PySem.W.osa_openX (s := ⟨hp, g, d, t, os⟩) (r := none) b.s Y I ov (by unfold PySem.W.takerIn; rw [ha]; rfl) fun bb => ?_
  show wpAny _ _ (storeInOwnDict (.ref x) (.ref C) (.str name tk) name v bb) _ _ _
  obtain ⟨cd, hcd, hh⟩ := PySem.W.any_some T.x.hd
  have hcls : PySem.W.Looks (model prog w) hp (classData C) cd := PySem.W.looks_clsIn Y hcd
  obtain ⟨nm, bs, mro, nn, qn, hd, sn, sb, ab, col, del⟩ := cd
  dsimp only at hh
  subst hh
  unfold storeInOwnDict ownDictForStores
  repeat (first | (with_reducible refine PySem.OEX.store_in_old hns hw hz ?_) | (with_reducible refine wpAny_loadPart_at hx ?_) | (with_reducible refine hcls.at ?_) | wp_step)
  intro h' tk' hn' hs
  exact hq h' tk' (fun b o hb ho => (hs.2 b hb).trans ho) hn'
end
section
variable {X : Cx} {pins : List (Addr × Obj)} {σ : L2.St} {H : Hp} {s : Shared} {a C dx : Addr} {f : Str} {y : V} {u : Value} {fs : List (Str × V)} {Q : Unit → Shared → Prop} {E : Value → Shared → Prop} {A : Around}
theorem vst_new (T : VeC X.K C) (I : Inv X pins σ H s) (e : H a = some (exo a C none)) (hno : PySem.W.findIn X.K (.ref C) f = some none) (ry : RelV y u)
    (h : ∀ dx s', H dx = none → dx ≠ a → Inv X pins σ (upd (upd H dx (exd dx [(f, y)])) a (exo a C (some dx))) s' → Q () s') : wpAny (model X.prog X.w) A (setAttr (.ref a) f u) Q E s := by
  obtain ⟨t1, ho⟩ := exo_at I.hok e
  obtain ⟨hp, g, d, t, os⟩ := s
  refine PySem.W.set_plain I.kIn (ox := { cls := .ref C, dict := none, data := .fields #[.ref t1, .none, .none, .none, .bool false, .none] }) (od := none) ⟨ho, rfl, rfl, trivial⟩ T.sa ?_
  refine osa_first T I.kIn ho hno (fun h' tk' dx k dn dne hx hn => ?_)
  have hnd : H dx = none := I.hok.fresh dn
  have nd : ∀ {b : Addr} {o : Obj}, hp.get? b = some o → b ≠ dx := fun {b o} q => Nat.ne_of_lt (Nat.lt_of_lt_of_le (Heap.lt_size q) dn)
  have na : ∀ {b : Addr}, H b = none → b ≠ a := fun {b} n z => by
    rw [z, e] at n
    exact nomatch n
  have U : Un X.fs [] H (upd (upd H dx (exd dx [(f, y)])) a (exo a C (some dx))) hp h' := by
    refine ⟨fun b o q n _ _ => k b o (na n) q, fun b o q n _ _ => ⟨o.slots, k b o (na n) q⟩, fun b o q n _ => ?_, fun b o q _ => ?_, fun b xs q => ?_, fun b o v q => ?_, fun b ps q => ⟨#[], ?_⟩⟩
    · rw [upd_ne (na n), upd_ne (nd q)]
      exact n
    · by_cases hb : b = a
      · exact ⟨_, by rw [hb]; exact hx⟩
      · exact ⟨o, k b o hb q⟩
    · rw [upd_ne (at_ne e q exo_tup), upd_ne (ne_of_none q hnd)]
      exact q
    · rw [upd_ne (at_ne e q exo_frz), upd_ne (ne_of_none q hnd)]
      exact q
    · rw [upd_ne (at_ne e q exo_tbl), upd_ne (ne_of_none q hnd), q]
      simp
  refine h dx _ hnd dne (I.un (t' := tk') U fun b o q => ?_)
  by_cases hb : b = a
  · subst hb
    rw [upd_same] at q
    cases q
    exact exo_ok hx
  · rw [upd_ne hb] at q
    by_cases hd : b = dx
    · subst hd
      rw [upd_same] at q
      cases q
      exact exd_ok hn (relO_put (fs := []) ry fun g => True.intro)
    · rw [upd_ne hd] at q
      refine (I.hok b o q).stay (fun c v hc z => k c v ?_ z) (fun c hc => ?_) fun c xs hc => ?_
      · rcases hc with hc | hc
        · rw [hc]
          exact hb
        · exact at_ne e hc exo_own
      · rw [upd_ne (at_ne e hc exo_own), upd_ne (ne_of_none hc hnd)]
        exact hc
      · rw [upd_ne (at_ne e hc exo_tup), upd_ne (ne_of_none hc hnd)]
        exact hc
theorem vst_old (T : VeC X.K C) (I : Inv X pins σ H s) (e : H a = some (exo a C (some dx))) (ed : H dx = some (exd dx fs)) (hl : fs.length ≤ 900) (hno : PySem.W.findIn X.K (.ref C) f = some none) (ry : RelV y u)
    (h : ∀ s', Inv X pins σ (upd H dx (exd dx ((f, y) :: fs))) s' → Q () s') : wpAny (model X.prog X.w) A (setAttr (.ref a) f u) Q E s := by
  obtain ⟨t1, ho⟩ := exo_at I.hok e
  obtain ⟨mA, hns, rel⟩ := exd_at I.hok ed
  have hw := within_of rel
  obtain ⟨hp, g, d, t, os⟩ := s
  obtain ⟨oD, _, _, hoD, _, _⟩ := hns.count hw
  refine PySem.W.set_plain I.kIn (ox := { cls := .ref C, dict := some dx, data := .fields #[.ref t1, .none, .none, .none, .bool false, .none] }) (od := some oD) ⟨ho, rfl, rfl, hoD⟩ T.sa ?_
  refine osa_more T I.kIn ho hns hw (by rw [List.length_map]; omega) hno (fun h' tk' k hn => ?_)
  have hd : ∃ o, h'.get? dx = some o := by
    obtain ⟨o, _, _, e', _⟩ := hn
    exact ⟨o, e'⟩
  exact h _ (I.write (t' := tk') (x := dx) (e := dx) (o := exd dx ((f, y) :: fs)) (by rw [ed]; exact True.intro) (.inl rfl) k hd (exd_ok hn (relO_put ry rel)))
end
/-- self.f = e -/
def tVst (K : Fr) (f : Str) (to te : TE) : TS := fun D σ H => te σ H fun y H1 => to σ H1 fun x H2 => ∃ a C : Addr, x = .ref a ∧ VeC K C ∧ PySem.W.findIn K (.ref C) f = some none ∧
  ((H2 a = some (exo a C none) ∧ ∀ dx, H2 dx = none → dx ≠ a → D.nx σ (upd (upd H2 dx (exd dx [(f, y)])) a (exo a C (some dx)))) ∨
    ∃ (dx : Addr) (fs : List (Str × V)), H2 a = some (exo a C (some dx)) ∧ H2 dx = some (exd dx fs) ∧ fs.length ≤ 900 ∧ D.nx σ (upd H2 dx (exd dx ((f, y) :: fs))))
section
variable {X : Cx} {o e : Expr} {to te : TE} {f : Str} {p' pos : Pos}
theorem ps_vst (ho : PE X o to) (he : PE X e te) (hs : swapsWith e (some (.Attribute o f p')) pos.line X.env = pure false := by rfl) : PS X (.Assign [.Attribute o f p'] e pos) (tVst X.K f to te) := by
  refine ⟨fun pins s σ H D I h => ?_⟩
  refine plainObj_wpAny_Assign_Attribute (thn (he.run pins s σ H _ I h) fun v s1 ⟨y, H1, I1, r1, q1⟩ => thn (ho.run pins s1 σ H1 _ I1 q1) fun u s2 ⟨x, H2, I2, r2, a, C, ex, T, hno, q⟩ => ?_) hs
  subst ex
  obtain rfl : u = Value.ref a := r2
  rcases q with ⟨ea, q⟩ | ⟨dx, fs, ea, ed, hl, q⟩
  · exact vst_new T I2 ea hno r1 fun dx s' n ne J => ⟨σ, _, J, q dx n ne⟩
  · exact vst_old T I2 ea ed hl hno r1 fun s' J => ⟨σ, _, J, q⟩
end
end Hk

namespace Hk
open PySem PySem.Spec PyProof.Rows L2
/-- an exception of the class C with these fields stands at a -/
def VeAt (H : Hp) (a C : Addr) (fs : List (Str × V)) : Prop := ∃ d, H a = some (exo a C (some d)) ∧ H d = some (exd d fs)
/-- one without fields -/
def VeBare (H : Hp) (a C : Addr) : Prop := H a = some (ExO (.ref C) a)
theorem VeAt.same {H H' : Hp} {a C : Addr} {fs : List (Str × V)} (v : VeAt H a C fs) (s : Same H H') : VeAt H' a C fs := by
  obtain ⟨d, h1, h2⟩ := v
  exact ⟨d, s _ _ h1, s _ _ h2⟩
section
variable {X : Cx} {k : Nat} {C fI : Addr} {fd : FuncData} {ps ks : List Str} {sp : Sp}
/-- the class called: a new object, then its __init__ -/
theorem run_ve {pins : List (Addr × Obj)} {σ : L2.St} {H : Hp} {s : Shared} {Q : VK} {us ws : List Value} {vl : Addr → List V} {al : Addr → List Value} (T : VeC X.K C) (iC : PySem.W.findIn X.K (.ref C) "__init__" = some (some (.ref fI))) (tI : PySem.W.typeIn X.K (.ref fI) = some (.type "function"))
    (F : FnOk X.prog X.w X.K X.mg X.base CX0 k fI fd ps sp) (hr : Room (k + 1) X.A) (I : Inv X pins σ H s) (hl : us.length ≤ sizeLine)
    (hb : ∀ (s' : Shared) (a : Addr), X.K.In s'.heap → BindsTo s' fd ⟨.ref a :: us, ks.zip ws⟩ (ps.zip (al a))) (hv : ∀ a, Vals (vl a) (al a))
    (h : ∀ a, H a = none → sp (vl a) (upd H a (exo a C none)) (fun v H2 => v = .non ∧ Q (.ref a) H2) E0) :
    wpAny (model X.prog X.w) X.A (call (.ref C) us (ks.zip ws)) (EP X pins σ Q) X.xe s := by
  obtain ⟨B, newId, initId, bmB, b, ei, _⟩ := T.b
  obtain ⟨nm, N, q, bs, bm, hdct, sn, sub, ab, col, dd, k0, k1, k2, k3, k5, hC, hT⟩ := PySem.W.excInit_of I.kIn ei
  obtain ⟨hp, g, dr, tk, os⟩ := s
  have hsz : hp.objs.size ≤ hp.objs.size + 1 := Nat.le_succ _
  have hn : H (hp.objs.size + 1) = none := I.hok.fresh hsz
  have hq := h (hp.objs.size + 1) hn
  have kk : ∀ b o, hp.get? b = some o → ((hp.push (PySem.W.kdv_tup us)).push (HandSPX.excO C hp.objs.size)).get? b = some o := fun b o e => Heap.get?_push_of_some _ (Heap.get?_push_of_some _ e)
  have hget : ((hp.push (PySem.W.kdv_tup us)).push (HandSPX.excO C hp.objs.size)).get? (hp.objs.size + 1) = some (HandSPX.excO C hp.objs.size) := by heap_get
  have I2 : Inv X pins σ (upd H (hp.objs.size + 1) (exo (hp.objs.size + 1) C none)) ⟨(hp.push (PySem.W.kdv_tup us)).push (HandSPX.excO C hp.objs.size), g, dr, tk, os⟩ :=
    I.laid (t' := tk) (a := hp.objs.size + 1) (o := exo (hp.objs.size + 1) C none) (h' := (hp.push (PySem.W.kdv_tup us)).push (HandSPX.excO C hp.objs.size)) kk hsz (exo_ok hget)
  refine wpAny_call (call_kw b.f hT hC (PySem.W.looks_findIn I.kIn iC) (fun self => PySem.W.bind_fn I.kIn self tI) hl
    (codeAny_mono (F.run _ X.stack _ _ ⟨Value.ref (hp.objs.size + 1) :: us, ks.zip ws⟩ (al (hp.objs.size + 1)) (vl (hp.objs.size + 1)) _ E0 (hr.make C us (ks.zip ws)) (I2.env0.make C us (ks.zip ws)) (hb _ _ I2.kIn) (hv _) hq) fun r s' hq' => ?_))
  cases r with
  | error er => exact (show False from hq').elim
  | ok fl =>
    cases fl with
    | ret u =>
      obtain ⟨v, H', I3, rv, ev, q3⟩ := I2.after hq'
      subst ev
      exact ⟨rv, V.ref (hp.objs.size + 1), H', I3, rfl, q3⟩
    | _ => exact (show False from hq').elim
/-- C(e, ..) -/
def tVe1 (C : Addr) (sp : Sp) (t : TA) : TE := fun σ H Q => t σ H fun vs H1 => vs.length ≤ 1000 ∧ ∀ a, H1 a = none → sp (.ref a :: vs) (upd H1 a (exo a C none)) (fun v H2 => v = .non ∧ Q (.ref a) H2) E0
theorem len_line {us : List Value} {vs : List V} (r : Vals vs us) (h : vs.length ≤ 1000) : us.length ≤ sizeLine := by
  rw [← r.length]
  exact Nat.le_trans h (by decide)
theorem pe_ve {x : Str} {e : Expr} {es : List Expr} {t : TA} {p pos : Pos} (T : VeC X.K C) (iC : PySem.W.findIn X.K (.ref C) "__init__" = some (some (.ref fI))) (tI : PySem.W.typeIn X.K (.ref fI) = some (.type "function"))
    (F : FnOk X.prog X.w X.K X.mg X.base CX0 k fI fd ps sp) (hr : Room (k + 1) X.A) (hm : X.mg x = some (.ref C)) (hb : Binds X.K fd ps []) (ha : PA X (e :: es) t) (hg : Gl X x := by rfl)
    (hdb : (x == ("__debug__" : Str)) = false := by decide) (he : starEach (e :: es) X.env = (false, eval e X.env) :: starEach es X.env := by rfl) (hpl : (backTo pos (starEach es X.env)).any (·.1) = false := by rfl) :
    PE X (.Call (.Name x p) (e :: es) [] pos) (tVe1 C sp t) := by
  refine ⟨fun pins s σ H Q I h => wpAny_Call_Name_kw (ld_glob I hg hm ?_ hdb)⟩
  refine PySem.W.callWith_K (h₀ := X.base) I.ok.mod.kin T.kC (thn (ha.run pos pins s σ H _ I h) fun us s1 hu => ?_) he hpl
  obtain ⟨vs, H1, J, r, hl, q⟩ := hu
  have fr : ∃ a, H1 a = none := ⟨_, J.hok.fresh (Nat.le_refl _)⟩
  obtain ⟨a0, n0⟩ := fr
  have ln : us.length + 1 = ps.length := by
    have e1 := F.len _ _ _ _ (q a0 n0)
    rw [List.length_cons, r.length] at e1
    exact e1
  refine ⟨J.kIn, run_ve (ks := []) (ws := []) (vl := fun a => .ref a :: vs) (al := fun a => .ref a :: us) T iC tI F hr J (len_line r hl) (fun s' a Y => ?_) (fun a => .cons rfl r) q⟩
  have := hb s' (.ref a :: us) Y (by rw [List.append_nil, List.length_cons]; exact ln)
  rwa [List.append_nil] at this
/-- C(k = e, ..): how the keywords come to the parameters -/
def tVeK (C : Addr) (sp : Sp) (gV : List V → List V) (tk : TA) : TE := fun σ H Q => tk σ H fun zs H1 => ∀ a, H1 a = none → sp (.ref a :: gV zs) (upd H1 a (exo a C none)) (fun v H2 => v = .non ∧ Q (.ref a) H2) E0
theorem pe_veK {x : Str} {kws : List Keyword} {tk : TA} {p pos : Pos} {g : List Value → List Value} {gV : List V → List V} (T : VeC X.K C) (iC : PySem.W.findIn X.K (.ref C) "__init__" = some (some (.ref fI))) (tI : PySem.W.typeIn X.K (.ref fI) = some (.type "function"))
    (F : FnOk X.prog X.w X.K X.mg X.base CX0 k fI fd ps sp) (hr : Room (k + 1) X.A) (hm : X.mg x = some (.ref C)) (hb : ∀ (s' : Shared) (a : Addr) (ws : List Value), X.K.In s'.heap → ws.length = ks.length → BindsTo s' fd ⟨[.ref a], ks.zip ws⟩ (ps.zip (.ref a :: g ws)))
    (hgv : ∀ {zs : List V} {ws : List Value}, Vals zs ws → Vals (gV zs) (g ws)) (hlk : ∀ (σ : L2.St) (H : Hp) (Q : List V → Hp → Prop), tk σ H Q → tk σ H fun zs H1 => zs.length = ks.length ∧ Q zs H1) (hk : PK X kws tk) (hg : Gl X x := by rfl)
    (hall : (backToKw pos (keywordEach kws X.env)).all (·.1.isSome) = true := by rfl) (hks : (backToKw pos (keywordEach kws X.env)).filterMap (·.1) = ks := by rfl) (hdb : (x == ("__debug__" : Str)) = false := by decide)
    (hpl : ((backTo pos (starEach [] X.env)).any (·.1) || (backToKw pos (keywordEach kws X.env)).any (·.1.isNone)) = false := by rfl) : PE X (.Call (.Name x p) [] kws pos) (tVeK C sp gV tk) := by
  refine ⟨fun pins s σ H Q I h => wpAny_Call_Name_kw (ld_glob I hg hm ?_ hdb)⟩
  refine PySem.W.callWith_KW0 (h₀ := X.base) I.ok.mod.kin T.kC hall (thn (hk.run pos pins s σ H _ I (hlk _ _ _ h)) fun ws s2 hu => ?_) hpl
  obtain ⟨zs, H2, J, rz, ln, q⟩ := hu
  refine ⟨J.kIn, ?_⟩
  rw [hks]
  exact run_ve (us := []) (vl := fun a => .ref a :: gV zs) (al := fun a => .ref a :: g ws) T iC tI F hr J (Nat.zero_le _) (fun s' a Y => hb s' a ws Y (rz.length.symm.trans ln)) (fun a => .cons rfl (hgv rz)) q
/-- C() of a class without an __init__ of its own -/
theorem pe_ve0 {bmB : List Value} {B newId initId : String} {x : Str} {p pos : Pos} (F : ExcBaseFacts B newId initId bmB) (q : PySem.W.excIn X.K C bmB newId = true) (gC : X.mg x = some (.ref C)) (kC : PySem.W.keepIn X.K (.ref C) = true) (hg : Gl X x := by rfl)
    (hdb : (x == ("__debug__" : Str)) = false := by decide) : PE X (.Call (.Name x p) [] [] pos) (fun σ H Q => ∀ a, H a = none → Q (.ref a) (upd H a (ExO (.ref C) a))) := by
  refine ⟨fun pins s σ H Q I h => wpAny_Call_Name_kw (ld_glob I hg gC ?_ hdb)⟩
  refine PySem.W.callWith_K0 I.kIn kC ?_
  obtain ⟨bm, N, nm, qn, bs, hdct, sn, sub, ab, col, dd, k0, k1, k2, k3, k5, mN, hC, hN, hni, T⟩ := exc_obj I.kIn q
  refine wpAny_call_exc_subT F T hC hN hni (fun h' a hm => ?_) (Nat.zero_le _)
  have hn : H a = none := I.hok.gone hm.new
  obtain ⟨t, ht, _, _⟩ := hm.there
  exact ⟨.ref a, upd H a (ExO (.ref C) a), I.laidN hm.keeps hm.new hn (exO_ok ht ⟨rfl, rfl⟩ rfl rfl rfl (show 4 < 6 by decide)), rfl, h a hn⟩
/-- e.n -/
def tVeF (K : Fr) (n : Str) (te : TE) : TE := fun σ H Q => te σ H fun x H1 => ∃ (a C : Addr) (fs : List (Str × V)) (v : V), x = .ref a ∧ VeAt H1 a C fs ∧ ExcC K C ∧ PySem.W.findIn K (.ref C) n = some none ∧ fs.lookup n = some v ∧ Q v H1
theorem pe_veF {e : Expr} {te : TE} {pos : Pos} {n : Str} (he : PE X e te) (hb : attributeBase e n X.env (eval e X.env) = eval e X.env := by rfl) : PE X (.Attribute e n pos) (tVeF X.K n te) := by
  refine ⟨fun pins s σ H Q I h => ?_⟩
  refine attr_of hb (thn (he.run pins s σ H _ I h) fun u s1 hh => ?_)
  obtain ⟨x, H1, I1, rx, a, C, fs, v, ex, ⟨d, ea, ed⟩, T, hno, l, q⟩ := hh
  subst ex
  obtain rfl : u = Value.ref a := rx
  obtain ⟨t1, ho⟩ := exo_at I1.hok ea
  obtain ⟨mz, ns, rel⟩ := exd_at I1.hok ed
  obtain ⟨od, hod, hl⟩ := lookIn_ns ns
  have rn := rel n
  rw [l] at rn
  obtain ⟨val, ev, rv⟩ := RelO.some_of rn
  have J : PySem.W.InstAt s1.heap a { cls := .ref C, dict := some d, data := .fields #[.ref t1, .none, .none, .none, .bool false, .none] } C (some od) := ⟨ho, rfl, rfl, hod⟩
  exact HandSPX.exc_get I1.kIn J T.hg T.hk T.hs (PySem.W.findObj_own T.hd hno rfl ((hl n).trans (congrArg some ev))) (handed_of rv) ⟨v, H1, I1.tok _, rv, q⟩
/-- isinstance(e, c) -/
def rIsV (K : Fr) : List V → Hp → VK → Prop := fun xs H Q => ∃ (a D : Addr) (c : V) (cv : Value) (b : Bool), xs = [.ref a, c] ∧ ((∃ fs, VeAt H a D fs) ∨ VeBare H a D) ∧ ExcC K D ∧ ClsV c cv ∧ PySem.W.kitOne K (.ref D) cv = some b ∧ Q (.bl b) H
theorem call_isV : CallR X (.builtin "isinstance") (rIsV X.K) := by
  intro pins s σ H xs us Q I r h
  obtain ⟨a, D, c, cv, b, rfl, hv, C, hcv, e, q⟩ := h
  obtain ⟨u1, u2, rfl, r1, r2⟩ := vals2 r
  have ec := hcv.eq r2
  subst ec
  cases (show u1 = Value.ref a from r1)
  obtain ⟨cdD, hcD, _⟩ := PySem.W.any_some C.hd
  have hcl : (PySem.W.clsIn X.K D).isSome = true := by rw [hcD]; rfl
  have fin : ∀ {ox : Obj} {od : Option Obj}, PySem.W.InstAt s.heap a ox D od → wpAny (model X.prog X.w) X.A (call (.builtin "isinstance") [.ref a, u2]) (EP X pins σ Q) X.xe s := fun {ox od} J =>
    PySem.W.kia_one (PySem.W.kitx_exc hcl C.hg C.hk C.hs C.ha C.hn C.ht C.hm) I.kIn J e (fun z => nomatch z) fun tk => ⟨.bl b, H, I.kept (t' := tk) fun _ _ z => z, rfl, q⟩
  rcases hv with ⟨fs, d, ea, ed⟩ | ea
  · obtain ⟨t1, ho⟩ := exo_at I.hok ea
    obtain ⟨mz, ns, rel⟩ := exd_at I.hok ed
    obtain ⟨od, hod, hl⟩ := lookIn_ns ns
    exact fin (ox := { cls := .ref D, dict := some d, data := .fields #[.ref t1, .none, .none, .none, .bool false, .none] }) (od := some od) ⟨ho, rfl, rfl, hod⟩
  · obtain ⟨⟨oe, vs, ho, hz, hd, _⟩, _, _⟩ := I.hok a _ ea
    refine fin (ox := oe) (od := none) ⟨ho, hz.1, ?_, by rw [hz.2]; trivial⟩
    unfold PySem.W.notCls
    rw [hd] <;> rfl
end
/-- an __init__ that stores its one argument -/
def spSet (C : Addr) (f : Str) : Sp := fun vs H Q _ => ∃ (a : Addr) (y : V), vs = [.ref a, y] ∧ H a = some (exo a C none) ∧ ∀ dx, H dx = none → dx ≠ a → Q .non (upd (upd H dx (exd dx [(f, y)])) a (exo a C (some dx)))
end Hk

namespace Hk
open PySem PySem.Spec PyProof.Rows L2
/-! ### of which classes an error is -/
def ownBs : List (Str × Nat) := [("InputError", 0), ("NetError", 1), ("StateError", 2), ("LimitError", 3)]
def pyBs : List (String × Nat) := [("ValueError", 0), ("LookupError", 1), ("RuntimeError", 2), ("ArithmeticError", 3)]
def kits (K : Fr) (C : Addr) (i : Nat) : Bool := (ownBs.all fun p => decide (PySem.W.kitOne K (.ref C) (.ref (He.ga K p.1)) = some (decide (p.2 = i)))) && (pyBs.all fun p => decide (PySem.W.kitOne K (.ref C) (.type p.1) = some (decide (p.2 = i))))
structure RowC (K : Fr) (D : Addr) (i : Nat) : Prop where
  x : ExcC K D
  o : ∀ p ∈ ownBs, PySem.W.kitOne K (.ref D) (.ref (He.ga K p.1)) = some (decide (p.2 = i))
  b : ∀ p ∈ pyBs, PySem.W.kitOne K (.ref D) (.type p.1) = some (decide (p.2 = i))
theorem kits_ok {K : Fr} {C : Addr} {i : Nat} (x : ExcC K C) (c : kits K C i = true) : RowC K C i := by
  obtain ⟨c1, c2⟩ := He.ba c
  exact ⟨x, fun p hp => of_decide_eq_true (List.all_eq_true.mp c1 p hp), fun p hp => of_decide_eq_true (List.all_eq_true.mp c2 p hp)⟩
/-- a class with fields over the base i: its facts; all its fields have no class attribute -/
def tEc (x : Str) (fs : List Str) (i : Nat) : Tst := fun K => tVe x K && (tInit x K && (kits K (He.ga K x) i && fs.all fun f => tNof x f K))
structure EcC (K : Fr) (C fI : Addr) (fs : List Str) (i : Nat) : Prop where
  v : VeC K C
  iC : PySem.W.findIn K (.ref C) "__init__" = some (some (.ref fI))
  tI : PySem.W.typeIn K (.ref fI) = some (.type "function")
  r : RowC K C i
  n : ∀ f ∈ fs, PySem.W.findIn K (.ref C) f = some none
theorem ec_ok {K : Fr} {x : Str} {fs : List Str} {i : Nat} (c : tEc x fs i K = true) : EcC K (He.ga K x) (mAd x "__init__" K) fs i := by
  obtain ⟨c1, c⟩ := He.ba c
  obtain ⟨c2, c⟩ := He.ba c
  obtain ⟨c3, c4⟩ := He.ba c
  obtain ⟨c5, c6⟩ := He.ba c2
  have v := veB_ok c1
  exact ⟨v, (own_ok c5).at_, of_decide_eq_true c6, kits_ok v.x c3, fun f hf => He.eqO_ok (List.all_eq_true.mp c4 f hf)⟩
/-- a class without a def of its own -/
def tEb (x : Str) (bm : List Value) (n : String) (i : Nat) : Tst := fun K => PySem.W.excIn K (He.ga K x) bm n && (PySem.W.keepIn K (.ref (He.ga K x)) && (excB K (He.ga K x) && kits K (He.ga K x) i))
structure EbC (K : Fr) (C : Addr) (i : Nat) : Prop where
  e : ∃ B newId initId bm, ExcBaseFacts B newId initId bm ∧ PySem.W.excIn K C bm newId = true
  kC : PySem.W.keepIn K (.ref C) = true
  r : RowC K C i
theorem eb_ok {K : Fr} {x : Str} {B n ii : String} {bm : List Value} {i : Nat} (b : Bas B n ii bm) (c : tEb x bm n i K = true) : EbC K (He.ga K x) i := by
  obtain ⟨c1, c⟩ := He.ba c
  obtain ⟨c2, c⟩ := He.ba c
  obtain ⟨c3, c4⟩ := He.ba c
  exact ⟨⟨B, n, ii, bm, b.f, c1⟩, c2, kits_ok (excB_ok c3) c4⟩
theorem kwN {K : Fr} {x qual : Str} {params : Arguments} {body : List Stmt} {scope : Scope} {kws : List (Str × V)} {f : Addr} {fd : FuncData} {ps ks : List Str} {g : List Value → List Value} (F : FunD K x qual params body scope [] kws f fd)
    (h : ∀ (kV doc pm : Value) (an : Option Addr) (cdv ct v : Value) (ws : List Value), ws.length = ks.length → bindArgs (PySem.W.fnOf x qual params body scope .none kV doc pm an cdv ct) ⟨[v], ks.zip ws⟩ = pure (ps.zip (v :: g ws))) :
    ∀ (s' : Shared) (a : Addr) (ws : List Value), K.In s'.heap → ws.length = ks.length → BindsTo s' fd ⟨[.ref a], ks.zip ws⟩ (ps.zip (.ref a :: g ws)) := by
  obtain ⟨oc, od, dV, kV, doc, pm, an, cdv, ct, osl, rfl, lk, hcd, hD, hK⟩ := F.ex
  rcases hD with ⟨_, rfl⟩ | ⟨e, _⟩
  · exact fun s' a ws _ hl => .of_eq (h kV doc pm an cdv ct (.ref a) ws hl)
  · exact absurd rfl e
/-- a class by its name: called with one value, or with it by its name -/
structure ErC (P : Program) (w : World) (K : Fr) (mg : Str → Option Value) (base : Heap) (x f : Str) (i : Nat) : Prop where
  c : EcC K (He.ga K x) (mAd x "__init__" K) [f] i
  m : mg x = some (.ref (He.ga K x))
  fn : ∃ fd, FnOk P w K mg base CX0 1 (mAd x "__init__" K) fd [("self" : Str), f] (spSet (He.ga K x) f) ∧ Binds K fd [("self" : Str), f] [] ∧
    ∀ (s' : Shared) (a : Addr) (ws : List Value), K.In s'.heap → ws.length = 1 → BindsTo s' fd ⟨[.ref a], List.zip [f] ws⟩ (List.zip [("self" : Str), f] (.ref a :: ws))
def tE1 (C : Addr) (f : Str) (t : TA) : TE := fun σ H Q => t σ H fun vs H1 => ∃ y, vs = [y] ∧ ∀ H' a, Same H1 H' → H1 a = none → VeAt H' a C [(f, y)] → Q (.ref a) H'
theorem set_same {H : Hp} {a dx C : Addr} {f : Str} {y : V} (na : H a = none) (nd : upd H a (exo a C none) dx = none) (ne : dx ≠ a) :
    Same H (upd (upd (upd H a (exo a C none)) dx (exd dx [(f, y)])) a (exo a C (some dx))) ∧ VeAt (upd (upd (upd H a (exo a C none)) dx (exd dx [(f, y)])) a (exo a C (some dx))) a C [(f, y)] := by
  rw [upd_ne ne] at nd
  refine ⟨fun b o e => ?_, dx, upd_same, ?_⟩
  · rw [upd_ne (ne_of_none e na), upd_ne (ne_of_none e nd), upd_ne (ne_of_none e na)]
    exact e
  · rw [upd_ne ne, upd_same]
theorem sp_set {H : Hp} {C a : Addr} {f : Str} {y : V} {Q : VK} (na : H a = none) (q : ∀ H' a, Same H H' → H a = none → VeAt H' a C [(f, y)] → Q (.ref a) H') :
    spSet C f [.ref a, y] (upd H a (exo a C none)) (fun v H2 => v = .non ∧ Q (.ref a) H2) E0 := by
  refine ⟨a, y, rfl, upd_same, fun dx nd ne => ⟨rfl, ?_⟩⟩
  obtain ⟨s, v⟩ := set_same (f := f) (y := y) na nd ne
  exact q _ a s na v
section
variable {X : Cx} {x f : Str} {i : Nat}
theorem pe_e1 {e : Expr} {t : TA} {p pos : Pos} (c : ErC X.prog X.w X.K X.mg X.base x f i) (hr : Room 2 X.A) (ha : PA X [e] t) (hg : Gl X x := by rfl)
    (hdb : (x == ("__debug__" : Str)) = false := by decide) (he : starEach [e] X.env = (false, eval e X.env) :: starEach [] X.env := by rfl) (hpl : (backTo pos (starEach [] X.env)).any (·.1) = false := by rfl) :
    PE X (.Call (.Name x p) [e] [] pos) (tE1 (He.ga X.K x) f t) := by
  obtain ⟨fd, F, b, _⟩ := c.fn
  refine ⟨fun pins s σ H Q I h => wpAny_Call_Name_kw (ld_glob I hg c.m ?_ hdb)⟩
  refine PySem.W.callWith_K (h₀ := X.base) I.ok.mod.kin c.c.v.kC (thn (ha.run pos pins s σ H _ I h) fun us s1 hu => ?_) he hpl
  obtain ⟨vs, H1, J, r, y, rfl, q⟩ := hu
  obtain ⟨u, rfl, ru⟩ := r.one
  refine ⟨J.kIn, run_ve (ks := []) (ws := []) (vl := fun a => [.ref a, y]) (al := fun a => [.ref a, u]) c.c.v c.c.iC c.c.tI F hr J (by show 1 ≤ sizeLine; decide) (fun s' a Y => ?_) (fun a => .cons rfl (.cons ru .nil)) fun a na => sp_set na q⟩
  exact b s' [.ref a, u] Y rfl
def tEK (C : Addr) (f : Str) (tk : TA) : TE := fun σ H Q => tk σ H fun zs H1 => ∃ y, zs = [y] ∧ ∀ H' a, Same H1 H' → H1 a = none → VeAt H' a C [(f, y)] → Q (.ref a) H'
theorem pe_eK {kws : List Keyword} {tk : TA} {p pos : Pos} (c : ErC X.prog X.w X.K X.mg X.base x f i) (hr : Room 2 X.A) (hk : PK X kws tk) (hg : Gl X x := by rfl)
    (hall : (backToKw pos (keywordEach kws X.env)).all (·.1.isSome) = true := by rfl) (hks : (backToKw pos (keywordEach kws X.env)).filterMap (·.1) = [f] := by rfl) (hdb : (x == ("__debug__" : Str)) = false := by decide)
    (hpl : ((backTo pos (starEach [] X.env)).any (·.1) || (backToKw pos (keywordEach kws X.env)).any (·.1.isNone)) = false := by rfl) : PE X (.Call (.Name x p) [] kws pos) (tEK (He.ga X.K x) f tk) := by
  obtain ⟨fd, F, _, b⟩ := c.fn
  refine ⟨fun pins s σ H Q I h => wpAny_Call_Name_kw (ld_glob I hg c.m ?_ hdb)⟩
  refine PySem.W.callWith_KW0 (h₀ := X.base) I.ok.mod.kin c.c.v.kC hall (thn (hk.run pos pins s σ H _ I h) fun ws s2 hu => ?_) hpl
  obtain ⟨zs, H2, J, rz, y, rfl, q⟩ := hu
  obtain ⟨u, rfl, ru⟩ := rz.one
  refine ⟨J.kIn, ?_⟩
  rw [hks]
  exact run_ve (us := []) (ws := [u]) (vl := fun a => [.ref a, y]) (al := fun a => [.ref a, u]) c.c.v c.c.iC c.c.tI F hr J (Nat.zero_le _) (fun s' a Y => b s' a [u] Y rfl) (fun a => .cons rfl (.cons ru .nil)) fun a na => sp_set na q
/-- C() -/
theorem pe_e0 {p pos : Pos} (c : EbC X.K (He.ga X.K x) i) (hm : X.mg x = some (.ref (He.ga X.K x))) (hg : Gl X x := by rfl) (hdb : (x == ("__debug__" : Str)) = false := by decide) :
    PE X (.Call (.Name x p) [] [] pos) (fun σ H Q => ∀ a, H a = none → Q (.ref a) (upd H a (ExO (.ref (He.ga X.K x)) a))) := by
  obtain ⟨B, n, ii, bm, F, q⟩ := c.e
  exact pe_ve0 F q hm c.kC hg hdb
end
/-! ### an error with two fields -/
def spSet2 (C : Addr) (f g : Str) : Sp := fun vs H Q _ => ∃ (a : Addr) (y z : V), vs = [.ref a, y, z] ∧ H a = some (exo a C none) ∧ ∀ dx, H dx = none → dx ≠ a → Q .non (upd (upd (upd H dx (exd dx [(f, y)])) a (exo a C (some dx))) dx (exd dx [(g, z), (f, y)]))
structure Er2C (P : Program) (w : World) (K : Fr) (mg : Str → Option Value) (base : Heap) (x f g : Str) (i : Nat) : Prop where
  c : EcC K (He.ga K x) (mAd x "__init__" K) [f, g] i
  m : mg x = some (.ref (He.ga K x))
  fn : ∃ fd, FnOk P w K mg base CX0 1 (mAd x "__init__" K) fd [("self" : Str), f, g] (spSet2 (He.ga K x) f g) ∧ Binds K fd [("self" : Str), f, g] [] ∧
    ∀ (s' : Shared) (a : Addr) (ws : List Value), K.In s'.heap → ws.length = 2 → BindsTo s' fd ⟨[.ref a], List.zip [g, f] ws⟩ (List.zip [("self" : Str), f, g] (.ref a :: ws.reverse))
theorem set2_same {H : Hp} {a dx C : Addr} {f g : Str} {y z : V} (na : H a = none) (nd : upd H a (exo a C none) dx = none) (ne : dx ≠ a) {G : Hp}
    (e : G = upd (upd (upd (upd H a (exo a C none)) dx (exd dx [(f, y)])) a (exo a C (some dx))) dx (exd dx [(g, z), (f, y)])) : Same H G ∧ VeAt G a C [(g, z), (f, y)] := by
  subst e
  rw [upd_ne ne] at nd
  refine ⟨fun b o e => ?_, dx, ?_, upd_same⟩
  · rw [upd_ne (ne_of_none e nd), upd_ne (ne_of_none e na), upd_ne (ne_of_none e nd), upd_ne (ne_of_none e na)]
    exact e
  · rw [upd_ne (Ne.symm ne), upd_same]
theorem sp_set2 {H : Hp} {C a : Addr} {f g : Str} {y z : V} {Q : VK} (na : H a = none) (q : ∀ H' a, Same H H' → H a = none → VeAt H' a C [(g, z), (f, y)] → Q (.ref a) H') :
    spSet2 C f g [.ref a, y, z] (upd H a (exo a C none)) (fun v H2 => v = .non ∧ Q (.ref a) H2) E0 := by
  refine ⟨a, y, z, rfl, upd_same, fun dx nd ne => ⟨rfl, ?_⟩⟩
  obtain ⟨s, v⟩ := set2_same (f := f) (g := g) (y := y) (z := z) na nd ne rfl
  exact q _ a s na v
section
variable {X : Cx} {x f g : Str} {i : Nat}
def tE2 (C : Addr) (f g : Str) (t : TA) : TE := fun σ H Q => t σ H fun vs H1 => ∃ y z, vs = [y, z] ∧ ∀ H' a, Same H1 H' → H1 a = none → VeAt H' a C [(g, z), (f, y)] → Q (.ref a) H'
theorem pe_e2 {e e2 : Expr} {t : TA} {p pos : Pos} (c : Er2C X.prog X.w X.K X.mg X.base x f g i) (hr : Room 2 X.A) (ha : PA X [e, e2] t) (hg : Gl X x := by rfl)
    (hdb : (x == ("__debug__" : Str)) = false := by decide) (he : starEach [e, e2] X.env = (false, eval e X.env) :: starEach [e2] X.env := by rfl) (hpl : (backTo pos (starEach [e2] X.env)).any (·.1) = false := by rfl) :
    PE X (.Call (.Name x p) [e, e2] [] pos) (tE2 (He.ga X.K x) f g t) := by
  obtain ⟨fd, F, b, _⟩ := c.fn
  refine ⟨fun pins s σ H Q I h => wpAny_Call_Name_kw (ld_glob I hg c.m ?_ hdb)⟩
  refine PySem.W.callWith_K (h₀ := X.base) I.ok.mod.kin c.c.v.kC (thn (ha.run pos pins s σ H _ I h) fun us s1 hu => ?_) he hpl
  obtain ⟨vs, H1, J, r, y, z, rfl, q⟩ := hu
  obtain ⟨u, u2, rfl, ru, ru2⟩ := vals2 r
  refine ⟨J.kIn, run_ve (ks := []) (ws := []) (vl := fun a => [.ref a, y, z]) (al := fun a => [.ref a, u, u2]) c.c.v c.c.iC c.c.tI F hr J (by show 2 ≤ sizeLine; decide) (fun s' a Y => ?_) (fun a => .cons rfl (.cons ru (.cons ru2 .nil))) fun a na => sp_set2 na q⟩
  exact b s' [.ref a, u, u2] Y rfl
def tE2K (C : Addr) (f g : Str) (tk : TA) : TE := fun σ H Q => tk σ H fun zs H1 => ∃ y z, zs = [z, y] ∧ ∀ H' a, Same H1 H' → H1 a = none → VeAt H' a C [(g, z), (f, y)] → Q (.ref a) H'
theorem pe_e2K {kws : List Keyword} {tk : TA} {p pos : Pos} (c : Er2C X.prog X.w X.K X.mg X.base x f g i) (hr : Room 2 X.A) (hk : PK X kws tk) (hg : Gl X x := by rfl)
    (hall : (backToKw pos (keywordEach kws X.env)).all (·.1.isSome) = true := by rfl) (hks : (backToKw pos (keywordEach kws X.env)).filterMap (·.1) = [g, f] := by rfl) (hdb : (x == ("__debug__" : Str)) = false := by decide)
    (hpl : ((backTo pos (starEach [] X.env)).any (·.1) || (backToKw pos (keywordEach kws X.env)).any (·.1.isNone)) = false := by rfl) : PE X (.Call (.Name x p) [] kws pos) (tE2K (He.ga X.K x) f g tk) := by
  obtain ⟨fd, F, _, b⟩ := c.fn
  refine ⟨fun pins s σ H Q I h => wpAny_Call_Name_kw (ld_glob I hg c.m ?_ hdb)⟩
  refine PySem.W.callWith_KW0 (h₀ := X.base) I.ok.mod.kin c.c.v.kC hall (thn (hk.run pos pins s σ H _ I h) fun ws s2 hu => ?_) hpl
  obtain ⟨zs, H2, J, rz, y, z, rfl, q⟩ := hu
  obtain ⟨u, u2, rfl, ru, ru2⟩ := vals2 rz
  refine ⟨J.kIn, ?_⟩
  rw [hks]
  exact run_ve (us := []) (ws := [u, u2]) (vl := fun a => [.ref a, y, z]) (al := fun a => [.ref a, u2, u]) c.c.v c.c.iC c.c.tI F hr J (Nat.zero_le _) (fun s' a Y => b s' a [u, u2] Y rfl) (fun a => .cons rfl (.cons ru2 (.cons ru .nil))) fun a na => sp_set2 na q
end
end Hk

/-! Where an exception is handled: walks over lists and texts, comprehensions. -/
namespace Hk
open PySem PySem.Spec PyProof.Rows L2 HotX L2H
section
variable {prog : Program} {w : World} {A : Around} {E : Value → Shared → Prop} {s : Shared}
theorem list_end_hot {it l x1 : Addr} {i : Nat} {items} {Q : Option Value → Shared → Prop} (hot : HotAt A x1 s.heap) (ne : x1 ≠ it)
    (hit : s.heap.IsListIter it l i) (hl : s.heap.IsList l items) (hx : items[i]? = none)
    (hQ : ∀ h', (∀ b o, b ≠ it → s.heap.get? b = some o → h'.get? b = some o) → Q none { s with heap := h' }) : wpAny (model prog w) A (pyNext (.ref it)) Q E s := by
  obtain ⟨o, ho, hc, hd⟩ := id hit
  obtain ⟨ol, hol, _, nl, hdl⟩ := hl
  obtain ⟨hh, o1, vs1, h1, d1, c1⟩ := hot
  unfold pyNext
  refine wpAny_bind (wpAny_attempt (wpAny_callSpecial?_slot (name := Str.ofString "__next__") hit.typeIs slot_listiter_next
    (wpAny_call_entry slot_listiter_next hit.typeIs entry_listiter_next ?_ (args_listiter_next _))))
  show wpAny _ _ (field (.ref it) 0 >>= _) _ _ s
  refine wpAny_bind (wpAny_field ho hd (x := .ref l) rfl ?_)
  show wpAny _ _ (if (Value.ref l == Value.none) = true then _ else _) _ _ s
  rw [if_neg (show ¬ ((Value.ref l == Value.none) = true) from Bool.false_ne_true)]
  show wpAny _ _ (field (.ref it) 1 >>= _) _ _ s
  refine wpAny_bind (wpAny_field ho hd (x := .int i 0) rfl ?_)
  show wpAny _ _ (seqItems? (.ref l) >>= _) _ _ s
  refine wpAny_bind (wpAny_seqItems hol hdl ?_)
  simp only [Int.toNat_natCast, hx]
  refine wpAny_bind (wpAny_rule (wpAny_bind (wpAny_setField ho hd (by simp) ?_)))
  show wpAny _ _ (newExc (.type "StopIteration") [] >>= _) _ _ _
  refine wpAny_bind ?_
  simp only [newExc, newTuple]
  refine wpAny_bind (wpAny_newObj_type ?_ (by size_fits))
  refine wpAny_bind (m := firstArgMember _ _) (wpAny_of_eq (a := Value.none) (by first | rfl | (simp only [firstArgMember]; rfl)) ?_)
  refine wpAny_newObj_type ?_ (by size_fits)
  have g1 := fun {f : Obj → Obj} => (Heap.get?_update_other s.heap f (Ne.symm ne)).trans h1
  refine raiseNew_hot ⟨hh, o1, vs1, Heap.get?_push_of_some _ (Heap.get?_push_of_some _ g1), d1, c1⟩ (Nat.ne_of_lt (Heap.lt_size (Heap.get?_push_of_some _ g1))) (Heap.get?_push_size _ rfl) rfl (by first | (simp; done) | (simp; omega) | decide) ?_
  refine wpAny_bind (wpAny_isInstance (T := "StopIteration") (b := true) ⟨_, Heap.get?_update_self _ (Heap.get?_push_size _ rfl) rfl, rfl⟩ isSubtype_stop ?_)
  refine wpAny_pure (hQ _ fun b o hb e => ?_)
  have g2 := fun {f : Obj → Obj} => (Heap.get?_update_other s.heap f (Ne.symm hb)).trans e
  rw [Heap.get?_update_other _ _ (Nat.ne_of_gt (Heap.lt_size (Heap.get?_push_of_some _ g2)))]
  exact Heap.get?_push_of_some _ (Heap.get?_push_of_some _ g2)
theorem ascii_end_hot {it x1 : Addr} {x : Str} {t : Tok} {i : Nat} {Q : Option Value → Shared → Prop} (hot : HotAt A x1 s.heap) (ne : x1 ≠ it)
    (hit : s.heap.IsStrIter it "str_ascii_iterator" x t i) (hx : x.cps[i]? = none)
    (hQ : ∀ h', (∀ b o, b ≠ it → s.heap.get? b = some o → h'.get? b = some o) → Q none { s with heap := h' }) : wpAny (model prog w) A (pyNext (.ref it)) Q E s := by
  obtain ⟨o, ho, hc, hd⟩ := id hit
  obtain ⟨hh, o1, vs1, h1, d1, c1⟩ := hot
  unfold pyNext
  refine wpAny_bind (wpAny_attempt (wpAny_callSpecial?_slot (name := Str.ofString "__next__") hit.typeIs F.slot_str_ascii_iterator_next
    (wpAny_call_entry F.slot_str_ascii_iterator_next hit.typeIs F.entry_str_ascii_iterator_next ?_ (F.args_str_ascii_iterator_next_1 _))))
  show wpAny _ _ (field (.ref it) 0 >>= _) _ _ s
  refine wpAny_bind (wpAny_field ho hd (x := .str x t) rfl ?_)
  show wpAny _ _ (field (.ref it) 1 >>= _) _ _ s
  refine wpAny_bind (wpAny_field ho hd (x := .int i 0) rfl ?_)
  simp only [Int.toNat_natCast, hx]
  refine wpAny_bind (wpAny_rule (wpAny_bind (wpAny_setField ho hd (by simp) (wpAny_bind (wpAny_letGo ?_)))))
  show wpAny _ _ (newExc (.type "StopIteration") [] >>= _) _ _ _
  refine wpAny_bind ?_
  simp only [newExc, newTuple]
  refine wpAny_bind (wpAny_newObj_type ?_ (by size_fits))
  refine wpAny_bind (m := firstArgMember _ _) (wpAny_of_eq (a := Value.none) (by first | rfl | (simp only [firstArgMember]; rfl)) ?_)
  refine wpAny_newObj_type ?_ (by size_fits)
  have g1 := fun {f : Obj → Obj} => (Heap.get?_update_other s.heap f (Ne.symm ne)).trans h1
  refine raiseNew_hot ⟨hh, o1, vs1, Heap.get?_push_of_some _ (Heap.get?_push_of_some _ g1), d1, c1⟩ (Nat.ne_of_lt (Heap.lt_size (Heap.get?_push_of_some _ g1))) (Heap.get?_push_size _ rfl) rfl (by first | (simp; done) | (simp; omega) | decide) ?_
  refine wpAny_bind (wpAny_isInstance (T := "StopIteration") (b := true) ⟨_, Heap.get?_update_self _ (Heap.get?_push_size _ rfl) rfl, rfl⟩ isSubtype_stop ?_)
  refine wpAny_pure (hQ _ fun b o hb e => ?_)
  have g2 := fun {f : Obj → Obj} => (Heap.get?_update_other s.heap f (Ne.symm hb)).trans e
  rw [Heap.get?_update_other _ _ (Nat.ne_of_gt (Heap.lt_size (Heap.get?_push_of_some _ g2)))]
  exact Heap.get?_push_of_some _ (Heap.get?_push_of_some _ g2)
end
/-- a context that holds what is handled, and is apart from the iterator -/
theorem hot_at {X : Cx} {pins : List (Addr × Obj)} {σ : L2.St} {H : Hp} {s : Shared} {it : Addr} (c : HotC X) (I : Inv X pins σ H s) (f : FpOk X pins H it) : ∃ x1, HotAt X.A x1 s.heap ∧ x1 ≠ it := by
  obtain ⟨p, ⟨hh, v1, e1, c1⟩, hp⟩ := c
  exact ⟨p.1, ⟨hh, p.2, v1, (I.pin p (List.mem_append_left _ hp)).1, e1, c1⟩, f.2.2.2.2.2 p (List.mem_append_left _ hp)⟩
theorem turn_listH {P : Program} {w : World} {K : Fr} {tg : Expr} (a it : Addr) : TurnH P w K tg (Itl K a) [it] it (fun i h => h.IsListIter it a i) where
  mem := by simp
  obj := (turn_list (P := P) (w := w) (K := K) (tg := tg) a it).obj
  keep := (turn_list (P := P) (w := w) (K := K) (tg := tg) a it).keep
  item := by
    intro X hP hw hK hc i pins s σ H E I hf st hg
    subst hP hw hK
    obtain ⟨xs, x, hq, hx⟩ := hg
    obtain ⟨its, rv, p, hz⟩ := I.list hq
    obtain ⟨u, hu, ru⟩ := rv.get hx
    obtain ⟨f0, f1, f2, f3, f4, f5⟩ := hf it (by simp)
    refine wpAny_pyNext_list_item st p.isList (x := u) (by simpa using hu) fun h' st' sb => ?_
    have I1 : Inv X pins σ H { s with heap := h' } := I.turned (t' := s.toks) (fun b o hb e => (sb.2 b hb).trans e) f0 f1 f3 f4 f5
    obtain ⟨o, e, c, d⟩ := id st'
    exact ⟨u, rfl, go_of (s := { s with heap := h' }) e c d (by decide) ⟨x, H, I1, ru, ⟨rfl, fun ys hy => by rw [I.list_inj hy hq]; exact hx⟩, st', fun b hb => (hf b hb).1⟩⟩
  done := by
    intro X hP hw hK hc i pins s σ H E I hf st hg
    subst hP hw hK
    obtain ⟨xs, hq, hx⟩ := hg
    obtain ⟨its, rv, p, hz⟩ := I.list hq
    have f := hf it (by simp)
    obtain ⟨x1, hot, ne⟩ := hot_at hc I f
    obtain ⟨f0, f1, f2, f3, f4, f5⟩ := f
    have hl := rv.length
    exact list_end_hot hot ne st p.isList (by simp; omega) fun h' eb => ⟨rfl, I.turned (t' := s.toks) (fun b o hb e => eb b o hb e) f0 f1 f3 f4 f5⟩
  self := fun _ _ _ _ _ st h => wpAny_pyIter_listiter st h
theorem turn_strH {P : Program} {w : World} {K : Fr} {tg : Expr} (it : Addr) (x : Str) (t : Tok) : TurnH P w K tg (Its x) [it] it (fun i h => h.IsStrIter it "str_ascii_iterator" x t i) where
  mem := by simp
  obj := (turn_str (P := P) (w := w) (K := K) (tg := tg) it x t _ (.inl rfl)).obj
  keep := (turn_str (P := P) (w := w) (K := K) (tg := tg) it x t _ (.inl rfl)).keep
  item := by
    intro X hP hw hK hc i pins s σ H E I hf st hg
    subst hP hw hK
    obtain ⟨f0, f1, f2, f3, f4, f5⟩ := hf it (by simp)
    have hg' : i < x.cps.size := hg
    refine wpAny_pyNext_ascii_item st (c := x.cps[i]) (by simp [hg']) fun h' st' sb => ?_
    have I1 : Inv X pins σ H { s with heap := h', toks := s.toks + 1 } := I.turned (fun b o hb e => (sb.2 b hb).trans e) f0 f1 f3 f4 f5
    obtain ⟨oi, e, cc, dd⟩ := id st'
    exact ⟨_, rfl, go_of (s := { s with heap := h', toks := s.toks + 1 }) e cc dd (by decide) ⟨.str ⟨#[x.cps[i]]⟩, H, I1, ⟨_, rfl⟩, ⟨rfl, _, by simp [hg'], rfl⟩, st', fun b hb => (hf b hb).1⟩⟩
  done := by
    intro X hP hw hK hc i pins s σ H E I hf st hg
    subst hP hw hK
    have f := hf it (by simp)
    obtain ⟨x1, hot, ne⟩ := hot_at hc I f
    obtain ⟨f0, f1, f2, f3, f4, f5⟩ := f
    exact ascii_end_hot hot ne st (Array.getElem?_eq_none hg) fun h' eb => ⟨rfl, I.turned (t' := s.toks) (fun b o hb e => eb b o hb e) f0 f1 f3 f4 f5⟩
  self := fun A i s Q E st h => wpAny_pyIter_striter_ascii st h
end Hk

namespace Hk
open PySem PySem.Spec PyProof.Rows L2 HotX L2H
/-! ### iterables where an exception is handled -/
theorem pie_hot {X : Cx} {tg : Expr} {pins : List (Addr × Obj)} {σ : L2.St} {H : Hp} {s : Shared} {R : It → Hp → Prop} {J : It} {tn : Nat → Heap → Prop} {tk : Nat} (I : Inv X pins σ H s) (o : Obj)
    (T : TurnH X.prog X.w X.K tg J [s.heap.objs.size] s.heap.objs.size tn) (st : tn 0 (s.heap.push o)) (q : R J H) : PIEH X pins σ tg R (.ref s.heap.objs.size) { s with heap := s.heap.push o, toks := tk } := by
  refine ⟨s.heap.objs.size, [s.heap.objs.size], tn, J, H, rfl, I.kept fun b ob e => Heap.get?_push_of_some _ e, T, st, fun b hb => ?_, q⟩
  have e : b = s.heap.objs.size := by simpa using hb
  subst e
  exact I.fpOk (Nat.le_refl _) (I.hok.fresh (Nat.le_refl _))
theorem pih_list {X : Cx} {tg l : Expr} {tl : TE} (hl : PE X l tl) : PIH X tg l (iList X.K tl) := by
  refine ⟨fun pins s σ H R I h => thn (hl.run pins s σ H _ I h) fun v s1 hv => ?_⟩
  obtain ⟨x, H1, I1, r1, a, rfl, ⟨xs, hq⟩, q⟩ := hv
  cases r1
  obtain ⟨its, rv, p, hz⟩ := I1.list hq
  exact wpAny_pyIter_list p.isList (pie_hot (tk := s1.toks) I1 _ (turn_listH a _) ⟨_, Heap.get?_push_size _ rfl, rfl, rfl⟩ q)
/-- a text of ASCII signs -/
def iStrA (te : TE) : TI := fun σ H R => te σ H fun v H1 => ∃ x, v = .str x ∧ x.cps.all (· < 128) = true ∧ R (Its x) H1
theorem pih_str {X : Cx} {tg e : Expr} {te : TE} (he : PE X e te) : PIH X tg e (iStrA te) := by
  refine ⟨fun pins s σ H R I h => thn (he.run pins s σ H _ I h) fun v s1 hv => ?_⟩
  obtain ⟨y, H1, I1, r1, x, rfl, ha, q⟩ := hv
  obtain ⟨t, rfl⟩ := r1
  exact wpAny_pyIter_ascii ha (pie_hot (tk := s1.toks) I1 _ (turn_strH _ x t) ⟨_, Heap.get?_push_size _ rfl, rfl, rfl⟩ q)
/-! ### a list comprehension there -/
/-- the context of its block, which keeps what is pinned -/
abbrev blkP (X : Cx) (s : Shared) (H : Hp) (scope : Scope) (cenv : Env) (fp : List Addr) : Cx := { X.blk s H scope cenv fp with pn := X.pn }
theorem blkP_start {X : Cx} {pins : List (Addr × Obj)} {σ : L2.St} {H : Hp} {s : Shared} {scope : Scope} {own : List (Str × Nat)} {fp : List Addr} (I : Inv X pins σ H s) (ok : BlkOk X.N X.env.scope scope own) (hN : X.N.Nodup) (hfp : ∀ b ∈ fp, FpOk X pins H b ∧ b < s.heap.objs.size) :
    Inv (blkP X s H scope (compEnvC scope (cellsFrom (s.heap.objs.size + 1) scope.names (cloFrom X.env.cells scope.names [])) s.heap.objs.size X.env) fp) [] (wipe σ (own.map (·.2))) H { s with heap := pushCells (s.heap.push { cls := .type "dict", data := .dict #[] }) scope.names } := by
  have J := block_start I ok hN hfp
  have k := J.ok
  refine ⟨⟨k.mod, k.kind, k.glob, k.blt, k.above, k.inj, k.has, k.cab, k.hd, k.frames, k.stk, k.exf, k.bs, k.bsz, k.noex, k.exfs, k.funs, k.frf⟩, J.os, J.bare, J.base, J.loc, J.cell, J.free, J.freeC, fun p hp => ?_, J.hok, J.len⟩
  have hp : p ∈ X.pn := by simpa using hp
  obtain ⟨g, n, nl, nf, nc⟩ := I.pin p (List.mem_append_left _ hp)
  refine ⟨pushCells_keeps _ _ _ _ (Heap.get?_push_of_some _ g), n, Nat.ne_of_lt (Heap.lt_size g), fun z => ?_, nc⟩
  rcases List.mem_cons.mp (I.stkSub _ z) with y | y
  · exact nl y
  · exact nf y
theorem pe_lcH {X : Cx} {elt tg iter : Expr} {ifs : List Expr} {scope : Scope} {own : List (Str × Nat)} {pos : Pos} {wi : TI} {g : TG} {tt : TT} {te : TE} (hc : HotC X) (hN : X.N.Nodup) (hi : PIH X tg iter wi) (ok : BlkOk X.N X.env.scope scope own)
    (hg : ∀ (s : Shared) (H : Hp) (C : Addr) (cl : List (Str × Addr)) (fp : List Addr), PG (blkP X s H scope (compEnvC scope cl C X.env) fp) tg g) (ht : ∀ (s : Shared) (H : Hp) (C : Addr) (cl : List (Str × Addr)) (fp : List Addr), PTs (blkP X s H scope (compEnvC scope cl C X.env) fp) ifs tt)
    (he : ∀ (s : Shared) (H : Hp) (C : Addr) (cl : List (Str × Addr)) (fp : List Addr), PE (blkP X s H scope (compEnvC scope cl C X.env) fp) elt te) (hs : ∀ x, foldedSetIterable iter X.env x = pure x := by intro _; rfl) :
    PE X (.ListComp elt [⟨tg, iter, ifs, 0⟩] scope pos) (tLc wi g tt te (own.map (·.2))) := by
  refine ⟨fun pins s σ H Q I h => ?_⟩
  rw [eval_ListComp]
  have hfree : ∀ y ∈ scope.names, y.2 = .free → ∃ c, X.env.cells.lookup y.1 = some c := fun y hy e => (ok.free y hy e).elim (fun k => I.ok.has _ (.inl k)) fun k => I.ok.has _ (.inr k)
  refine wpAny_comprehension_free rfl hs (closure_ok hfree) ok.kind (fun y hy e => by rw [ok.uniq y hy, e]) (thn (hi.run pins s σ H _ I h) fun xv s1 hx => thn hx fun itv s2 h2 => ?_)
  obtain ⟨it, fp, tn, J, H2, rfl, I2, T, st2, f2, q⟩ := h2
  refine wpAny_newObj_type (newEnv_comp ?_) (by show 0 ≤ sizeLine; decide)
  generalize hD : s2.heap.objs.size = D
  have hDn : H2 D = none := I2.hok.fresh (Nat.le_of_eq hD)
  obtain ⟨W, ⟨m0, w0⟩, turn⟩ := q D hDn
  generalize hs3 : ({ s2 with heap := s2.heap.push { cls := .type "list", data := .seq ([] : List Value).toArray } } : Shared) = s3
  have h3 : s3.heap = s2.heap.push { cls := .type "list", data := .seq ([] : List Value).toArray } := by rw [← hs3]
  have I3 : Inv X pins σ (upd H2 D (.lst [])) s3 := by
    rw [← hs3]
    refine I2.laid (t' := s2.toks) (fun b o e => Heap.get?_push_of_some _ e) (Nat.le_of_eq hD) ⟨Nat.zero_le _, [], 0, .nil, ?_⟩
    rw [← hD]
    exact Heap.get?_push_size _ rfl
  have f3 : ∀ b ∈ fp, FpOk X pins (upd H2 D (.lst [])) b ∧ b < s3.heap.objs.size := fun b hb => by
    obtain ⟨o, e, _⟩ := T.obj _ _ st2 b hb
    have lt := Heap.lt_size e
    refine ⟨⟨?_, (f2 b hb).2⟩, by rw [h3, Heap.size_push]; exact Nat.lt_succ_of_lt lt⟩
    rw [upd_ne (by rw [← hD]; exact Nat.ne_of_lt lt)]
    exact (f2 b hb).1
  have st3 : tn 0 s3.heap := T.keep _ _ _ st2 fun b _ o e => by rw [h3]; exact Heap.get?_push_of_some _ e
  have I4 := blkP_start I3 ok hN f3
  have pg := hg s3 (upd H2 D (.lst [])) s3.heap.objs.size (cellsFrom (s3.heap.objs.size + 1) scope.names (cloFrom X.env.cells scope.names [])) fp
  have pt := ht s3 (upd H2 D (.lst [])) s3.heap.objs.size (cellsFrom (s3.heap.objs.size + 1) scope.names (cloFrom X.env.cells scope.names [])) fp
  have pe := he s3 (upd H2 D (.lst [])) s3.heap.objs.size (cellsFrom (s3.heap.objs.size + 1) scope.names (cloFrom X.env.cells scope.names [])) fp
  have nfp : ∀ b ∈ fp, (upd H2 D (.lst [])) b = none := fun b hb => (f3 b hb).1.1
  have cL : (compEnvC scope (cellsFrom (s3.heap.objs.size + 1) scope.names (cloFrom X.env.cells scope.names [])) s3.heap.objs.size X.env).locals = s3.heap.objs.size := rfl
  have st4 : tn 0 (pushCells (s3.heap.push { cls := .type "dict", data := .dict #[] }) scope.names) := T.keep _ _ _ st3 fun b _ o e => pushCells_keeps _ _ _ _ (Heap.get?_push_of_some _ e)
  show codeAny _ _ (.compStart (.ListComp elt [⟨tg, iter, ifs, 0⟩] scope pos) 0 (.ref it) (.ref D) (compEnvC scope (cellsFrom (s3.heap.objs.size + 1) scope.names (cloFrom X.env.cells scope.names [])) s3.heap.objs.size X.env)) (compPost (model X.prog X.w) X.A X.xe none (EP X pins σ Q) (.ref D) s3.heap.objs.size) { s3 with heap := pushCells (s3.heap.push { cls := .type "dict", data := .dict #[] }) scope.names }
  generalize hce : compEnvC scope (cellsFrom (s3.heap.objs.size + 1) scope.names (cloFrom X.env.cells scope.names [])) s3.heap.objs.size X.env = ce at I4 pg pt pe cL ⊢
  generalize upd H2 D (.lst []) = H3 at I3 I4 pg pt pe w0 nfp f3
  have hcB : HotC (blkP X s3 H3 scope ce fp) := hc
  have stat : ∀ {σ' : L2.St} {H' : Hp} {s' : Shared}, Inv (blkP X s3 H3 scope ce fp) [] σ' H' s' → (∀ b ∈ fp, H' b = none) → ∀ b ∈ fp, FpOk (blkP X s3 H3 scope ce fp) [] H' b := fun {σ' H' s'} I' hn b hb =>
    ⟨hn b hb, (I'.ok.exf b hb).1, I'.ok.exfs b hb, .inl hb, fun x c e => (I'.ok.exf b hb).2 x c e, fun p hp => (f3 b hb).1.2.2.2.2.2 p (List.mem_append_left _ (by simpa using hp))⟩
  generalize hs4 : ({ s3 with heap := pushCells (s3.heap.push { cls := .type "dict", data := .dict #[] }) scope.names } : Shared) = s4 at I4 ⊢
  have st4' : tn 0 s4.heap := by rw [← hs4]; exact st4
  have run : codeAny (model X.prog X.w) X.A (.compLoop (.ListComp elt [⟨tg, iter, ifs, 0⟩] scope pos) 0 (.ref it) (.ref D) ce) (compPost (model X.prog X.w) X.A X.xe none (EP X pins σ Q) (.ref D) s3.heap.objs.size) s4 := by
    refine compLoop_any (fun n s' => ∃ i H', Inv (blkP X s3 H3 scope ce fp) [] (wipe σ (own.map (·.2))) H' s' ∧ tn i s'.heap ∧ (∀ b ∈ fp, H' b = none) ∧ W i n H') ?_ m0 ⟨0, H3, I4, st4', nfp, w0⟩
    rintro n s5 ⟨i, H5, I5, st5, n5, w5⟩
    rcases turn i n H5 w5 with ⟨stop, qq⟩ | ⟨go, Nx, hNx, step⟩
    · refine thnF (T.done (blkP X s3 H3 scope ce fp) rfl rfl rfl hcB i [] s5 _ H5 (fun _ _ => False) I5 (stat I5 n5) st5 stop) fun r s6 hr => ?_
      obtain ⟨rfl, I6⟩ := hr
      have I7 : Inv X pins σ H5 s6 := I3.call' (ch := fp) I6.os I6.base I6.hok I6.bare fun b hb => ⟨(f3 b hb).1.2.2.2.1, (f3 b hb).1.2.1, (f3 b hb).1.2.2.2.2.1, (f3 b hb).1.2.2.2.2.2⟩
      have nC : H5 s3.heap.objs.size = none := by
        have z : H5 ce.locals = none := I6.free
        rw [cL] at z
        exact z
      obtain ⟨m, hn, _⟩ := I6.loc
      have hn : s6.heap.Ns ce.locals m := hn
      rw [cL] at hn
      obtain ⟨c0, c1, c2, c3, c4, c5⟩ := I3.fpOk (Nat.le_refl _) nC
      exact ⟨m, hn, fun h'' sb => ⟨.ref D, H5, I7.turned (t' := s6.toks) (fun b o hb e => (sb.2 b hb).trans e) c0 c1 c3 c4 c5, rfl, qq⟩⟩
    · refine thnF (T.item (blkP X s3 H3 scope ce fp) rfl rfl rfl hcB i [] s5 _ H5 (fun _ _ => False) I5 (stat I5 n5) st5 go) fun r s6 hr => ?_
      obtain ⟨u, rfl, h6⟩ := hr
      refine thnF h6 fun _ s7 h7 => ?_
      obtain ⟨x, H7, I7, r7, y7, st7, n7⟩ := h7
      have P7 := I7.pinned (stat I7 n7) (T.obj _ _ st7)
      refine thnF (pg.run _ s7 _ H7 x u _ P7 r7 (step x H7 y7)) fun _ s8 h8 => ?_
      obtain ⟨σ8, H8, I8, hw8, q8⟩ := h8
      refine thnF (pt.run _ s8 σ8 H8 _ I8 q8) fun b s9 h9 => ?_
      obtain ⟨H9, I9, q9⟩ := h9
      have again : ∀ {s' : Shared} {H' : Hp}, Inv (blkP X s3 H3 scope ce fp) ([] ++ pinsAt fp s7.heap) σ8 H' s' → Nx H' → ∃ m, m < n ∧ ∃ i H', Inv (blkP X s3 H3 scope ce fp) [] (wipe σ (own.map (·.2))) H' s' ∧ tn i s'.heap ∧ (∀ b ∈ fp, H' b = none) ∧ W i m H' := fun {s' H'} I' nx => by
        obtain ⟨m', hm, w'⟩ := hNx H' nx
        have keepP : ∀ b ∈ fp, ∀ o, s7.heap.get? b = some o → s'.heap.get? b = some o ∧ H' b = none := fun b hb o e =>
          let z := I'.pin (b, o) (List.mem_append_right _ (List.mem_append_right _ (mem_pinsAt hb e)))
          ⟨z.1, z.2.1⟩
        refine ⟨m', hm, i + 1, H', (I'.unpinned (pins := [])).weak (by rw [← hw8, wipe_length]) (fun j v e => ?_), T.keep _ _ _ st7 fun b hb o e => (keepP b hb o e).1, fun b hb => ?_, w'⟩
        · rw [← hw8] at e
          exact (wipe_some e).1
        · obtain ⟨o, e, _⟩ := T.obj _ _ st7 b hb
          exact (keepP b hb o e).2
      cases b with
      | false =>
        simp only [Bool.false_eq_true, if_false] at q9 ⊢
        exact again I9 q9
      | true =>
        simp only [if_true] at q9 ⊢
        refine thnF (pe.run _ s9 σ8 H9 _ I9 q9) fun z s10 h10 => ?_
        obtain ⟨yv, H10, I10, r10, acc, hD10, hz10, nx⟩ := h10
        exact app_ok (X := blkP X s3 H3 scope ce fp) I10 hD10 hz10 r10 fun s11 I11 => again I11 nx
  exact codeAny_compStart_list run (T.self X.A 0 _ _ _ st4' run)
end Hk

namespace Hk
open PySem PySem.Spec PyProof.Rows L2 HotX L2H
/-! ### all, any of a list of truths there -/
theorem walks_list_hot {prog : Program} {w : World} {A : Around} (it ax x1 : Addr) (hne : ax ≠ it) (hx : x1 ≠ it) (items : Array Value) :
    Walks prog w A it [it, ax, x1] [it] items.size (fun i v => items[i]? = some v) (fun i h => h.IsListIter it ax i ∧ (h.IsList ax items ∧ HotAt A x1 h)) where
  sub := fun b hb => by simp at hb; simp [hb]
  frame := fun _ _ _ st hk => by
    obtain ⟨s1, s2, hh, o, vs, e, d, c⟩ := st
    exact ⟨s1.at fun o e => hk it (by simp) o e, s2.at fun o e => hk ax (by simp) o e, hh, o, vs, hk x1 (by simp) o e, d, c⟩
  item := fun i s Q E hi st hQ => by
    obtain ⟨s1, s2, hh, o, vs, e, d, c⟩ := st
    refine wpAny_pyNext_list_item s1 s2 (x := items[i]) (by simp [hi]) fun h' hit' hs' => ?_
    exact hQ _ h' s.toks (by simp [hi]) ⟨hit', s2.extBut hs'.extBut hne, hh, o, vs, hs'.extBut x1 o hx e, d, c⟩ fun b o hb e => hs'.extBut b o (fun h => hb (by simp [h])) e
  done := fun s Q E st hQ => list_end_hot st.2.2 hx st.1 st.2.1 (by simp) fun h' he' => hQ h' s.toks fun b o hb e => he' b o (fun h => hb (by simp [h])) e
  self := fun _ _ _ _ st hQ => wpAny_pyIter_listiter st.1 hQ
section
variable {X : Cx}
theorem cr_allH (hc : HotC X) : CallR X (.builtin "all") (rAll X.K) := by
  intro pins s σ H vs us Q I r h
  obtain ⟨a, bs, rfl, hs, q⟩ := h
  obtain ⟨its, rv, hl, _⟩ := I.list hs
  rw [Vals.ref1 r]
  have hb := rv.bls
  obtain ⟨x1, hh, o1, v1, e1, d1, c1⟩ := hc.at I
  refine call_all_walk (iter_any hl.isList fun s₂ e2 st hne => ?_)
  subst e2
  have lx : x1 < s.heap.objs.size := Heap.lt_size e1
  refine ⟨_, _, _, _, _, _, _, rfl, walks_list_hot (A := X.A.in1) _ a x1 hne (Nat.ne_of_lt lx) its.toArray, ⟨st.1, st.2, hh, o1, v1, Heap.get?_push_of_some _ e1, d1, c1⟩, truth_bools hb, fun h' tk hk => ?_⟩
  refine ⟨.bl _, H, I.kept fun b o eo => hk b o (fun hmem => ?_) (Heap.get?_push_of_some _ eo), ?_, q⟩
  · have z : b = s.heap.objs.size := by simpa using hmem
    exact absurd (z ▸ Heap.lt_size eo) (Nat.lt_irrefl _)
  · show Value.bool _ = Value.bool _
    rw [← L2.all_range, hb, List.size_toArray, List.length_map]
theorem cr_anyH (hc : HotC X) : CallR X (.builtin "any") (rAny X.K) := by
  intro pins s σ H vs us Q I r h
  obtain ⟨a, bs, rfl, hs, q⟩ := h
  obtain ⟨its, rv, hl, _⟩ := I.list hs
  rw [Vals.ref1 r]
  have hb := rv.bls
  obtain ⟨x1, hh, o1, v1, e1, d1, c1⟩ := hc.at I
  refine call_any_walk (iter_any hl.isList fun s₂ e2 st hne => ?_)
  subst e2
  have lx : x1 < s.heap.objs.size := Heap.lt_size e1
  refine ⟨_, _, _, _, _, _, _, rfl, walks_list_hot (A := X.A.in1) _ a x1 hne (Nat.ne_of_lt lx) its.toArray, ⟨st.1, st.2, hh, o1, v1, Heap.get?_push_of_some _ e1, d1, c1⟩, truth_bools hb, fun h' tk hk => ?_⟩
  refine ⟨.bl _, H, I.kept fun b o eo => hk b o (fun hmem => ?_) (Heap.get?_push_of_some _ eo), ?_, q⟩
  · have z : b = s.heap.objs.size := by simpa using hmem
    exact absurd (z ▸ Heap.lt_size eo) (Nat.lt_irrefl _)
  · show Value.bool _ = Value.bool _
    rw [← L2.any_range, hb, List.size_toArray, List.length_map]
end
/-! ### defs called there that let nothing out -/
section
variable {P : Program} {w : World} {K : Fr} {mg : Str → Option Value} {base : Heap}
theorem hotC_cx {CX : CXT} {N : List Str} {qual : Str} {scope : Scope} {f : Addr} {cd : Value} {A : Around} {outer : List Env} {s : Shared} {H : Hp} {E : XK} {p : Addr × Obj} (h : Hot1 A p) : HotC (cxH CX P w K mg base N qual scope f cd A outer s H E p) := ⟨p, h, List.mem_cons_self⟩
abbrev BodyH (P : Program) (w : World) (K : Fr) (mg : Str → Option Value) (base : Heap) (k : Nat) (d : Dx) (N ps : List Str) (sp : Sp) : Prop :=
  ∀ (cdv : Value) (A : Around) (outer : List Env) (s : Shared) (H : Hp) (vs : List V) (Q : VK) (E : XK) (p : Addr × Obj), Hot1 A p → RoomH k (A.deeper (envOfC d.ql (defScope d.st) s.heap.objs.size (d.ad K) cdv)) → sp vs H Q E →
      ∃ t, PSs (cxH CX0 P w K mg base N d.ql (defScope d.st) (d.ad K) cdv A outer s H E p) (defBody d.st) t ∧ t { nx := fun _ H' => Q .non H', rt := Q } (L2.start N vs) H
theorem okh_of {k : Nat} {d : Dx} {N ps : List Str} {sp : Sp} {fd : FuncData} (D : DAt K d fd) (S : FnScope N ps (defScope d.st)) (len : ∀ vs H Q E, sp vs H Q E → vs.length = ps.length) (hb : BodyH P w K mg base k d N ps sp) :
    FnH P w K mg base CX0 (k + 1) (d.ad K) fd ps sp := by
  obtain ⟨oc, od, dV, kV, doc, pm, an, cdv, ct, osl, rfl, lk, hcd, _, _⟩ := D.ex
  exact fn_ofH lk hcd S len fun A outer s H vs Q E p hot hr h => hb cdv A outer s H vs Q E p hot hr h
def CalH (P : Program) (w : World) (K : Fr) (mg : Str → Option Value) (base : Heap) (k : Nat) (x : Str) (ad : Addr) (ps : List Str) (sp : Sp) : Prop :=
  ∃ fd : FuncData, FnH P w K mg base CX0 k ad fd ps sp ∧ Binds K fd ps [] ∧ PySem.W.keepIn K (.ref ad) = true ∧ mg x = some (.ref ad)
theorem pe_ch {X : Cx} {k : Nat} {x : Str} {ad : Addr} {ps : List Str} {sp : Sp} {e : Expr} {es : List Expr} {t : TA} {p pos : Pos} (c : CalH X.prog X.w X.K X.mg X.base k x ad ps sp) (hr : RoomH k X.A) (hc : HotC X) (ha : PA X (e :: es) t) (hg : Gl X x := by rfl)
    (hdb : (x == ("__debug__" : Str)) = false := by decide) (he : starEach (e :: es) X.env = (false, eval e X.env) :: starEach es X.env := by rfl) (hpl : (backTo pos (starEach es X.env)).any (·.1) = false := by rfl) :
    PE X (.Call (.Name x p) (e :: es) [] pos) (tCallS sp (fun _ => E0) t) := by
  obtain ⟨fd, F, b, kp, m⟩ := c
  exact pe_callH F hr hc hg m kp b (fun σ _ _ _ _ _ _ z => (show False from z).elim) ha hdb he hpl
theorem calh_of {k : Nat} {d : Dx} {N ps : List Str} {sp : Sp} {x : Str} (D : ∃ fd, DAt K d fd) (hv : d.df = []) (S : FnScope N ps (defScope d.st)) (hm : mg x = some (.ref (d.ad K)))
    (hbi : ∀ (kV doc pm : Value) (an : Option Addr) (cdv ct : Value) (us : List Value), us.length = ps.length → bindArgs (PySem.W.fnOf d.nm d.ql (defArgs d.st) (defBody d.st) (defScope d.st) .none kV doc pm an cdv ct) ⟨us, []⟩ = pure (ps.zip us))
    (len : ∀ vs H Q E, sp vs H Q E → vs.length = ps.length) (hb : BodyH P w K mg base k d N ps sp) : CalH P w K mg base (k + 1) x (d.ad K) ps sp := by
  obtain ⟨fd, D⟩ := D
  have e : d.vs K = [] := by
    unfold Dx.vs
    rw [hv]
    rfl
  have D' : FunD K d.nm d.ql (defArgs d.st) (defBody d.st) (defScope d.st) [] [] (d.ad K) fd := by
    rw [← e]
    exact D
  exact ⟨fd, okh_of D S len hb, FunD.bindsN D' hbi, D.kp, hm⟩
end
/-! ### str and repr of own instances there -/
section
variable {X : Cx} {k : Nat} {C f : Addr} {fd : FuncData} {ps : List Str} {sp : Sp}
theorem own_runH {A' : Around} {pins : List (Addr × Obj)} {σ : L2.St} {H : Hp} {s : Shared} {Q : VK} {E' : Value → Shared → Prop} {us : List Value} {vs : List V} {p : Addr × Obj} (F : FnH X.prog X.w X.K X.mg X.base CX0 k f fd ps sp)
    (hr : RoomH k A') (hot : Hot1 A' p) (hp : p ∈ X.pn) (e0 : Env0 X.prog X.w X.K X.mg X.base A' X.stack s H) (hb : Binds X.K fd ps []) (I : Inv X pins σ H s) (r : Vals vs us) (h : sp vs H Q E0) : wpAny (model X.prog X.w) A' (call (.ref f) us) (EP X pins σ Q) E' s := by
  have ln : us.length = ps.length := r.length.symm.trans (F.len _ _ _ _ h)
  have bd : BindsTo s fd ⟨us, []⟩ (ps.zip us) := by
    have := hb s us I.kIn (by rw [List.append_nil]; exact ln)
    rwa [List.append_nil] at this
  obtain ⟨g1, g2, g3, g4, g5⟩ := I.pin p (List.mem_append_left _ hp)
  refine wpAny_call (codeAny_mono (F.run A' X.stack s H ⟨us, []⟩ us vs Q E0 p hr hot ⟨g1, g2, fun hm => (List.mem_cons.mp (I.stkSub p.1 hm)).elim g3 g4, g5⟩ e0 bd r h) fun z s' hq => ?_)
  rcases z with e | fl
  · exact (show False from hq).elim
  · cases fl with
    | ret u => exact I.after hq
    | _ => exact (show False from hq).elim
theorem call_strOH (O : Own X.K C "__str__" f) (F : FnH X.prog X.w X.K X.mg X.base CX0 k f fd ps sp) (hb : Binds X.K fd ps []) (hr : RoomH (k + 1) X.A) (hc : HotC X) : CallR X (.type "str") (rText C sp) := by
  intro pins s σ H xs us Q I r h
  obtain ⟨a, dx, fs, rfl, ha, q⟩ := h
  obtain ⟨u, rfl, ru⟩ := r.one
  cases (show u = Value.ref a from ru)
  obtain ⟨mA, M, _⟩ := ins_get I.hok ha
  obtain ⟨od, J, _⟩ := M.look
  obtain ⟨p, hot, hp⟩ := hc
  have r2 : RoomH k X.A.in1.in1 := ⟨by have := hr.dp; show X.A.depth + 3 * k + 5 < _; omega, by have := hr.un; show X.A.units + 1 + 1 + 16 * k + 200 < _; omega⟩
  refine PySem.W.kso_call (by have := hr.un; show X.A.units + 1 + 1 < _; omega) I.kIn J O.at_ O.fn (wpAny_mono (own_runH (vs := [.ref a]) F r2 hot hp I.env0.in1.in1 hb I (.cons rfl .nil) q) (fun v s' z => ?_) fun _ _ z => z)
  obtain ⟨z', H', I', rz, y, ey, qz⟩ := z
  subst ey
  obtain ⟨t, e⟩ := (show ∃ t, v = Value.str y t from rz)
  cases e
  exact ⟨.str y, H', I', ⟨t, rfl⟩, qz⟩
theorem call_reprOH (O : Own X.K C "__repr__" f) (F : FnH X.prog X.w X.K X.mg X.base CX0 k f fd ps sp) (hb : Binds X.K fd ps []) (hr : RoomH (k + 1) X.A) (hc : HotC X) : CallR X (.builtin "repr") (rText C sp) := by
  intro pins s σ H xs us Q I r h
  obtain ⟨a, dx, fs, rfl, ha, q⟩ := h
  obtain ⟨u, rfl, ru⟩ := r.one
  cases (show u = Value.ref a from ru)
  obtain ⟨mA, M, _⟩ := ins_get I.hok ha
  obtain ⟨od, J, _⟩ := M.look
  obtain ⟨p, hot, hp⟩ := hc
  have r2 : RoomH k X.A.in1 := ⟨by have := hr.dp; show X.A.depth + 3 * k + 5 < _; omega, by have := hr.un; show X.A.units + 1 + 16 * k + 200 < _; omega⟩
  obtain ⟨m, hF⟩ := I.fr
  refine PySem.W.repr_K (by have := hr.un; show X.A.units + 1 < _; omega) hF I.ok.mod.kin J O.at_ O.fn (wpAny_mono (own_runH (vs := [.ref a]) F r2 hot hp I.env0.in1 hb I (.cons rfl .nil) q) (fun v s' z => ?_) fun _ _ z => z)
  obtain ⟨z', H', I', rz, y, ey, qz⟩ := z
  subst ey
  obtain ⟨t, e⟩ := (show ∃ t, v = Value.str y t from rz)
  cases e
  exact ⟨.str y, H', I', ⟨t, rfl⟩, qz⟩
end
end Hk

namespace Hk
open PySem PySem.Spec PyProof.Rows L2 HotX L2H
section
variable {P : Program} {w : World} {K : Fr} {mg : Str → Option Value} {base : Heap}
theorem hotC_n {X : Cx} {p : Addr × Obj} (h : Hot1 X.A p) (m : p ∈ X.pn) : HotC X := ⟨p, h, m⟩
/-- as BodyH, the body letting nothing out -/
abbrev BodyHn (P : Program) (w : World) (K : Fr) (mg : Str → Option Value) (base : Heap) (k : Nat) (d : Dx) (N ps : List Str) (sp : Sp) : Prop :=
  ∀ (cdv : Value) (A : Around) (outer : List Env) (s : Shared) (H : Hp) (vs : List V) (Q : VK) (E : XK) (p : Addr × Obj), Hot1 A p → RoomH k (A.deeper (envOfC d.ql (defScope d.st) s.heap.objs.size (d.ad K) cdv)) → sp vs H Q E →
      ∃ t, PSs (cxH CX0 P w K mg base N d.ql (defScope d.st) (d.ad K) cdv A outer s H E p).nox (defBody d.st) t ∧ t { nx := fun _ H' => Q .non H', rt := Q } (L2.start N vs) H
theorem calh_n {k : Nat} {d : Dx} {N ps : List Str} {sp : Sp} {x : Str} (D : ∃ fd, DAt K d fd) (hv : d.df = []) (S : FnScope N ps (defScope d.st)) (hm : mg x = some (.ref (d.ad K)))
    (hbi : ∀ (kV doc pm : Value) (an : Option Addr) (cdv ct : Value) (us : List Value), us.length = ps.length → bindArgs (PySem.W.fnOf d.nm d.ql (defArgs d.st) (defBody d.st) (defScope d.st) .none kV doc pm an cdv ct) ⟨us, []⟩ = pure (ps.zip us))
    (len : ∀ vs H Q E, sp vs H Q E → vs.length = ps.length) (hb : BodyHn P w K mg base k d N ps sp) : CalH P w K mg base (k + 1) x (d.ad K) ps sp :=
  calh_of D hv S hm hbi len fun cdv A outer s H vs Q E p hot hr h => by
    obtain ⟨t, c, q⟩ := hb cdv A outer s H vs Q E p hot hr h
    exact ⟨t, c.nox, q⟩
theorem okh_n {k : Nat} {d : Dx} {N ps : List Str} {sp : Sp} {fd : FuncData} (D : DAt K d fd) (S : FnScope N ps (defScope d.st)) (len : ∀ vs H Q E, sp vs H Q E → vs.length = ps.length) (hb : BodyHn P w K mg base k d N ps sp) :
    FnH P w K mg base CX0 (k + 1) (d.ad K) fd ps sp :=
  okh_of D S len fun cdv A outer s H vs Q E p hot hr h => by
    obtain ⟨t, c, q⟩ := hb cdv A outer s H vs Q E p hot hr h
    exact ⟨t, c.nox, q⟩
end
theorem iteTd {c A B : Prop} [Decidable c] (hc : c) (h : A) : if decide c = true then A else B := by
  rw [decide_eq_true hc]
  exact iteT h
theorem iteFd {c A B : Prop} [Decidable c] (hc : ¬ c) (h : B) : if decide c = true then A else B := by
  rw [decide_eq_false hc]
  exact iteF h
theorem unH {k : Nat} {A : Around} (r : RoomH k A) : A.units + 64 < cLine := by have := r.un; omega
/-- both branches give one value -/
theorem if_te {b : Bool} {ta tb : TE} {σ : L2.St} {H : Hp} {Q : VK} (v : V) (hq : Q v H) (ha : b = true → ∀ Q' : VK, Q' v H → ta σ H Q') (hb : b = false → ∀ Q' : VK, Q' v H → tb σ H Q') : if b = true then ta σ H Q else tb σ H Q := by
  cases b with
  | true => exact iteT (ha rfl Q hq)
  | false => exact iteF (hb rfl Q hq)
theorem cutV_from1 (x : V) (xs : List V) : cutV (x :: xs) (some 1) none = xs := by
  unfold cutV
  have e1 : HT.sIx (x :: xs).length 0 (some 1) = 1 := by
    show (if (1 : Int) < 0 then ((1 : Int) + ((x :: xs).length : Int)).toNat else min (1 : Int).toNat (x :: xs).length) = 1
    rw [if_neg (by decide), List.length_cons]
    show min 1 _ = 1
    omega
  rw [e1]
  show (List.drop 1 (x :: xs)).take ((x :: xs).length - 1) = xs
  rw [List.drop_one, List.tail_cons, List.length_cons]
  exact List.take_of_length_le (by omega)
/-! ### comprehensions of a function of each item -/
theorem lc_fn {K : Fr} {a : Addr} {xs : List V} {i : Nat} {te : TE} {σ : L2.St} {H1 : Hp} {D : Addr} {Qd : Hp → Prop} (f : V → V) (nD : H1 D = none) (hl : SqL K H1 a xs) (hz : xs.length ≤ 100000)
    (hs : ∀ x ∈ xs, ∀ (H : Hp) (R : VK), Same H1 H → (∀ H', Same H H' → R (f x) H') → te ((σ.set i none).set i (some x)) H R)
    (hd : ∀ H, Same H1 H → H D = some (.lst (xs.map f)) → Qd H) :
    ∃ W : Nat → Nat → Hp → Prop, (∃ m, W 0 m (upd H1 D (.lst []))) ∧ ∀ j m H, W j m H →
      ((Itl K a).stop j H ∧ Qd H) ∨ ((Itl K a).go j H ∧ ∃ Nx : Hp → Prop, (∀ H', Nx H' → ∃ m', m' < m ∧ W (j + 1) m' H') ∧ ∀ x H', (Itl K a).yld j H x H' → gName i x (wipe σ [i]) H' fun σ2 H2 => wipe σ2 [i] = wipe σ [i] ∧ tYes σ2 H2 fun b H3 =>
        if b = true then te σ2 H3 fun y H4 => ∃ acc, H4 D = some (.lst acc) ∧ acc.length < sizeLine ∧ Nx (upd H4 D (.lst (acc ++ [y]))) else Nx H3) := by
  refine lc_list (xs := xs) (fun j H' => Same H1 H' ∧ H' D = some (.lst ((xs.take j).map f))) ⟨same_upd nD, upd_same⟩ (fun j H' _ h => h.1.seq hl) ?_ ?_
  · rintro j x H hx ⟨s1, hD⟩
    have hj := (List.getElem?_eq_some_iff.mp hx).1
    refine ⟨by show ((σ.set i none).set i (some x)).set i none = σ.set i none; rw [List.set_set, List.set_set], ?_⟩
    unfold tYes
    dsimp only
    rw [if_pos rfl]
    refine hs x (List.mem_of_getElem? hx) H _ s1 fun H' s2 => ⟨_, s2 _ _ hD, ?_, same_upd' (s1.trans s2) nD, ?_⟩
    · rw [List.length_map, List.length_take]
      have : (100000 : Nat) < sizeLine := by decide
      omega
    · rw [upd_same, List.take_add_one, hx, List.map_append]
      rfl
  · rintro H ⟨s1, hD⟩
    rw [List.take_length] at hD
    exact hd H s1 hD
theorem lc_fnS {z : Str} {i : Nat} {te : TE} {σ : L2.St} {H1 : Hp} {D : Addr} {Qd : Hp → Prop} (f : Nat → V) (nD : H1 D = none) (hz : z.cps.size ≤ 100000)
    (hs : ∀ c ∈ z.cps.toList, ∀ (H : Hp) (R : VK), Same H1 H → (∀ H', Same H H' → R (f c) H') → te ((σ.set i none).set i (some (.str ⟨#[c]⟩))) H R)
    (hd : ∀ H, Same H1 H → H D = some (.lst (z.cps.toList.map f)) → Qd H) :
    ∃ W : Nat → Nat → Hp → Prop, (∃ m, W 0 m (upd H1 D (.lst []))) ∧ ∀ j m H, W j m H →
      ((Its z).stop j H ∧ Qd H) ∨ ((Its z).go j H ∧ ∃ Nx : Hp → Prop, (∀ H', Nx H' → ∃ m', m' < m ∧ W (j + 1) m' H') ∧ ∀ x H', (Its z).yld j H x H' → gName i x (wipe σ [i]) H' fun σ2 H2 => wipe σ2 [i] = wipe σ [i] ∧ tYes σ2 H2 fun b H3 =>
        if b = true then te σ2 H3 fun y H4 => ∃ acc, H4 D = some (.lst acc) ∧ acc.length < sizeLine ∧ Nx (upd H4 D (.lst (acc ++ [y]))) else Nx H3) := by
  refine lc_it walk_str (fun j H' => Same H1 H' ∧ H' D = some (.lst ((z.cps.toList.take j).map f))) ⟨same_upd nD, upd_same⟩ (fun _ _ _ _ => trivial) ?_ ?_
  · rintro j x H H' hj ⟨s1, hD⟩ ⟨e, c, hc, ex⟩
    subst e ex
    have hx : z.cps.toList[j]? = some c := by rw [Array.getElem?_toList]; exact hc
    refine ⟨by show ((σ.set i none).set i (some _)).set i none = σ.set i none; rw [List.set_set, List.set_set], ?_⟩
    unfold tYes
    dsimp only
    rw [if_pos rfl]
    refine hs c (List.mem_of_getElem? hx) _ _ s1 fun H' s2 => ⟨_, s2 _ _ hD, ?_, same_upd' (s1.trans s2) nD, ?_⟩
    · rw [List.length_map, List.length_take]
      have : (100000 : Nat) < sizeLine := by decide
      omega
    · rw [upd_same, List.take_add_one, hx, List.map_append]
      rfl
  · rintro H ⟨s1, hD⟩
    have e : z.cps.toList.take z.cps.size = z.cps.toList := by
      rw [← Array.length_toList]
      exact List.take_length
    rw [e] at hD
    exact hd H s1 hD
end Hk

/-! Tuples taken apart where an exception is handled. -/
namespace Hk
open PySem PySem.Spec PyProof.Rows L2 HotX L2H
section
variable {prog : Program} {w : World} {A : Around} {E : Value → Shared → Prop} {s : Shared}
theorem tuple_end_hot {it t x1 : Addr} {i : Nat} {items} {Q : Option Value → Shared → Prop} (hot : HotAt A x1 s.heap) (ne : x1 ≠ it)
    (hit : IsTupIter s.heap it t i) (ht : IsTup s.heap t items) (hx : items[i]? = none)
    (hQ : ∀ h', (∀ b o, b ≠ it → s.heap.get? b = some o → h'.get? b = some o) → Q none { s with heap := h' }) : wpAny (model prog w) A (pyNext (.ref it)) Q E s := by
  obtain ⟨o, ho, hc, hd⟩ := id hit
  obtain ⟨ol, hol, _, nl, hdl⟩ := ht
  obtain ⟨hh, o1, vs1, h1, d1, c1⟩ := hot
  unfold pyNext
  refine wpAny_bind (wpAny_attempt (wpAny_callSpecial?_slot (name := Str.ofString "__next__") hit.typeIs slot_tupleiter_next
    (wpAny_call_entry slot_tupleiter_next hit.typeIs entry_tupleiter_next ?_ (args_tupleiter_next _))))
  show wpAny _ _ (field (.ref it) 0 >>= _) _ _ s
  refine wpAny_bind (wpAny_field ho hd (x := .ref t) rfl ?_)
  show wpAny _ _ (if (Value.ref t == Value.none) = true then _ else _) _ _ s
  rw [if_neg (show ¬ ((Value.ref t == Value.none) = true) from Bool.false_ne_true)]
  show wpAny _ _ (field (.ref it) 1 >>= _) _ _ s
  refine wpAny_bind (wpAny_field ho hd (x := .int i 0) rfl ?_)
  show wpAny _ _ (seqItems? (.ref t) >>= _) _ _ s
  refine wpAny_bind (wpAny_seqItems hol hdl ?_)
  simp only [Int.toNat_natCast, hx]
  refine wpAny_bind (wpAny_rule (wpAny_bind (wpAny_setField ho hd (by simp) ?_)))
  show wpAny _ _ (newExc (.type "StopIteration") [] >>= _) _ _ _
  refine wpAny_bind ?_
  simp only [newExc, newTuple]
  refine wpAny_bind (wpAny_newObj_type ?_ (by size_fits))
  refine wpAny_bind (m := firstArgMember _ _) (wpAny_of_eq (a := Value.none) (by first | rfl | (simp only [firstArgMember]; rfl)) ?_)
  refine wpAny_newObj_type ?_ (by size_fits)
  have g1 := fun {f : Obj → Obj} => (Heap.get?_update_other s.heap f (Ne.symm ne)).trans h1
  refine raiseNew_hot ⟨hh, o1, vs1, Heap.get?_push_of_some _ (Heap.get?_push_of_some _ g1), d1, c1⟩ (Nat.ne_of_lt (Heap.lt_size (Heap.get?_push_of_some _ g1))) (Heap.get?_push_size _ rfl) rfl (by first | (simp; done) | (simp; omega) | decide) ?_
  refine wpAny_bind (wpAny_isInstance (T := "StopIteration") (b := true) ⟨_, Heap.get?_update_self _ (Heap.get?_push_size _ rfl) rfl, rfl⟩ isSubtype_stop ?_)
  refine wpAny_pure (hQ _ fun b o hb e => ?_)
  have g2 := fun {f : Obj → Obj} => (Heap.get?_update_other s.heap f (Ne.symm hb)).trans e
  rw [Heap.get?_update_other _ _ (Nat.ne_of_gt (Heap.lt_size (Heap.get?_push_of_some _ g2)))]
  exact Heap.get?_push_of_some _ (Heap.get?_push_of_some _ g2)
theorem unpackItems_tupleH {x1 t : Addr} {items : Array Value} {Q : List Value → Shared → Prop} (hot : HotAt A x1 s.heap) (ht : IsTup s.heap t items)
    (hQ : ∀ h', Heap.ExtBut s.heap.objs.size s.heap h' → Q items.toList { s with heap := h' }) : wpAny (model prog w) A (unpackItems (.ref t) items.size none) Q E s := by
  have hlt : t ≠ s.heap.objs.size := by obtain ⟨o, ho, _⟩ := ht; exact Nat.ne_of_lt (Heap.lt_size ho)
  obtain ⟨hh, o1, vs1, h1, d1, c1⟩ := hot
  have hx1 : x1 ≠ s.heap.objs.size := Nat.ne_of_lt (Heap.lt_size h1)
  unfold unpackItems
  refine wpAny_bind ?_
  · unfold notIterableAtAll
    refine wpAny_bind (wpAny_specialOf ht.typeIs slot_tuple_iter.lookup ?_)
    refine wpAny_pure ?_
    simp only [Bool.false_eq_true, if_false]
    refine wpAny_bind (wpAny_holding (iter_tuple ht ?_))
    refine wpAny_bind (wpAny_holding (draw_tuple hlt items.size 0 _ _ ⟨_, Heap.get?_push_size _ rfl, rfl, rfl⟩ (ht.push _) (by omega) fun h₁ hit₁ hs₁ => ?_))
    have hall : List.take items.size (List.drop 0 items.toList) = items.toList := by
      rw [List.drop_zero]; exact List.take_of_length_le (by simp)
    rw [hall]
    rw [if_neg (by simp)]
    have ht₁ : IsTup h₁ t items := (ht.push _).extBut hs₁.extBut hlt
    have hg : h₁.get? x1 = some o1 := hs₁.extBut x1 o1 hx1 (Heap.get?_push_of_some _ h1)
    refine wpAny_bind (wpAny_holding (tuple_end_hot (x1 := x1) ⟨hh, o1, vs1, hg, d1, c1⟩ hx1 hit₁ ht₁ (by simp) fun h₂ he₂ => ?_))
    simp only [Option.isSome_none, Bool.false_eq_true, if_false]
    refine wpAny_pure (hQ h₂ fun b o hb e => he₂ b o hb (hs₁.extBut b o hb (Heap.get?_push_of_some _ e)))
theorem assign_Tuple_tupleH {env : Env} {elts : List Expr} {k1} {pos : Pos} {x1 t : Addr} {items : Array Value} {Q : Unit → Shared → Prop} (hot : HotAt A x1 s.heap) (ht : IsTup s.heap t items)
    (hn : (assignEach elts env).length = items.size) (hstar : (assignEach elts env).findIdx? (·.1) = none)
    (h : ∀ h', Heap.ExtBut s.heap.objs.size s.heap h' → wpAny (model prog w) A (assignInOrder ((assignEach elts env).map (·.2)) items.toList) Q E { s with heap := h' }) :
    wpAny (model prog w) A (assign (.Tuple elts k1 pos) env (.ref t)) Q E s := by
  rw [assign_Tuple]
  refine wpAny_bind (wpAny_standAt ?_)
  unfold unpack
  rw [hn, hstar]
  exact wpAny_bind (wpAny_holding (unpackItems_tupleH hot ht h))
end
section
variable {X : Cx}
theorem ps_parH {i j : Nat} {x y : Str} {a b : Expr} {ta : TA} {px py pt pos : Pos} {kt k2 pt2} (hc : HotC X) (hN : X.N.Nodup) (hi : X.N[i]? = some x) (hj : X.N[j]? = some y) (hij : i ≠ j)
    (hx : X.env.scope.names.lookup x = some .local) (hy : X.env.scope.names.lookup y = some .local) (ha : PA X [a, b] ta)
    (hw : swappedStores [.Tuple [.Name x px, .Name y py] kt pt] (.Tuple [a, b] k2 pt2) X.env = pure (some [x, y]))
    (hs : swapsWithSole [.Tuple [.Name x px, .Name y py] kt pt] (.Tuple [a, b] k2 pt2) pos.line X.env = pure false := by rfl) :
    PS X (.Assign [.Tuple [.Name x px, .Name y py] kt pt] (.Tuple [a, b] k2 pt2) pos) (tPar i j ta) := by
  refine ⟨fun pins s σ H D I h => ?_⟩
  rw [exec_Assign_arm]
  refine wpAny_bind (wpAny_standAt ?_)
  rw [hs]
  refine wpAny_bind (wpAny_pure ?_)
  rw [if_neg (by decide)]
  refine wpAny_bind (Tuple_ (thn (ha.run _ pins s σ H _ I h) fun us s1 ⟨vs, H1, I1, r1, q1⟩ => ?_))
  obtain ⟨v, w, e1, q1⟩ := q1
  subst e1
  obtain ⟨u1, u2, rfl, rv, rw'⟩ : ∃ u1 u2, us = [u1, u2] ∧ RelV v u1 ∧ RelV w u2 := by
    cases r1 with
    | cons p q =>
      cases q with
      | cons p' q' =>
        cases q'
        exact ⟨_, _, rfl, p, p'⟩
  refine wpAny_newObj_type ?_ (by show 2 ≤ sizeLine; decide)
  have I2 : Inv X pins σ H1 { s1 with heap := s1.heap.push { cls := .type "tuple", data := .seq [u1, u2].toArray } } := I1.kept (t' := s1.toks) fun b o e => Heap.get?_push_of_some _ e
  rw [hw]
  refine wpAny_bind (wpAny_pure ?_)
  obtain ⟨x1, hot⟩ := hc.at I2
  show wpAny (model X.prog X.w) X.A (do rule "assign.swapped-stores"; let items ← unpackItems (.ref s1.heap.objs.size) 2 none; assignInOrder [fun v => bindName X.env y v, fun v => bindName X.env x v] items.reverse; pure Flow.next) _ _ _
  refine wpAny_bind (wpAny_rule (wpAny_bind (unpackItems_tupleH (items := #[u1, u2]) hot (IsTup.new s1.heap _) fun h' hx' => ?_)))
  have I3 := I2.kept (h' := h') (t' := s1.toks) fun b o e => hx' b o (Nat.ne_of_lt (Heap.lt_size e)) e
  show wpAny _ _ (assignInOrder [fun v => bindName X.env y v, fun v => bindName X.env x v] [u2, u1] >>= fun _ => pure Flow.next) _ _ _
  refine wpAny_bind (assignInOrder_cons (wpAny_bindName (store_ok I3 hN hj (.inl hy) rw' (fun s2 I4 => ?_) (.inr hy))))
  refine assignInOrder_cons (wpAny_bindName (store_ok I4 hN hi (.inl hx) rv (fun s3 I5 => assignInOrder_nil (wpAny_pure ?_)) (.inr hx)))
  rw [List.set_comm _ _ (Ne.symm hij)] at I5
  exact ⟨_, H1, I5, q1⟩
end
end Hk

/-! Own exceptions made where nothing is handled, with their context known to be None; defs that raise such ones. -/
namespace Hk
open PySem PySem.Spec PyProof.Rows L2
theorem pmk_oexN {X : Cx} {CX : CXT} {x : Str} {e : Expr} {es : List Expr} {ta : TA} {p pos : Pos} {C fI : Addr} {k : Nat} {fd : FuncData} {ps : List Str} {sp : Sp} (T : OexC X.K C) (iC : PySem.W.findIn X.K (.ref C) "__init__" = some (some (.ref fI))) (tI : PySem.W.typeIn X.K (.ref fI) = some (.type "function"))
    (F1 : FnOk X.prog X.w X.K X.mg X.base CX k fI fd ps sp) (hr : Room (k + 1) X.A) (hb : Binds X.K fd ps []) (hx : Passes CX X (fun _ _ _ => False)) (hg : Gl X x) (hm : X.mg x = some (.ref C)) (ha : PA X (e :: es) ta)
    (hdb : (x == ("__debug__" : Str)) = false := by decide) (he : starEach (e :: es) X.env = (false, eval e X.env) :: starEach es X.env := by rfl) (hpl : (backTo pos (starEach es X.env)).any (·.1) = false := by rfl) :
    L2N.PMk X (.Call (.Name x p) (e :: es) [] pos) (tMkO C sp [] ta) := by
  intro pins s σ H Q I h
  obtain ⟨nm, q, N, bs, bm, sn, sub, ab, col, dd, k0, k1, k2, k3, k5, hC, hbm⟩ := T.cls
  refine wpAny_Call_Name_kw (ld_glob I hg hm ?_ hdb)
  refine PySem.W.callWith_K (h₀ := X.base) I.ok.mod.kin T.kC (thn (ha.run pos pins s σ H _ I h) fun us s1 ⟨vs, H1, I1, r1, hz, q1⟩ => ⟨I1.kIn, ?_⟩) he hpl
  show wpAny _ _ (call (.ref C) us) _ _ _
  obtain ⟨hp, g, dr, tk, os⟩ := s1
  have hsz : hp.objs.size ≤ hp.objs.size + 1 := Nat.le_succ _
  have hq := q1 (hp.objs.size + 1) (I1.hok.fresh hsz)
  rw [List.append_nil] at hq
  have kk : ∀ b o, hp.get? b = some o → ((hp.push (PySem.W.kdv_tup us)).push (PySem.HandSPX.excO C hp.objs.size)).get? b = some o := fun b o e => Heap.get?_push_of_some _ (Heap.get?_push_of_some _ e)
  have hget : ((hp.push (PySem.W.kdv_tup us)).push (PySem.HandSPX.excO C hp.objs.size)).get? (hp.objs.size + 1) = some (PySem.HandSPX.excO C hp.objs.size) := by heap_get
  have I2 : Inv X pins σ (upd H1 (hp.objs.size + 1) (exo (hp.objs.size + 1) C none)) ⟨(hp.push (PySem.W.kdv_tup us)).push (PySem.HandSPX.excO C hp.objs.size), g, dr, tk, os⟩ :=
    I1.laid (t' := tk) (a := hp.objs.size + 1) (o := exo (hp.objs.size + 1) C none) kk hsz (exo_ok hget)
  have r2 : Vals (V.ref (hp.objs.size + 1) :: vs) (Value.ref (hp.objs.size + 1) :: us) := .cons rfl r1
  have hl : (Value.ref (hp.objs.size + 1) :: us ++ []).length = ps.length := by
    rw [List.append_nil, ← r2.length, F1.len _ _ _ _ hq]
  have hus : us.length ≤ sizeLine := by
    rw [← Paired.length r1, sizeLine_eq]
    omega
  have b2 := hb _ (Value.ref (hp.objs.size + 1) :: us) I2.kIn hl
  rw [List.append_nil] at b2
  refine wpAny_call (PySem.HandSPX.call_own F.excBase_ValueError (fun Y => PySem.HandSPX.refsVE_contains Y bm hbm) (I1.kIn _ _ hC) (PySem.W.looks_findIn I1.kIn iC) (fun self => PySem.W.bind_fn I1.kIn self tI) hus
    (codeAny_mono (F1.run _ X.stack _ _ ⟨Value.ref (hp.objs.size + 1) :: us, []⟩ (Value.ref (hp.objs.size + 1) :: us) _ _ (fun _ _ _ => False) (hr.make C us []) (I2.env0.make C us []) b2 r2 hq) fun r s' hq' => ?_))
  cases r with
  | error er => exact hx pins σ _ _ er s' I2 hq'
  | ok fl =>
    cases fl with
    | ret u =>
      obtain ⟨v, H2, os2, bare2, un2, hok2, rv, ev, d, fs, ea, ed, hd1, q2⟩ := hq'
      subst ev
      obtain ⟨h2, g2, d2, t2, os'⟩ := s'
      obtain ⟨t0, G, J, kG, ge, hoe, na⟩ := mk_end0 (d2 := d2) (t2 := t2) I1 hsz kk un2 hok2 os2 bare2 ea ed hd1
      refine ⟨rv, ⟨hp.objs.size + 1, _, _, ⟨G, g2, d2, t2, os'⟩, _, .ref C, some d, rfl, J, kG, ge, hoe, ⟨rfl, rfl, fun vs hv => ?_⟩, rfl, rfl, na, rfl, bare2, raises_own T.exC T.tyC, q2⟩⟩
      cases hv
      rfl
    | next => exact False.elim hq'
    | brk => exact False.elim hq'
    | cont => exact False.elim hq'
/-! ### defs that raise (context None) -/
section
variable {P : Program} {w : World} {K : Fr} {mg : Str → Option Value} {base : Heap}
def CalN (P : Program) (w : World) (K : Fr) (mg : Str → Option Value) (base : Heap) (k : Nat) (x : Str) (ad : Addr) (ps : List Str) (sp : Sp) : Prop :=
  ∃ fd : FuncData, FnOk P w K mg base (L2N.CX P w) k ad fd ps sp ∧ Binds K fd ps [] ∧ PySem.W.keepIn K (.ref ad) = true ∧ mg x = some (.ref ad)
theorem pe_cn {X : Cx} {k : Nat} {x : Str} {ad : Addr} {ps : List Str} {sp : Sp} {W : WX} {e : Expr} {es : List Expr} {t : TA} {p pos : Pos} (c : CalN X.prog X.w X.K X.mg X.base k x ad ps sp) (tk : L2N.Takes X W) (hr : Room k X.A) (ha : PA X (e :: es) t) (hg : Gl X x := by rfl)
    (hdb : (x == ("__debug__" : Str)) = false := by decide) (he : starEach (e :: es) X.env = (false, eval e X.env) :: starEach es X.env := by rfl) (hpl : (backTo pos (starEach es X.env)).any (·.1) = false := by rfl) :
    PE X (.Call (.Name x p) (e :: es) [] pos) (tCallS sp (WE W) t) := by
  obtain ⟨fd, F, b, kp, m⟩ := c
  exact pe_callS F hr hg m kp b (fun σ => L2N.passAt tk σ) ha hdb he hpl
abbrev BodyN (P : Program) (w : World) (K : Fr) (mg : Str → Option Value) (base : Heap) (k : Nat) (d : Dx) (N ps : List Str) (sp : Sp) : Prop :=
  ∀ (cdv : Value) (A : Around) (outer : List Env) (s : Shared) (H : Hp) (vs : List V) (Q : VK) (E : XK), Room k (A.deeper (envOfC d.ql (defScope d.st) s.heap.objs.size (d.ad K) cdv)) → sp vs H Q E →
      ∃ t, PSs (cxOf (L2N.CX P w) P w K mg base N d.ql (defScope d.st) (d.ad K) cdv A outer s H E) (defBody d.st) t ∧ t { nx := fun _ H' => Q .non H', rt := Q } (start N vs) H
theorem okn_of {k : Nat} {d : Dx} {N ps : List Str} {sp : Sp} {fd : FuncData} (D : DAt K d fd) (S : FnScope N ps (defScope d.st)) (len : ∀ vs H Q E, sp vs H Q E → vs.length = ps.length) (hb : BodyN P w K mg base k d N ps sp) :
    FnOk P w K mg base (L2N.CX P w) (k + 1) (d.ad K) fd ps sp := FunD.ok D S len hb
end
end Hk

/-! A static method that may raise, called off its class by keyword or by position. -/
namespace Hk
open PySem PySem.Spec PyProof.Rows L2
def tStatKX (C : Addr) (sp : Sp) (E : L2.St → XK) (ta : TE) (tk : TA) : TE := fun σ H Q => ta σ H fun x H1 => x = .ref C ∧ tk σ H1 fun vs H2 => sp vs H2 Q (E σ)
section
variable {X : Cx} {CX : CXT} {E : L2.St → XK} {k : Nat} {C p g : Addr} {mc : Value} {m : Str} {fd : FuncData} {ps : List Str} {sp : Sp} {o : Expr} {kws : List Keyword} {e : Expr} {es : List Expr} {ta : TE} {tk : TA} {pos apos : Pos} {pl : Sem Bool}
theorem pe_statKX (he : PE X o ta) (S : Stat X.K C mc m p g) (F : FnOk X.prog X.w X.K X.mg X.base CX k g fd ps sp) (hr : Room k X.A) (hx : ∀ σ, PassesAt CX X σ (E σ))
    (hbk : ∀ (s : Shared) (ws : List Value), X.K.In s.heap → ws.length = ps.length → BindsTo s fd ⟨[], ps.zip ws⟩ (ps.zip ws)) (hk : PK X kws tk)
    (hall : (backToKw pos (keywordEach kws X.env)).all (·.1.isSome) = true := by rfl) (hks : (backToKw pos (keywordEach kws X.env)).filterMap (·.1) = ps := by rfl)
    (hpl : ((backTo pos (starEach [] X.env)).any (·.1) || (backToKw pos (keywordEach kws X.env)).any (·.1.isNone)) = false := by rfl)
    (ht : eval (.Call (.Attribute o m apos) [] kws pos) X.env = (do
      let ov ← eval o X.env
      standAt apos.atName
      let (f, first) ← holding [ov] (getMethod ov m pl)
      callWith pos f first (backTo pos (starEach [] X.env)) (backToKw pos (keywordEach kws X.env))) := by rfl) :
    PE X (.Call (.Attribute o m apos) [] kws pos) (tStatKX C sp E ta tk) := by
  refine ⟨fun pins s σ H Q I h => PySem.W.methodCall_KW (pl := pl) (thn (he.run pins s σ H _ I h) fun u s1 hu => ?_) ht⟩
  obtain ⟨x, H1, I1, rx, ex, q⟩ := hu
  subst ex
  obtain rfl : u = Value.ref C := rx
  obtain ⟨rest, hp⟩ := S.rc
  refine PySem.W.method_cls I1.kIn S.rd.ga (PySem.W.cls_bind I1.kIn S.rd.rd S.at_ (wpAny_call (PySem.W.sm_get (s := { s1 with toks := s1.toks + 1 }) I1.kIn hp (PySem.W.handed_on rfl ?_))))
  refine PySem.W.callWith_KW0 (h₀ := X.base) I1.ok.mod.kin S.kp hall (thn (hk.run pos pins _ σ H1 _ (I1.tok _) q) fun ws s2 hw => ?_) hpl
  obtain ⟨vs, H2, I2, rv, q2⟩ := hw
  have ln : ws.length = ps.length := rv.length.symm.trans (F.len _ _ _ _ q2)
  refine ⟨I2.kIn, ?_⟩
  rw [hks]
  refine wpAny_call (codeAny_mono (F.run X.A X.stack s2 H2 ⟨[], ps.zip ws⟩ ws vs Q (E σ) hr I2.env0 (hbk s2 ws I2.kIn ln) rv q2) fun z s' hq => ?_)
  rcases z with er | fl
  · exact hx σ pins H2 s2 er s' I2 hq
  · cases fl with
    | ret u => exact I2.after hq
    | _ => exact (show False from hq).elim
theorem pe_statP (he : PE X o ta) (S : Stat X.K C mc m p g) (F : FnOk X.prog X.w X.K X.mg X.base CX k g fd ps sp) (hr : Room k X.A) (hx : ∀ σ, PassesAt CX X σ (E σ))
    (hb : Binds X.K fd ps []) (ha : PA X (e :: es) tk)
    (hst : starEach (e :: es) X.env = (false, eval e X.env) :: starEach es X.env := by rfl) (hpl : (backTo pos (starEach es X.env)).any (·.1) = false := by rfl)
    (ht : eval (.Call (.Attribute o m apos) (e :: es) [] pos) X.env = (do
      let ov ← eval o X.env
      standAt apos.atName
      let (f, first) ← holding [ov] (getMethod ov m pl)
      callWith pos f first (backTo pos (starEach (e :: es) X.env)) (backToKw pos (keywordEach [] X.env))) := by rfl) :
    PE X (.Call (.Attribute o m apos) (e :: es) [] pos) (tStatKX C sp E ta tk) := by
  refine ⟨fun pins s σ H Q I h => PySem.W.methodCall_KW (pl := pl) (thn (he.run pins s σ H _ I h) fun u s1 hu => ?_) ht⟩
  obtain ⟨x, H1, I1, rx, ex, q⟩ := hu
  subst ex
  obtain rfl : u = Value.ref C := rx
  obtain ⟨rest, hp⟩ := S.rc
  refine PySem.W.method_cls I1.kIn S.rd.ga (PySem.W.cls_bind I1.kIn S.rd.rd S.at_ (wpAny_call (PySem.W.sm_get (s := { s1 with toks := s1.toks + 1 }) I1.kIn hp (PySem.W.handed_on rfl ?_))))
  refine PySem.W.callWith_K (h₀ := X.base) I1.ok.mod.kin S.kp (thn (ha.run pos pins _ σ H1 _ (I1.tok _) q) fun us s2 ⟨vs, H2, I2, r, q2⟩ => ⟨I2.kIn, ?_⟩) hst hpl
  exact run_fnS F hr hb (hx σ) I2 r q2
end
end Hk

/-! Own exceptions with one field: their __init__, raised where nothing is handled. -/
namespace Hk
open PySem PySem.Spec PyProof.Rows L2
theorem iteNSn {c A B : Prop} [Decidable c] (hc : ¬ c) (h : A) : if (!decide c) = true then A else B := by
  rw [decide_eq_false hc]
  exact iteT h
/-- __init__(self, f): self.f = f -/
def spXin (C : Addr) (f : Str) : Sp := fun vs H Q _ => ∃ (a : Addr) (y : V), vs = [.ref a, y] ∧ H a = some (exo a C none) ∧ ∀ dx, H dx = none → dx ≠ a → Q .non (upd (upd H dx (exd dx [(f, y)])) a (exo a C (some dx)))
theorem xin_mk {C : Addr} {f : Str} {H1 : Hp} {y : V} {Q : XK} (k : ∀ d, H1 d = none → Q (.ref C) (some d) (upd H1 d (.xd [(f, y)]))) : [y].length ≤ 1000 ∧ ∀ a, H1 a = none → spXin C f (.ref a :: ([y] ++ [])) (upd H1 a (exo a C none))
    (fun v H2 => v = .non ∧ ∃ (d : Addr) (fs : List (Str × V)), H2 a = some (exo a C (some d)) ∧ H2 d = some (exd d fs) ∧ H1 d = none ∧ Q (.ref C) (some d) (upd (del H2 a) d (.xd fs))) (fun _ _ _ => False) := by
  refine ⟨by show 1 ≤ 1000; decide, fun a na => ⟨a, y, rfl, upd_same, fun dx nd ne => ⟨rfl, dx, [(f, y)], upd_same, ?_, ?_, ?_⟩⟩⟩
  · rw [upd_ne ne, upd_same]
  · rw [upd_ne ne] at nd
    exact nd
  · have n1 : H1 dx = none := by
      rw [upd_ne ne] at nd
      exact nd
    have e : upd (del (upd (upd (upd H1 a (exo a C none)) dx (exd dx [(f, y)])) a (exo a C (some dx))) a) dx (.xd [(f, y)]) = upd H1 dx (.xd [(f, y)]) := by
      funext b
      by_cases h1 : b = dx
      · rw [h1, upd_same, upd_same]
      · rw [upd_ne h1, upd_ne h1]
        by_cases h2 : b = a
        · rw [h2, del_same, na]
        · rw [del_ne h2, upd_ne h2, upd_ne h1, upd_ne h2]
    rw [e]
    exact k dx n1
section
variable {P : Program} {w : World} {K : Fr} {mg : Str → Option Value} {base : Heap}
/-- a class over ValueError with one field -/
structure XrC (P : Program) (w : World) (K : Fr) (mg : Str → Option Value) (base : Heap) (x f : Str) : Prop where
  c : OexC K (He.ga K x)
  iC : PySem.W.findIn K (.ref (He.ga K x)) "__init__" = some (some (.ref (mAd x "__init__" K)))
  tI : PySem.W.typeIn K (.ref (mAd x "__init__" K)) = some (.type "function")
  m : mg x = some (.ref (He.ga K x))
  fn : ∃ fd, FnOk P w K mg base CX0 1 (mAd x "__init__" K) fd [("self" : Str), f] (spXin (He.ga K x) f) ∧ Binds K fd [("self" : Str), f] []
theorem xin_ok {d : Dx} {x f : Str} {fd : FuncData} (D : DAt K d fd) (S : FnScope [("self" : Str), f] [("self" : Str), f] (defScope d.st)) (T : OexC K (He.ga K x)) (hn : PySem.W.findIn K (.ref (He.ga K x)) f = some none)
    (hb : ∀ (cdv : Value) (A : Around) (outer : List Env) (s : Shared) (H : Hp) (E : XK), PSs (cxOf CX0 P w K mg base [("self" : Str), f] d.ql (defScope d.st) (d.ad K) cdv A outer s H E).nox (defBody d.st) (tSeq (tOst K f (tVar 0) (tVar 1)) tNext)) :
    FnOk P w K mg base CX0 1 (d.ad K) fd [("self" : Str), f] (spXin (He.ga K x) f) := by
  refine ok_of (N := [("self" : Str), f]) D S (fun vs H Q E h => ?_) (fun cdv A outer s H vs Q E hr h => ?_)
  · obtain ⟨a, y, rfl, _⟩ := h
    rfl
  · obtain ⟨a, y, rfl, ha, k⟩ := h
    exact ⟨_, hb cdv A outer s H E, y, rfl, .ref a, rfl, a, _, rfl, T, hn, .inl ⟨ha, fun dx n ne => k dx n ne⟩⟩
end
/-- raise C(e); at the end: xin_mk -/
def tRz (C : Addr) (f : Str) (W : WX) (ta : TA) : TS := fun _ σ H => tMkO C (spXin C f) [] ta σ H fun cls d H' => W cls d σ H'
section
variable {X : Cx} {x f : Str} {e : Expr} {es : List Expr} {ta : TA} {p pos pos' : Pos} {W : WX}
theorem ps_rz (c : XrC X.prog X.w X.K X.mg X.base x f) (hr : Room 2 X.A) (hg : Gl X x) (tk : L2N.Takes X W) (ha : PA X (e :: es) ta) (hc : X.calm = true := by rfl)
    (hdb : (x == ("__debug__" : Str)) = false := by decide) (he : starEach (e :: es) X.env = (false, eval e X.env) :: starEach es X.env := by rfl) (hpl : (backTo pos (starEach es X.env)).any (·.1) = false := by rfl) :
    PS X (.Raise (some (.Call (.Name x p) (e :: es) [] pos)) none pos') (tRz (He.ga X.K x) f W ta) := by
  obtain ⟨fd, F, b⟩ := c.fn
  exact L2N.ps_raise hc tk (pmk_oexN c.c c.iC c.tI F hr b pass0 hg c.m ha hdb he hpl)
end
end Hk

/-! repr of data wherever there is room; one of two rules. -/
namespace Hk
open PySem PySem.Spec PyProof.Rows L2 HotX L2H
section
variable {X : Cx}
theorem callr_or {f : Value} {r1 r2 : List V → Hp → VK → Prop} (h1 : CallR X f r1) (h2 : CallR X f r2) : CallR X f (fun xs H Q => r1 xs H Q ∨ r2 xs H Q) := by
  intro pins s σ H xs us Q I r h
  rcases h with h | h
  · exact h1 pins s σ H xs us Q I r h
  · exact h2 pins s σ H xs us Q I r h
theorem call_reprDU (hc : Calm X.A) (hu : X.A.units + 200 < cLine) : CallR X (.builtin "repr") (rRepr X.K) := by
  intro pins s σ H xs us Q I r h
  obtain ⟨x, d, rfl, hd, hs, hdp, hz, q⟩ := h
  obtain ⟨u, rfl, ru⟩ := r.one
  cases hd with
  | non =>
    cases ru
    rw [PyData.shown_none] at q
    exact PySem.P.repr_of_none ⟨.str _, H, I.tok _, ⟨_, rfl⟩, q⟩
  | bl b =>
    cases ru
    rw [PyData.shown_bool] at q
    refine PySem.P.repr_of_bool ⟨.str _, H, I.tok _, ⟨_, rfl⟩, ?_⟩
    cases b <;> exact q
  | int i =>
    obtain ⟨t, rfl⟩ := ru
    rw [PyData.shown_int] at q
    refine PySem.P.repr_of_int ?_ ⟨.str _, H, I.tok _, ⟨_, rfl⟩, q⟩
    simpa [PyData.showable] using hs
  | str y =>
    obtain ⟨t, rfl⟩ := ru
    rw [PyData.shown_str] at q hz
    exact PySem.P.repr_of_str ⟨.str _, H, I.tok _, ⟨_, rfl⟩, q⟩ hz
  | @lst a ys ds h1 h2 =>
    have e : u = Value.ref a := ru
    subst e
    have nd := Dp.noDict _ _ (Dp.lst h1 h2)
    obtain ⟨as, hr'⟩ := Dp.reads I (.list ds) _ _ (Dp.lst h1 h2) rfl
    refine PySem.repr_of_reads' hr' hs (fun z => by rw [nd] at z; exact nomatch z) hc ?_ (fun b o z => z) (fun h' u tk kp => ⟨.str _, H, I.kept kp, ⟨_, rfl⟩, q⟩) hz
    omega
  | @tup a ys ds h1 h2 =>
    have e : u = Value.ref a := ru
    subst e
    have nd := Dp.noDict _ _ (Dp.tup h1 h2)
    obtain ⟨as, hr'⟩ := Dp.reads I (.tuple ds) _ _ (Dp.tup h1 h2) rfl
    refine PySem.repr_of_reads' hr' hs (fun z => by rw [nd] at z; exact nomatch z) hc ?_ (fun b o z => z) (fun h' u tk kp => ⟨.str _, H, I.kept kp, ⟨_, rfl⟩, q⟩) hz
    omega
/-- repr of data or of an own instance -/
def rRp (K : Fr) (C : Addr) (sp : Sp) : List V → Hp → VK → Prop := fun xs H Q => rRepr K xs H Q ∨ rText C sp xs H Q
theorem takesN0 (X : Cx) : L2N.Takes X (fun _ _ _ _ => False) := fun _ _ ⟨_, _, _, _, _, _, _, _, _, _, _, _, _, _, _, _, w⟩ => w.elim
theorem hotC_suite {a : Addr} {oe : Obj} {cls : Value} {d : Option Addr} {pn : List (Addr × Obj)} (hz : L2N.Zn cls d oe) (hf : ∃ vs, oe.data = .fields vs) : HotC (X.suite a ((a, oe) :: pn)) := by
  obtain ⟨vs, hv⟩ := hf
  exact hotC_n (p := (a, oe)) ⟨rfl, vs, hv, hz.2.2 vs hv⟩ List.mem_cons_self
end
end Hk

/-! A try with clauses `except HEAD as n`, HEAD a class or a tuple of classes; contexts None. -/
namespace Hk
open PySem PySem.Spec PyProof.Rows L2 HotX L2H
theorem flying_keep {B h h' : Heap} {l : List Env} {e : Addr} {Z : Obj → Prop} (x : PySem.HandSPX.FlyingZ B l e Z h) (k : ∀ b o, h.get? b = some o → h'.get? b = some o) : PySem.HandSPX.FlyingZ B l e Z h' := by
  obtain ⟨x1, x2, x3, oe, vs, T, oT, ts, he, hz, hd, h1, hnT, hTe, hT, hdT, h3⟩ := x
  exact ⟨fun b o q => k b o (x1 b o q), x2, Heap.FunFrames.of_keeps (fun b o q _ => ⟨o, k b o q, rfl⟩) x3, oe, vs, T, oT, ts, k _ _ he, hz, hd, h1, hnT, hTe, k _ _ hT, hdT, h3⟩
/-- what a head answers of the class of what flies -/
def HeadIs (X : Cx) (te : Expr) (m : Value → Option Bool) : Prop :=
  ∀ (a : Addr) (oe : Obj) (pn : List (Addr × Obj)) (σ : L2.St) (H : Hp) (s : Shared) (b : Bool) (Q : Bool → Shared → Prop) (E : Value → Shared → Prop), Inv (X.suite a ((a, oe) :: pn)) [] σ H s → s.heap.get? a = some oe → m oe.cls = some b →
    (∀ (h' : Heap) (t' : Nat), (∀ b o, s.heap.get? b = some o → h'.get? b = some o) → Q b { s with heap := h', toks := t' }) →
    wpAny (model X.prog X.w) (X.A.mark (some (.ref a))) (eval te X.env) (fun c s1 => wpAny (model X.prog X.w) (X.A.mark (some (.ref a))) (excMatches (.ref a) c) Q E s1) E s
section
variable {X : Cx}
theorem head_name {x : Str} {c : Value} {np : Pos} (hc : Names X x c) : HeadIs X (.Name x np) (fun cls => PySem.W.exmOne X.K cls c) := by
  intro a oe pn σ H s b Q E I he hm q
  have LT : PySem.W.Looks (model X.prog X.w) s.heap (typeOf (.ref a)) oe.cls := fun A Q E s k q => wpAny_typeOf_ref (k _ _ he) q
  have LM := PySem.W.exm_one (M := model X.prog X.w) I.kIn LT hm
  have go : wpAny (model X.prog X.w) (X.A.mark (some (.ref a))) (excMatches (.ref a) c) Q E s := LM.here (q s.heap s.toks fun _ _ z => z)
  obtain ⟨hg, hdbg, hm' | ⟨hm', hv, hnn⟩⟩ := hc
  · exact ld_glob (X := X.suite a ((a, oe) :: pn)) I hg hm' go hdbg
  · exact ld_blt (X := X.suite a ((a, oe) :: pn)) I hg hm' hv go hnn hdbg
inductive HdsA (X : Cx) : List ExceptHandler → List ((Value → Option Bool) × Nat × (Addr → Value → Option Addr → TS)) → Prop
  | nil : HdsA X [] []
  | cons {te : Expr} {m : Value → Option Bool} {n : Str} {i : Nat} {ts : Addr → Value → Option Addr → TS} {b₀ : Stmt} {suite : List Stmt} {pos' : Pos} {hds : List ExceptHandler} {l : List ((Value → Option Bool) × Nat × (Addr → Value → Option Addr → TS))}
      (hd : HeadIs X te m) (hi : X.N[i]? = some n) (hln : X.env.kindOf n = some .local)
      (hsu : ∀ (a : Addr) (oe : Obj) (cls : Value) (d : Option Addr) (pn : List (Addr × Obj)), L2N.Zn cls d oe → (∃ vs, oe.data = .fields vs) → PSs (X.suite a ((a, oe) :: pn)) (b₀ :: suite) (ts a cls d)) (r : HdsA X hds l) :
      HdsA X (.ExceptHandler (some te) (some n) (b₀ :: suite) pos' :: hds) ((m, i, ts) :: l)
/-- what the clauses wish of an exception of the body -/
def wManyA (Wout : WX) (D : Ends) : List ((Value → Option Bool) × Nat × (Addr → Value → Option Addr → TS)) → WX
  | [] => Wout
  | (m, i, ts) :: r => fun cls d σ H => ∃ b, m cls = some b ∧ (b = true → ∀ a, H a = none → ts a cls d { nx := fun σ' H' => D.nx (σ'.set i none) H', rt := D.rt, bk := fun σ' H' => D.bk (σ'.set i none) H', ct := fun σ' H' => D.ct (σ'.set i none) H' } (σ.set i (some (.ref a))) H) ∧
      (b = false → wManyA Wout D r cls d σ H)
end
section
variable {X : Cx} {body : List Stmt} {h₀ : ExceptHandler} {hds : List ExceptHandler} {l : List ((Value → Option Bool) × Nat × (Addr → Value → Option Addr → TS))} {pos : Pos} {tb : WX → TS} {Wout : WX}
theorem ps_try_A (hs : X.stack = X.env :: X.outer) (hf : X.env.frame = some X.env.locals) (hN : X.N.Nodup) (tk : L2N.Takes X Wout)
    (hb : ∀ (W : WX) (pn : List (Addr × Obj)) (xe : Value → Shared → Prop), L2N.Takes (X.tr pn xe) W → PassesOwn (model X.prog X.w) X.A X.env xe → PSs (X.tr pn xe) body (tb W))
    (hh : HdsA X (h₀ :: hds) l) : PS X (.Try body (h₀ :: hds) [] [] pos) (fun D σ H => tb (wManyA Wout D l) D σ H) := by
  refine ⟨fun pins s σ H D I h => ?_⟩
  have ok := I.ok
  have hfr : X.A.frames = some (X.env :: X.outer) := by rw [ok.frames, hs]
  refine wpAny_Try_except ?_
  refine wpAny_mono ((hb (wManyA Wout D l) (X.pn ++ pins) (fun e s₁ => wpAny (model X.prog X.w) X.A (noteFrame e X.env) (fun _ s₂ => wpAny (model X.prog X.w) X.A (setFlight e none) (fun _ s₃ =>
    wpAny (model X.prog X.w) X.A (handleBy e X.env (h₀ :: hds)) (SP X pins D) X.xe s₃) X.xe s₂) X.xe s₁) (fun u s' xx => ?_) PassesOwn.looking).run [] s σ H D (I.toTry _) h) (fun f s1 hsp => ?_) (fun e s1 he => he)
  · obtain ⟨a, B, sI, pins', σ', H', cls, d, rfl, J', nb, up, sky, na, os, ag, w⟩ := xx
    have J : Inv X pins σ' H' sI := J'.ofTry ok
    have sky' : L2.Sky B (X.env :: X.outer) a (L2N.Zn cls d) X.env.locals s'.heap := by rw [← hs]; exact sky
    show wpAny (model X.prog X.w) X.A (noteFrame (.ref a) X.env) _ _ _
    refine L2N.Sky.land L2N.Zn.steady hfr hf sky' fun h3 fl3 up3 => ?_
    have notFr : ∀ {h : Heap} {o : Obj} {vs : Array Value}, h.FunFrames B (X.env :: X.outer) → h.get? a = some o → o.data = .fields vs → a ∉ frs (X.env :: X.outer) := fun {h o vs} ff e dd hm => by
      obtain ⟨_, o', e', hnf⟩ := ff.mem hm
      rw [e] at e'; cases e'
      exact hnf _ dd
    obtain ⟨oe3, vs3, he3, hz3, hd3⟩ := fl3.there
    have nfr := notFr fl3.2.2.1 he3 hd3
    have nL : a ≠ X.env.locals := fun z => nfr (List.mem_filterMap.mpr ⟨X.env, List.mem_cons_self, by rw [hf, z]⟩)
    have nF : a ∉ X.fs := fun hm => by
      obtain ⟨e, he, q⟩ := List.mem_filterMap.mp hm
      exact nfr (List.mem_filterMap.mpr ⟨e, List.mem_cons_of_mem _ he, q⟩)
    have go : ∀ {hds' : List ExceptHandler} {l' : List ((Value → Option Bool) × Nat × (Addr → Value → Option Addr → TS))}, HdsA X hds' l' → ∀ (hp : Heap) (tk' : Nat), PySem.HandSPX.FlyingZ B (X.env :: X.outer) a (L2N.Zn cls d) hp → s'.heap.UpToSlots hp → wManyA Wout D l' cls d σ' H' →
        wpAny (model X.prog X.w) X.A (handleBy (.ref a) X.env hds') (SP X pins D) X.xe { s' with heap := hp, toks := tk' } := by
      intro hds' l' hk
      induction hk with
      | nil =>
        intro hp tk' fl uph w
        refine wpAny_handleBy_nil ?_
        obtain ⟨k1, k2, k3, oe, vs, T, oT, ts', he, hz, hd, h1, hr⟩ := id fl
        unfold PySem.passOn
        refine wpAny_bind (wpAny_field he hd h1 ?_)
        rw [if_neg (show ¬ ((Value.ref T == Value.none) = true) from by simp)]
        have fin : wpAny (model X.prog X.w) X.A (setFlight (.ref a) X.env.frame) (fun _ s4 => wpAny (model X.prog X.w) X.A (throw (.ref a) : Sem Flow) (SP X pins D) X.xe s4) X.xe { s' with heap := hp, toks := tk' } := by
          rw [hf]
          refine HandSPX.setFlight_upZ (s := { s' with heap := hp, toks := tk' }) fl fun h4 hh4 up4 => wpAny_throw (tk _ _ ?_)
          exact ⟨a, B, sI, pins, σ', H', cls, d, rfl, J, nb, (up.trans uph).trans up4, .inr (.inr (by rw [hs]; exact hh4)), na, os, ag, w⟩
        first
          | exact wpAny_bind (wpAny_pure (wpAny_bind fin))
          | exact wpAny_bind fin
      | @cons te m n i ts b₀ suite pos' hds2 l2 hd hi hln hsu r ih =>
        intro hp tk' fl uph w
        obtain ⟨b, hb1, hyes, hno⟩ := w
        obtain ⟨oe5, vs5, he5, hz5, hd5⟩ := fl.there
        have J5 : Inv X pins σ' H' { s' with heap := hp, toks := tk' } := J.landed nb fl.1 (up.trans uph) os ag
        have S5 := J5.suite he5 hd5 na nL nF
        have hloc : Loc X.env.scope n := .inl hln
        refine wpAny_handleBy_cons (codeAny_handlers_test ?_) (by intro q; cases q)
        refine hd a oe5 (X.pn ++ pins) σ' H' _ b _ _ S5 he5 (by rw [hz5.1]; exact hb1) fun h6 t6 k6 => ?_
        have fl6 := flying_keep fl k6
        have up6 : s'.heap.UpToSlots h6 := uph.trans (Heap.UpToSlots.of_keeps k6)
        cases b with
        | true =>
          refine codeAny_handlers_suite_as ?_
          refine HandSPX.lands_againZ (s := { s' with heap := h6, toks := t6 }) fl6 fun h4 fl4 up4 => ?_
          have J4 : Inv X pins σ' H' { s' with heap := h4, toks := t6 } := J.landed nb fl4.1 ((up.trans up6).trans up4) os ag
          obtain ⟨oe4, vs4, he4, hz4, hd4⟩ := fl4.there
          have S4 := J4.suite he4 hd4 na nL nF
          refine store_ok (X := X.suite a ((a, oe4) :: (X.pn ++ pins))) (v := .ref a) S4 hN hi hloc rfl (fun s5 S5 => ?_) (.inr hln)
          refine wpAny_mono ((hsu a oe4 cls d (X.pn ++ pins) hz4 ⟨_, hd4⟩).run [] s5 _ H' _ S5 (hyes rfl a na)) (fun f s6 hsp => ?_) (fun _ _ z => False.elim z)
          have end_ : ∀ {σ6 : L2.St} {H6 : Hp} {Q : Shared → Prop}, Inv (X.suite a ((a, oe4) :: (X.pn ++ pins))) [] σ6 H6 s6 → (∀ s7, Inv X pins (σ6.set i none) H6 s7 → Q s7) →
              wpAny (model X.prog X.w) X.A (do bindName X.env n .none; unbindBehindTheSuite X.env n pos') (fun _ s7 => Q s7) X.xe s6 := fun {σ6 H6 Q} S6 hq => gone_ok (S6.unsuite ok) hN hi hln hq
          cases f with
          | next =>
            obtain ⟨σ6, H6, S6, q6⟩ := hsp
            exact end_ S6 fun s7 J7 => ⟨_, _, J7, q6⟩
          | brk =>
            obtain ⟨σ6, H6, S6, q6⟩ := hsp
            exact end_ S6 fun s7 J7 => ⟨_, _, J7, q6⟩
          | cont =>
            obtain ⟨σ6, H6, S6, q6⟩ := hsp
            exact end_ S6 fun s7 J7 => ⟨_, _, J7, q6⟩
          | ret u =>
            obtain ⟨v6, σ6, H6, S6, r6, q6⟩ := hsp
            exact end_ S6 fun s7 J7 => ⟨_, _, _, J7, r6, q6⟩
        | false =>
          show wpAny _ X.A (handleBy (.ref a) X.env hds2) _ _ _
          exact ih h6 t6 fl6 up6 (hno rfl)
    exact go hh h3 s'.toks fl3 up3 w
  · cases f with
    | next =>
      obtain ⟨σ', H', J', q⟩ := hsp
      exact wpAny_execs_nil ⟨σ', H', J'.ofTry ok, q⟩
    | brk =>
      obtain ⟨σ', H', J', q⟩ := hsp
      exact ⟨σ', H', J'.ofTry ok, q⟩
    | cont =>
      obtain ⟨σ', H', J', q⟩ := hsp
      exact ⟨σ', H', J'.ofTry ok, q⟩
    | ret u =>
      obtain ⟨v, σ', H', J', r, q⟩ := hsp
      exact ⟨v, σ', H', J'.ofTry ok, r, q⟩
end
end Hk

/-! A lambda without parameters given to a def of the law; what it lets out has the context None. Built on HandS.Lambda's readings. -/
namespace Hk
open PySem PySem.Spec PyProof.Rows L2 LamX
/-- the context of the lambda's body, its exceptions told by L2N -/
def lamCxN (X : Cx) (A : Around) (outer : List Env) (s : Shared) (H : Hp) (E : XK) (scope : Scope) (f c' : Addr) : Cx :=
  (lamCx X A outer s H E scope f c').wish fun e s' => wpAny (model X.prog X.w) (A.deeper (lamEnv X scope s.heap.objs.size f c')) (leaving (lamEnv X scope s.heap.objs.size f c') e) (fun _ s'' => L2N.CX X.prog X.w outer H s E e s'') (fun e' s'' => L2N.CX X.prog X.w outer H s E e' s'') s'
theorem takes_lam {X : Cx} {A : Around} {outer : List Env} {s : Shared} {H : Hp} {E : XK} {scope : Scope} {f c' : Addr} : L2N.Takes (lamCxN X A outer s H E scope f c') (fun cls d _ H => E cls d H) := L2N.takes_of rfl rfl rfl rfl
section
variable {X : Cx} {pins : List (Addr × Obj)} {σ : L2.St} {H : Hp} {s : Shared}
theorem pe_actN {CXg : CXT} {Eg : XK} {Ng : List Str} {qg : Str} {sg : Scope} {g f c' : Addr} {cdg pm ctv : Value} {params : Arguments} {body : Expr} {scope : Scope} {k i : Nat} {a : Str} {pn : List (Addr × Obj)} {xe : Value → Shared → Prop} {W : WX} {E : XK} {tb : TE} {p1 p2 : Pos}
    (I : Inv X pins σ H s) (L : LamS X.env.scope scope) (hf : s.heap.get? f = some (PySem.W.kla_obj "<lambda>" (X.env.qual ++ "<lambda>") params body scope (cloFrom X.env.cells scope.names []) pm c' ctv)) (hfn : H f = none) (hfr : f ∉ frs X.stack)
    (hbind : bindArgs (PySem.W.kla_fn "<lambda>" (X.env.qual ++ "<lambda>") params body scope (cloFrom X.env.cells scope.names []) pm (.ref c') ctv) ⟨[], []⟩ = pure [])
    (tk : L2N.Takes ((cxOf CXg X.prog X.w X.K X.mg X.base Ng qg sg g cdg X.A X.stack s H Eg).tr pn xe) W) (hW : ∀ cls d (σ' : L2.St) H', σ'.length = Ng.length → E cls d H' → W cls d σ' H') (hr : Room (k + 1) (X.A.deeper (envOfC qg sg s.heap.objs.size g cdg)))
    (hbody : ∀ (A : Around) (outer : List Env) (s : Shared) (H : Hp), Room k (A.deeper (lamEnv X scope s.heap.objs.size f c')) → PE (lamCxN X A outer s H E scope f c') body tb)
    (hN : Ng[i]? = some a) (hv : Vis sg a) (hd : (a == ("__debug__" : Str)) = false := by decide) (hcd : (a == ("__classdict__" : Str)) = false := by decide) :
    PE ((cxOf CXg X.prog X.w X.K X.mg X.base Ng qg sg g cdg X.A X.stack s H Eg).tr pn xe) (.Call (.Name a p1) [] [] p2)
      (fun σZ HZ Q => σZ[i]? = some (some (.ref f)) ∧ HZ c' = some (CodeO c' (X.env.qual ++ "<lambda>")) ∧ tb σ HZ Q) := by
  refine ⟨fun pinsZ sZ σZ HZ Q IZ h => ?_⟩
  obtain ⟨hs, hc, ht⟩ := h
  refine wpAny_Call_Name_kw (thn ((pe_var (pos := p1) (i := i) hN hv hd hcd).run pinsZ sZ σZ HZ (fun v H1 => v = .ref f ∧ H1 = HZ) IZ ⟨.ref f, hs, rfl, rfl⟩) fun u s1 ⟨v, H1, I1, r1, q1⟩ => ?_)
  obtain ⟨ev, eH⟩ := q1
  subst ev
  rw [eH] at I1
  obtain rfl : u = Value.ref f := r1
  have of1 := I1.base.keep f _ hf hfn hfr (fun z => nomatch (show f ∈ ([] : List Addr) from z))
  refine PySem.W.callWith_F0 ⟨_, _, _, _, of1⟩ ?_
  have un : Un (frs X.stack) [] H HZ s.heap s1.heap := I1.base
  obtain ⟨⟨oc, vs, t, hoc, hdc, hvc⟩, _, _⟩ := I1.hok c' _ hc
  have rc : codeAny (model X.prog X.w) (X.A.deeper (envOfC qg sg s.heap.objs.size g cdg)) (.call (.ref f) ⟨[], []⟩) (CR (L2N.CX X.prog X.w) (envOfC qg sg s.heap.objs.size g cdg :: X.stack) X.prog X.w HZ s1 Q E) s1 := by
    refine PySem.W.kla_callFunE hr.depth of1 rfl L.co L.gen rfl ⟨c', oc, vs, t, rfl, hoc, hdc, hvc⟩ ?_
    rw [hbind]
    refine wpAny_pure (wpAny_newFunctionEnv (fun y hy => (L.own y hy).2) (fun y hy => absurd hy (by simp)) (fun h₁ hns hsb => ⟨I1.nolimit.fresh _ hsb, ?_⟩) L.kind)
    show codeAny _ _ (.expr body (lamEnv X scope s1.heap.objs.size f c')) _ _
    have kp : ∀ b o, s1.heap.get? b = some o → h₁.get? b = some o := fun b o e => hsb.extBut b o (Nat.ne_of_lt (Heap.lt_size e)) (Heap.get?_push_of_some _ e)
    have J := (lam_start2 (E := E) (c' := c') (f := f) (tk := s1.toks + ([] : List (Str × Value)).length) I L I1.env0 hr.hd un hns kp).wish (fun e s' => wpAny (model X.prog X.w) ((X.A.deeper (envOfC qg sg s.heap.objs.size g cdg)).deeper (lamEnv X scope s1.heap.objs.size f c')) (leaving (lamEnv X scope s1.heap.objs.size f c') e) (fun _ s'' => L2N.CX X.prog X.w (envOfC qg sg s.heap.objs.size g cdg :: X.stack) HZ s1 E e s'') (fun e' s'' => L2N.CX X.prog X.w (envOfC qg sg s.heap.objs.size g cdg :: X.stack) HZ s1 E e' s'') s')
    refine PySem.W.kla_codeExpr (wpAny_mono ((hbody _ _ s1 HZ (hr.deeper _)).run [] _ _ HZ Q J ht) (fun v s' hq => ?_) fun e s' hq => hq)
    obtain ⟨w', H', J', rv, q⟩ := hq
    exact ⟨w', H', J'.os, J'.bare, J'.base, J'.hok, rv, q⟩
  have hx : ∀ (e : Value) (s' : Shared), L2N.CX X.prog X.w (envOfC qg sg s.heap.objs.size g cdg :: X.stack) HZ s1 E e s' → ((cxOf CXg X.prog X.w X.K X.mg X.base Ng qg sg g cdg X.A X.stack s H Eg).tr pn xe).xe e s' :=
    fun e s' c => tk e s' (L2N.XE.of_call I1 (fun cls d H' h => hW cls d σZ H' I1.len h) c)
  refine wpAny_call (codeAny_mono rc fun r s' hq => ?_)
  cases r with
  | error e => exact hx e s' hq
  | ok fl =>
    cases fl with
    | ret u => exact I1.after hq
    | next => exact False.elim hq
    | brk => exact False.elim hq
    | cont => exact False.elim hq
/-- the def that calls what it got, nothing let out -/
def GivesN (k : Nat) (X : Cx) (Ng : List Str) (x : Str) (sg : Scope) (g : Addr) (cdg : Value) (bg : List Stmt) (a : Str) (q : Str) (TT : (XK → Hp → VK → Prop) → Hp → VK → Prop) : Prop :=
  ∀ (f c' : Addr) (s : Shared) (H : Hp) (Q : VK) (tl : XK → Hp → VK → Prop),
    (∀ (W : WX) (pn : List (Addr × Obj)) (xe : Value → Shared → Prop) (E : XK) (p1 p2 : Pos), L2N.Takes ((cxOf CX0 X.prog X.w X.K X.mg X.base Ng x sg g cdg X.A X.stack s H E0).tr pn xe) W → (∀ cls d (σ' : L2.St) H', σ'.length = Ng.length → E cls d H' → W cls d σ' H') →
      PE ((cxOf CX0 X.prog X.w X.K X.mg X.base Ng x sg g cdg X.A X.stack s H E0).tr pn xe) (.Call (.Name a p1) [] [] p2) (fun σZ HZ Q => σZ[0]? = some (some (.ref f)) ∧ HZ c' = some (CodeO c' q) ∧ tl E HZ Q)) →
    Room (k + 1) (X.A.deeper (envOfC x sg s.heap.objs.size g cdg)) → H c' = some (CodeO c' q) → TT tl H Q →
    ∃ t, PSs (cxOf CX0 X.prog X.w X.K X.mg X.base Ng x sg g cdg X.A X.stack s H E0).nox bg t ∧ t { nx := fun _ H' => Q .non H', rt := Q } (L2.start Ng [.ref f]) H
/-- x(lambda: body) -/
theorem pe_lamN {T : List (Addr × Str)} {TT : (XK → Hp → VK → Prop) → Hp → VK → Prop} {x a : Str} {d : Dx} {fd : FuncData} {c P : Addr} {k : Nat} {Ng : List Str}
    {params : Arguments} {body : Expr} {scope : Scope} {t : XK → TE} {p lpos pos : Pos} (hg : Gl X x) (hm : X.mg x = some (.ref (d.ad X.K))) (D : DAt X.K d fd) (hv : d.df = []) (hq : d.ql = x) (hb : Binds X.K fd [a] []) (Sg : FnScope Ng [a] (defScope d.st)) (hNg : Ng[0]? = some a) (hva : Vis (defScope d.st) a)
    (hG : ∀ cdv : Value, GivesN k X Ng d.ql (defScope d.st) (d.ad X.K) cdv (defBody d.st) a (X.env.qual ++ "<lambda>") TT)
    (TB : TabB X.base X.mg c P) (hcode : X.env.code = .ref c) (hmT : (P, X.env.qual ++ "<lambda>") ∈ T) (hu : ∀ p ∈ T, p.1 = P → p.2 = X.env.qual ++ "<lambda>") (hr : Room (k + 2) X.A) (L : LamS X.env.scope scope) (hdef : defaultsOf params X.env = ([], []))
    (hbind : ∀ (q : Str) (cl : List (Str × Addr)) (pm cv ctv : Value), bindArgs (PySem.W.kla_fn "<lambda>" q params body scope cl pm cv ctv) ⟨[], []⟩ = pure [])
    (hbody : ∀ (A : Around) (outer : List Env) (s : Shared) (H : Hp) (E : XK) (f c' : Addr), Room k (A.deeper (lamEnv X scope s.heap.objs.size f c')) → PE (lamCxN X A outer s H E scope f c') body (t E))
    (hdb : (x == ("__debug__" : Str)) = false := by decide) (hd : (a == ("__debug__" : Str)) = false := by decide) (hcd : (a == ("__classdict__" : Str)) = false := by decide) :
    PE X (.Call (.Name x p) [.Lambda params body scope lpos] [] pos) (tLam T TT t) := by
  refine ⟨fun pins s σ H Q I h => ?_⟩
  obtain ⟨hT, h⟩ := h
  refine wpAny_Call_Name_kw (ld_glob I hg hm ?_ hdb)
  refine PySem.W.callWith_K (h₀ := X.base) I.ok.mod.kin D.kp ?_ (by rfl) (by rfl)
  show wpAny _ _ (spliced ((false, eval (.Lambda params body scope lpos) X.env) :: backTo pos (starEach [] X.env))) _ _ s
  refine Calls.spliced_cons (lam_make2 I TB hcode hmT hu hT hdef (L.has I.ok) fun f c' pm' ctv H1 s' I1 eN T1 hf hfn hfr hco => ?_)
  refine Calls.spliced_nil ⟨I1.kIn, ?_⟩
  obtain ⟨oc, od, dV, kV, doc, pm, an, cdv, ct, osl, rfl, lk, hcd', _, _⟩ := D.ex
  have rc : codeAny (model X.prog X.w) X.A (.call (.ref (d.ad X.K)) ⟨[.ref f], []⟩) (CR CX0 X.stack X.prog X.w H1 s' Q E0) s' := by
    refine run_ofS (N := Ng) (ps := [a]) (us := [.ref f]) (vs := [.ref f]) lk hcd' Sg hr I1.env0 (hb s' [.ref f] I1.kIn rfl) (.cons rfl .nil) rfl fun hr' => ?_
    obtain ⟨t', ht', hq'⟩ := hG cdv f c' s' H1 Q (fun E H' Q' => t E σ H' Q') (fun W pn xe E p1 p2 tk hW => pe_actN (i := 0) I1 L hf hfn hfr (hbind _ _ _ _ _) tk hW hr' (fun A outer s H hr2 => hbody A outer s H E f c' hr2) hNg hva hd hcd) hr' hco (h H1 eN T1)
    exact ⟨t', ht'.nox, hq'⟩
  refine wpAny_call (codeAny_mono rc fun r s2 hq => ?_)
  cases r with
  | error e => exact (show False from hq).elim
  | ok fl =>
    cases fl with
    | ret u => exact I1.after hq
    | next => exact False.elim hq
    | brk => exact False.elim hq
    | cont => exact False.elim hq
end
end Hk

/-! The law's end as in Hg, where the law makes lambdas: the tables of its code objects are tracked, too. -/
namespace Hk
open PySem PySem.Spec PyProof.Rows L2 LamX
section
variable {P : Program} {w : World} {K : Fr} {s : Shared} {a : Addr} {vs : List Value} {xs : List V}
/-- the script alone -/
theorem script_heap (KX : K.In s.heap) (hobj : s.heap.get? a = some { cls := .type "list", data := .seq vs.toArray }) (rv : Vals xs vs) (sz : vs.length ≤ sizeLine) (szn : xs.length ≤ sizeLine) :
    ∃ H : Hp, Only H ∧ SqL K H a xs ∧ HOk P w H s.heap ∧ (∀ b, H b ≠ none → b = a) ∧ (H a ≠ none → K.lookup a = none) := by
  cases hk : K.lookup a with
  | some ob =>
    have e := KX a ob hk
    rw [hobj] at e
    cases e
    refine ⟨fun _ => none, fun _ => .inl rfl, .inr ⟨_, vs.toArray, _, hk, rfl, rfl, rfl, ?_, ?_⟩, fun b u z => (nomatch z), fun b z => absurd rfl z, fun z => absurd rfl z⟩
    · rw [List.size_toArray]
      exact sz
    · simpa using rv
  | none =>
    have at_ : ∀ {b : Addr} {u : HO}, (if b = a then some (HO.frz { cls := .type "list", data := .seq vs.toArray } (.lst xs)) else none) = some u → b = a ∧ u = HO.frz { cls := .type "list", data := .seq vs.toArray } (.lst xs) := fun {b u} z => by
      by_cases hb : b = a
      · rw [if_pos hb] at z
        exact ⟨hb, (Option.some.inj z).symm⟩
      · rw [if_neg hb] at z
        exact nomatch z
    refine ⟨fun b => if b = a then some (.frz { cls := .type "list", data := .seq vs.toArray } (.lst xs)) else none, fun b => ?_, .inl (.inr ⟨_, if_pos rfl⟩), fun b u z => ?_, fun b z => ?_, fun _ => rfl⟩
    · by_cases hb : b = a
      · exact .inr ⟨_, _, if_pos hb⟩
      · exact .inl (if_neg hb)
    · obtain ⟨e1, e2⟩ := at_ z
      subst e1 e2
      exact ⟨hobj, szn, vs, _, rv, hobj⟩
    · by_cases hb : b = a
      · exact hb
      · exact absurd (if_neg hb) z
end
/-- H0, and an empty table at each of ts -/
def withTabs (H0 : Hp) (ts : List Addr) : Hp := fun b => if b ∈ ts then some (.tbl #[]) else H0 b
theorem wt_in {H0 : Hp} {ts : List Addr} {b : Addr} (h : b ∈ ts) : withTabs H0 ts b = some (.tbl #[]) := if_pos h
theorem wt_out {H0 : Hp} {ts : List Addr} {b : Addr} (h : b ∉ ts) : withTabs H0 ts b = H0 b := if_neg h
abbrev tab0 : Obj := { cls := .none, data := .fields #[] }
theorem end_gT {l : PySem.W.OpenLaw} {q : Program} {loose : List Str} {XP : (Str → Option Value) → Heap → Prop} {YP : World → Heap → Prop} {d : DefRec} {k : Nat} {x : Str} (hn : l.most = some 63) (hdf : d.params.defaults = []) (hr : Room k callerA)
    (F : ∀ (w : World) (mg : Str → Option Value) (fa : Addr) (h : Heap), YP w h → h.Ns mainGlobals mg → mg d.name = some (.ref fa) →
      ∃ (K : Fr) (fd : FuncData) (cs : List (Addr × Addr)) (sp : Sp), K.In h ∧ (∀ p ∈ cs, h.get? p.2 = some tab0) ∧ (∀ p ∈ cs, K.lookup p.2 = none) ∧ (∀ p ∈ cs, PySem.W.CodeHd h p.1 p.2) ∧
        (∀ (s : Shared) (u : Value), BindsTo s fd ⟨[u], []⟩ [(x, u)]) ∧
        (∀ (H : Hp) (a : Addr) (ns : List Int), ns.length ≤ 63 → (∀ n ∈ ns, Builtin.Int.intBits n ≤ 1048576) → (∀ p ∈ cs, H p.2 = some (.tbl #[])) → SqL K H a (ns.map V.int) → sp [.ref a] H (fun v _ => v = .bl true) E0) ∧
        ∀ base : Heap, K.In base → base.Ns mainGlobals mg → (∀ p ∈ cs, TabB base mg p.1 p.2) → FnG l.prog w K mg base k fa fd [x] sp) :
    PySem.W.WalkO q loose XP YP l.row.toRowW d [] (fun f vs => PySem.call f vs) := by
  refine Att.attach_callB hn hdf fun w s₀ s₁ mg mb fa o pm cd doc a vs ns G Y ho hd hcd hmg hobj hints hlen hbits hg => ?_
  obtain ⟨K, fd, cs, sp, KX, hT, nT, C, hbi, hsp, hF⟩ := F w mg fa _ Y G.T.g hmg
  have rv := vals_ints hints
  have sz : vs.length ≤ sizeLine := by
    have := hints.length
    have e : 63 ≤ sizeLine := by decide
    omega
  have szn : (ns.map V.int).length ≤ sizeLine := by
    rw [rv.length]
    exact sz
  obtain ⟨H0, hO, hS0, hok0, hA0, hK0⟩ := script_heap (P := l.prog) (w := w) KX hobj rv sz szn
  obtain ⟨ts, hts⟩ : ∃ ts, ts = cs.map (·.2) := ⟨_, rfl⟩
  have tIn : ∀ {p : Addr × Addr}, p ∈ cs → p.2 ∈ ts := fun {p} hp => by
    rw [hts]
    exact List.mem_map_of_mem hp
  have tOf : ∀ {b : Addr}, b ∈ ts → ∃ p ∈ cs, p.2 = b := fun {b} hb => by
    rw [hts] at hb
    exact List.mem_map.mp hb
  have tGet : ∀ {b : Addr}, b ∈ ts → s₁.heap.get? b = some tab0 := fun {b} hb => by
    obtain ⟨p, hp, rfl⟩ := tOf hb
    exact hT p hp
  have aOut : a ∉ ts := fun z => by
    have e := tGet z
    rw [hobj] at e
    exact nomatch congrArg Obj.data (Option.some.inj e)
  have hS : SqL K (withTabs H0 ts) a (ns.map V.int) := by
    have e := wt_out (H0 := H0) aOut
    rcases hS0 with (z | ⟨o1, z⟩) | z
    · exact .inl (.inl (e.trans z))
    · exact .inl (.inr ⟨o1, e.trans z⟩)
    · exact .inr z
  have hok : HOk l.prog w (withTabs H0 ts) s₁.heap := fun b u z => by
    by_cases hb : b ∈ ts
    · rw [wt_in hb] at z
      cases z
      exact tGet hb
    · rw [wt_out hb] at z
      rcases hO b with n | ⟨o1, ys, n⟩
      · rw [n] at z
        cases z
      · rw [n] at z
        cases z
        exact hok0 b _ n
  -- what is neither the script nor a table is not tracked
  have free : ∀ {b : Addr} {ob : Obj}, s₁.heap.get? b = some ob → ob ≠ { cls := .type "list", data := .seq vs.toArray } → ob ≠ tab0 → withTabs H0 ts b = none := fun {b ob} e n1 n2 => by
    by_cases hb : b ∈ ts
    · rw [tGet hb] at e
      exact absurd (Option.some.inj e).symm n2
    · rw [wt_out hb]
      cases z : H0 b with
      | none => rfl
      | some u =>
        have eb := hA0 b (by rw [z]; exact fun y => nomatch y)
        rw [eb, hobj] at e
        exact absurd (Option.some.inj e).symm n1
  have seen : ∀ {b : Addr} {ob : Obj}, s₁.heap.get? b = some ob → withTabs H0 ts b = none → (hidT s₁.heap (withTabs H0 ts)).get? b = some ob := fun e n => hidT_get e n
  have byData : ∀ {b : Addr} {ob : Obj}, s₁.heap.get? b = some ob → (∀ (v : Array Value) n, ob.data ≠ .seq v n) → ob.data ≠ .fields #[] → (hidT s₁.heap (withTabs H0 ts)).get? b = some ob := fun {b ob} e n1 n2 =>
    seen e (free e (fun z => n1 _ _ (congrArg Obj.data z)) fun z => n2 (congrArg Obj.data z))
  have ns_ : ∀ {b : Addr} {m : Str → Option Value}, s₁.heap.Ns b m → (hidT s₁.heap (withTabs H0 ts)).Ns b m := fun {b m} ⟨ob, es, ep, e, dd, r⟩ =>
    ⟨ob, es, ep, byData e (fun v n z => by rw [dd] at z; exact nomatch z) (fun z => by rw [dd] at z; exact nomatch z), dd, r⟩
  have K_ : K.In (hidT s₁.heap (withTabs H0 ts)) := fun b ob e => seen (KX b ob e) (by
    by_cases hb : b ∈ ts
    · obtain ⟨p, hp, rfl⟩ := tOf hb
      rw [nT p hp] at e
      cases e
    · rw [wt_out hb]
      cases z : H0 b with
      | none => rfl
      | some u =>
        have eb := hA0 b (by rw [z]; exact fun y => nomatch y)
        subst eb
        have := hK0 (by rw [z]; exact fun y => nomatch y)
        rw [this] at e
        cases e)
  have TB : ∀ p ∈ cs, TabB (hidT s₁.heap (withTabs H0 ts)) mg p.1 p.2 := fun p hp => by
    refine ⟨?_, ?_, fun z => ?_⟩
    · obtain ⟨oc, us, file, tf, flags, tg, inF, text, tt, e1, r1, r2, r3, rest⟩ := C p hp
      refine ⟨oc, us, file, tf, flags, tg, inF, text, tt, byData e1 (fun v n z => by rw [r2] at z; exact nomatch z) (fun z => ?_), r1, r2, r3, rest⟩
      rw [r2] at z
      cases z
      exact nomatch (show (none : Option Value) = _ from r3)
    · obtain ⟨bm, ob, b1, b2, b3, b4, b5, b6⟩ := G.T.bmain
      have other : ∀ {c : Addr} {oc : Obj}, s₁.heap.get? c = some oc → oc.data ≠ .plain → bm ≠ c := fun {c oc} e n z => by
        rw [z, e] at b3
        cases b3
        exact n b6
      obtain ⟨og, es, ep, eg, dg, _⟩ := G.T.g
      exact ⟨bm, ob, b1, b2, other eg (by rw [dg]; exact fun z => nomatch z), other (hT p hp) (fun z => nomatch z), byData b3 (fun v n z => by rw [b6] at z; exact nomatch z) (fun z => by rw [b6] at z; exact nomatch z), b4, b5, b6⟩
    · obtain ⟨og, es, ep, eg, dg, _⟩ := G.T.g
      have e := hT p hp
      rw [← z, eg] at e
      cases e
      exact nomatch dg
  obtain ⟨mc, l1, l2⟩ := G.T.nolimit
  have e0 : Env0 l.prog w K mg (hidT s₁.heap (withTabs H0 ts)) callerA [] s₁ (withTabs H0 ts) :=
    { frames := rfl, mod := ⟨K_, ns_ G.T.g, ⟨mb, ns_ G.T.b, G.T.builtins⟩, ⟨mc, ns_ l1, l2⟩⟩, bs := fun b ob e => of_hidT e, bsz := Nat.le_of_eq (hidT_size _ _), funs := trivial, frf := fun b hb => absurd hb (List.not_mem_nil), hok := hok, bare := .of_eq hg }
  refine codeAny_mono ((hF _ K_ (ns_ G.T.g) TB).run callerA [] s₁ (withTabs H0 ts) ⟨[.ref a], []⟩ [.ref a] [.ref a] (fun v _ => v = .bl true) hr rfl e0 (hbi s₁ (.ref a)) (.cons rfl .nil) (hsp _ a ns hlen hbits (fun p hp => wt_in (tIn hp)) hS)) fun r s' h => ?_
  cases r with
  | error e => exact (show False from h).elim
  | ok fl =>
    cases fl with
    | ret u =>
      obtain ⟨v, H', os, bare, un, hok', r', ev⟩ := h
      have ev' : v = .bl true := ev
      subst ev'
      cases r'
      have tab' : ∀ {b : Addr}, b ∈ ts → ∃ more : Array Value, s'.heap.get? b = some { cls := .none, data := .fields more } := fun {b} hb => by
        obtain ⟨more, z⟩ := un.tbls b #[] (wt_in hb)
        exact ⟨_, hok' b _ z⟩
      have keep : ∀ {b : Addr} {ob : Obj}, b ∉ ts → s₁.heap.get? b = some ob → s'.heap.get? b = some ob := fun {b ob} nb e => by
        rcases hO b with z | ⟨o1, ys, z⟩
        · exact un.keep b ob e (by rw [wt_out nb]; exact z) (List.not_mem_nil) (List.not_mem_nil)
        · have z1 : withTabs H0 ts b = some (.frz o1 (.lst ys)) := by rw [wt_out nb]; exact z
          obtain ⟨e1, _⟩ := hok b _ z1
          obtain ⟨e2, _⟩ := hok' b _ (un.frzs b o1 _ z1)
          rw [e] at e1
          cases e1
          exact e2
      refine ⟨rfl, ⟨fun b ob e => ?_, fun b ob e => ?_⟩, os, bare⟩
      · by_cases hb : b ∈ ts
        · obtain ⟨more, hm⟩ := tab' hb
          obtain ⟨p, hp, rfl⟩ := tOf hb
          rw [hT p hp] at e
          cases e
          exact .inr (.inl ⟨((C p hp).tab (hT p hp)).isCodeTable, rfl, #[], more, rfl, by rw [Array.empty_append]; exact hm⟩)
        · exact .inl (keep hb e)
      · by_cases hb : b ∈ ts
        · obtain ⟨more, hm⟩ := tab' hb
          exact ⟨_, hm⟩
        · exact ⟨ob, keep hb e⟩
    | _ => exact (show False from h).elim
end Hk

/-! A head that tells the tables of defs that make lambdas; the bodies of such defs. -/
namespace Hk
open PySem PySem.Spec PyProof.Rows L2 LamX
/-- a def's code object and its table -/
def cOf (d : Dx) (K : Fr) : Addr := match K.lookup (d.ad K) with
  | some ⟨_, _, .func g, _⟩ => (match g.code with | .ref c => c | _ => 0)
  | _ => 0
def pOf (d : Dx) (K : Fr) : Addr := He.tabOf K (cOf d K)
def tabOk (g : Addr → Option Obj) (K : Fr) (d : Dx) : Bool := PySem.W.codeHdIn K (cOf d K) (pOf d K) && (match g (pOf d K) with | some o => He.emptyTab o | none => false)
abbrev Al3 : Type := Al2 × Bool
def lookT0 (fa : List Tst) (fn ts : List Dx) (g : Addr → Option Obj) (K : Fr) : Al3 := (look fa fn K, ts.all fun d => tabOk g K d)
def lookT (n : Nat) (fa : List Tst) (fn ts : List Dx) (g : Addr → Option Obj) : Al3 := lookT0 fa fn ts g (He.frT g (cStatics :: He.asD g n))
/-- what such a head tells -/
structure SaysT (fa : List Tst) (fn ts : List Dx) (h : Heap) (K : Fr) : Prop where
  s : Says fa fn K
  hd : ∀ d ∈ ts, PySem.W.codeHdIn K (cOf d K) (pOf d K) = true
  out : ∀ d ∈ ts, K.lookup (pOf d K) = none
  empty : ∀ d ∈ ts, h.get? (pOf d K) = some tab0
theorem saysT_of {fa : List Tst} {fn ts : List Dx} {h : Heap} {n : Nat} (e : lookT n fa fn ts h.get? = (due fn, true)) : SaysT fa fn ts h (He.frT h.get? (cStatics :: He.asD h.get? n)) := by
  have e1 : look fa fn (He.frT h.get? (cStatics :: He.asD h.get? n)) = due fn := congrArg Prod.fst e
  have e2 : (ts.all fun d => tabOk h.get? (He.frT h.get? (cStatics :: He.asD h.get? n)) d) = true := congrArg Prod.snd e
  generalize hK : He.frT h.get? (cStatics :: He.asD h.get? n) = K at e1 e2 ⊢
  have key : ∀ d ∈ ts, PySem.W.codeHdIn K (cOf d K) (pOf d K) = true ∧ ∃ o, h.get? (pOf d K) = some o ∧ He.emptyTab o = true := fun d hd => by
    obtain ⟨h1, h2⟩ := He.ba (List.all_eq_true.mp e2 d hd)
    refine ⟨h1, ?_⟩
    cases q : h.get? (pOf d K) with
    | none =>
      rw [q] at h2
      exact nomatch h2
    | some o =>
      rw [q] at h2
      exact ⟨o, rfl, h2⟩
  refine ⟨e1, fun d hd => (key d hd).1, fun d hd => ?_, fun d hd => ?_⟩
  · obtain ⟨_, o, q, z⟩ := key d hd
    rw [← hK] at q ⊢
    exact He.frT_none q z
  · obtain ⟨_, o, q, z⟩ := key d hd
    rw [q, He.emptyTab_eq z]
def hookT (n : Nat) (fa : List Tst) (fn ts : List Dx) : PySem.W.Hook where
  α := Al3
  obs := fun s => lookT n fa fn ts s.heap.get?
  val := fun _ => (due fn, true)
  says := fun _ h => ∃ K : Fr, K.In h ∧ SaysT fa fn ts h K
  of := fun _ _ e => ⟨_, He.frT_in, saysT_of e⟩
  keeps := fun _ _ _ ⟨K, hK, c⟩ k => ⟨K, PySem.W.Frag.In.keeps hK k, ⟨c.s, c.hd, c.out, fun d hd => k _ _ (c.empty d hd)⟩⟩
theorem lookT_eq {n : Nat} {fa : List Tst} {fn ts : List Dx} {g : Addr → Option Obj} {s : Shared} (h : ∀ a, g a = s.heap.get? a) : lookT n fa fn ts g = (hookT n fa fn ts).obs s := by
  have e : g = s.heap.get? := funext h
  subst e
  rfl
/-- an exception's class without a def of its own -/
def tEx0 (x : Str) (bm : List Value) (n : String) : Tst := fun K => PySem.W.excIn K (He.ga K x) bm n && (PySem.W.keepIn K (.ref (He.ga K x)) && decide (PySem.W.typeIn K (.ref (He.ga K x)) = some (.type "type")))
/-! ### defs whose code object is known -/
section
variable {P : Program} {w : World} {K : Fr} {mg : Str → Option Value} {base : Heap}
theorem cOf_eq {d : Dx} {oc : Value} {od : Option Addr} {osl : Array (Option Value)} {g : FuncData} {q : Str} (lk : K.lookup (d.ad K) = some ⟨oc, od, .func g, osl⟩) (hc : PySem.W.codeIn K g.code q = true) : g.code = .ref (cOf d K) := by
  obtain ⟨c, e⟩ := He.codeIn_ref hc
  unfold cOf
  rw [lk]
  show g.code = .ref (match g.code with | .ref c => c | _ => 0)
  rw [e]
abbrev BodyGC (P : Program) (w : World) (K : Fr) (mg : Str → Option Value) (base : Heap) (k : Nat) (d : Dx) (N ps : List Str) (sp : Sp) : Prop :=
  ∀ (A : Around) (outer : List Env) (s : Shared) (H : Hp) (vs : List V) (Q : VK) (E : XK), Room k (A.deeper (envOfC d.ql (defScope d.st) s.heap.objs.size (d.ad K) (.ref (cOf d K)))) → Calm A → sp vs H Q E →
      ∃ t, PSs (cxOf CX0 P w K mg base N d.ql (defScope d.st) (d.ad K) (.ref (cOf d K)) A outer s H E).nox (defBody d.st) t ∧ t { nx := fun _ H' => Q .non H', rt := Q } (start N vs) H
theorem okg_c {k : Nat} {d : Dx} {N ps : List Str} {sp : Sp} {fd : FuncData} (D : DAt K d fd) (S : FnScope N ps (defScope d.st)) (len : ∀ vs H Q E, sp vs H Q E → vs.length = ps.length) (hb : BodyGC P w K mg base k d N ps sp) :
    FnG P w K mg base (k + 1) (d.ad K) fd ps sp := by
  obtain ⟨oc, od, dV, kV, doc, pm, an, cdv, ct, osl, rfl, lk, hcd, _, _⟩ := D.ex
  obtain rfl : cdv = .ref (cOf d K) := cOf_eq lk hcd
  refine ⟨len, fun A out s H args us vs Q hr hc e0 hbd r hsp => ?_⟩
  have old : ∀ b o, base.get? b = some o → s.heap.get? b = some o := fun b o z => (e0.bs b o z).1
  have KX : K.In s.heap := e0.mod.kin.keeps old
  have kd : ∀ y ∈ ps.zip us, (defScope d.st).names.lookup y.1 = some .local ∨ ((defScope d.st).names.lookup y.1 = some .cell ∧ ((cellsFrom (s.heap.objs.size + 1) (defScope d.st).names []).lookup y.1).isSome = true) := by
    rintro ⟨n, v⟩ hy
    have q := S.par n (List.of_mem_zip hy).1
    exact q.imp id fun q => ⟨q, PySem.W.cellsFrom_some _ _ _ (.inl q)⟩
  refine codeAny_call_function hr.depth (KX _ _ lk) rfl S.co S.gen rfl (PySem.W.codeRec_of KX hcd) (hbd _ _ _ _ ?_)
  refine wpAny_newFunctionEnv_cells S.kind kd fun env he s1 x => ?_
  subst he
  refine ⟨(e0.mod.nolimit.keeps old).keeps x.toInCall.keep, codeAny_func ?_⟩
  obtain ⟨t, ht, hq⟩ := hb A out s H vs Q E0 (hr.deeper _) hc hsp
  have I : Inv (cxOf CX0 P w K mg base N d.ql (defScope d.st) (d.ad K) (.ref (cOf d K)) A out s H E0) [] (start N vs) H s1 := inv_start S hr.hd e0 (len _ _ _ _ hsp) r x
  refine wpAny_mono (ht.nox.run [] s1 (start N vs) H _ I hq) (fun fl s' hs => ?_) fun e s' hs => hs
  cases fl with
  | next =>
    obtain ⟨σ', H', J, q⟩ := hs
    exact ⟨V.non, H', J.os, J.bare, J.base, J.hok, rfl, q⟩
  | ret u =>
    obtain ⟨v, σ', H', J, rv, q⟩ := hs
    exact ⟨v, H', J.os, J.bare, J.base, J.hok, rv, q⟩
  | brk =>
    obtain ⟨σ', H', J, q⟩ := hs
    exact False.elim q
  | cont =>
    obtain ⟨σ', H', J, q⟩ := hs
    exact False.elim q
theorem calg_c {k : Nat} {d : Dx} {N ps : List Str} {sp : Sp} {x : Str} (D : ∃ fd, DAt K d fd) (hv : d.df = []) (S : FnScope N ps (defScope d.st)) (hm : mg x = some (.ref (d.ad K)))
    (hbi : ∀ (kV doc pm : Value) (an : Option Addr) (cdv ct : Value) (us : List Value), us.length = ps.length → bindArgs (PySem.W.fnOf d.nm d.ql (defArgs d.st) (defBody d.st) (defScope d.st) .none kV doc pm an cdv ct) ⟨us, []⟩ = pure (ps.zip us))
    (len : ∀ vs H Q E, sp vs H Q E → vs.length = ps.length) (hb : BodyGC P w K mg base k d N ps sp) : CalG P w K mg base (k + 1) x (d.ad K) ps sp := by
  obtain ⟨fd, D⟩ := D
  have e : d.vs K = [] := by
    unfold Dx.vs
    rw [hv]
    rfl
  have D' : FunD K d.nm d.ql (defArgs d.st) (defBody d.st) (defScope d.st) [] [] (d.ad K) fd := by
    rw [← e]
    exact D
  exact ⟨fd, okg_c D S len hb, FunD.bindsN D' hbi, D.kp, hm⟩
end
end Hk

/-! Own classes above one another: a def of the class called off it, constants, properties, texts and comparisons of instances whatever their class is; max with a default. -/
namespace Hk
open PySem PySem.Spec PyProof.Rows L2
/-- m is a def of the class at C -/
structure Unb (K : Fr) (C : Addr) (mc : Value) (m : Str) (g : Addr) : Prop where
  rd : ClX.CRead K C mc
  at_ : PySem.W.findCls K (.ref C) mc m = some (.val (.ref g))
  kp : PySem.W.keepIn K (.ref g) = true
def tUnb (C : Addr) (sp : Sp) (ta : TE) (t : TA) : TE := fun σ H Q => ta σ H fun x H1 => x = .ref C ∧ t σ H1 fun vs H2 => sp (vs ++ []) H2 Q E0
section
variable {X : Cx} {k : Nat} {C g : Addr} {mc : Value} {m : Str} {fd : FuncData} {ps : List Str} {sp : Sp} {o e : Expr} {es : List Expr} {ta : TE} {t : TA} {pos apos : Pos} {pl : Sem Bool}
theorem pe_unb (he : PE X o ta) (U : Unb X.K C mc m g) (F : FnOk X.prog X.w X.K X.mg X.base CX0 k g fd ps sp) (hb : Binds X.K fd ps []) (hr : Room k X.A) (ha : PA X (e :: es) t)
    (hst : starEach (e :: es) X.env = (false, eval e X.env) :: starEach es X.env := by rfl) (hpl : (backTo pos (starEach es X.env)).any (·.1) = false := by rfl)
    (ht : eval (.Call (.Attribute o m apos) (e :: es) [] pos) X.env = (do
      let ov ← eval o X.env
      standAt apos.atName
      let (f, first) ← holding [ov] (getMethod ov m pl)
      callWith pos f first (backTo pos (starEach (e :: es) X.env)) (backToKw pos (keywordEach [] X.env))) := by rfl) :
    PE X (.Call (.Attribute o m apos) (e :: es) [] pos) (tUnb C sp ta t) := by
  refine ⟨fun pins s σ H Q I h => PySem.W.methodCall_KW (pl := pl) (thn (he.run pins s σ H _ I h) fun u s1 hu => ?_) ht⟩
  obtain ⟨x, H1, I1, rx, ex, q⟩ := hu
  subst ex
  obtain rfl : u = Value.ref C := rx
  refine PySem.W.method_cls I1.kIn U.rd.ga (PySem.W.cls_value I1.kIn U.rd.rd U.at_ rfl ?_)
  refine PySem.W.callWith_K (h₀ := X.base) I1.ok.mod.kin U.kp (thn (ha.run pos pins _ σ H1 _ (I1.tok _) q) fun us s2 ⟨vs, H2, I2, r, q2⟩ => ⟨I2.kIn, ?_⟩) hst hpl
  exact run_fn F hr hb .nil pass0 I2 r q2
end
/-! ### constants of the class read through an instance -/
structure ICon (K : Fr) (C : Addr) (f : Str) (v : V) : Prop where
  ex : ∃ u : Value, PySem.W.findIn K (.ref C) f = some (some u) ∧ PySem.W.specialIn K u "__get__" = some none ∧ RelV v u
  cp : PySem.W.copiedNames.contains f = false
def tICon (K : Fr) (ta : TE) (f : Str) : TE := fun σ H Q => ta σ H fun x H1 => ∃ (C a dx : Addr) (fs : List (Str × V)) (v : V), x = .ref a ∧ H1 a = some (.ins C dx fs) ∧ fs.lookup f = none ∧ Cls K C ∧ ICon K C f v ∧ Q v H1
/-- a property, whatever class the instance is of -/
def tPropA (K : Fr) (p g : Addr) (f : Str) (sp : Sp) (ta : TE) : TE := fun σ H Q => ta σ H fun x H1 => ∃ (C a dx : Addr) (fs : List (Str × V)), x = .ref a ∧ H1 a = some (.ins C dx fs) ∧ Cls K C ∧ PropOf K C f p g ∧ sp [.ref a] H1 Q E0
section
variable {X : Cx} {k : Nat} {p g : Addr} {f : Str} {fd : FuncData} {ps : List Str} {sp : Sp} {e : Expr} {ta : TE} {pos : Pos}
theorem pe_icon (he : PE X e ta) (hb : attributeBase e f X.env (eval e X.env) = eval e X.env := by rfl) : PE X (.Attribute e f pos) (tICon X.K ta f) := by
  refine ⟨fun pins s σ H Q I h => ?_⟩
  refine attr_of hb (thn (he.run pins s σ H _ I h) fun u s1 ⟨x, H1, I1, rx, C, a, dx, fs, v, ex, ea, l, c, k, q⟩ => ?_)
  subst ex
  obtain rfl : u = Value.ref a := rx
  obtain ⟨mA, O, r, _, _, _⟩ := ins_get I1.hok ea
  have hn : mA f = none := RelO.none_of (by rw [← l]; exact r f)
  obtain ⟨w, h1, h2, h3⟩ := k.ex
  exact get_const I1.kIn O (c.get f) c.hd h1 h2 k.cp hn (handed_of h3) ⟨v, H1, I1.tok _, h3, q⟩
theorem pe_propA (he : PE X e ta) (F : FnOk X.prog X.w X.K X.mg X.base CX0 k g fd ps sp) (hr : Room (k + 1) X.A) (hb : Binds X.K fd ps [])
    (hab : attributeBase e f X.env (eval e X.env) = eval e X.env := by rfl) : PE X (.Attribute e f pos) (tPropA X.K p g f sp ta) := by
  refine ⟨fun pins s σ H Q I h => ?_⟩
  refine attr_of hab (thn (he.run pins s σ H _ I h) fun u s1 ⟨x, H1, I1, rx, C, a, dx, fs, ex, ea, c, hp, q⟩ => ?_)
  subst ex
  obtain rfl : u = Value.ref a := rx
  exact getprop_ok I1 ea c hp F hr hb .nil pass0 q
end
/-! ### str, repr, ==, != of an instance by the defs of a class above -/
def rTextA (K : Fr) (m : Str) (f : Addr) (sp : Sp) : List V → Hp → VK → Prop := fun xs H Q => ∃ C, Own K C m f ∧ rText C sp xs H Q
def rEqA (K : Fr) (f : Addr) (sp : Sp) : R2 := fun x y H Q => ∃ C, Own K C "__eq__" f ∧ rEqO K C sp x y H Q
def rNeA (K : Fr) (f : Addr) (sp : Sp) : R2 := fun x y H Q => ∃ C, Own K C "__eq__" f ∧ NeOf K C ∧ rNeO K C sp x y H Q
section
variable {X : Cx} {k : Nat} {f : Addr} {fd : FuncData} {ps : List Str} {sp : Sp}
theorem call_strA (F : FnOk X.prog X.w X.K X.mg X.base CX0 k f fd ps sp) (hb : Binds X.K fd ps []) (hr : Room (k + 2) X.A) : CallR X (.type "str") (rTextA X.K "__str__" f sp) := by
  intro pins s σ H xs us Q I r h
  obtain ⟨C, O, h⟩ := h
  exact call_strO O F hb hr pins s σ H xs us Q I r h
theorem call_reprA (F : FnOk X.prog X.w X.K X.mg X.base CX0 k f fd ps sp) (hb : Binds X.K fd ps []) (hr : Room (k + 1) X.A) : CallR X (.builtin "repr") (rTextA X.K "__repr__" f sp) := by
  intro pins s σ H xs us Q I r h
  obtain ⟨C, O, h⟩ := h
  exact call_reprO O F hb hr pins s σ H xs us Q I r h
theorem op_eqA (F : FnOk X.prog X.w X.K X.mg X.base CX0 k f fd ps sp) (hb : Binds X.K fd ps []) (hr : Room k X.A) : OpR X (compareOp .Eq) (rEqA X.K f sp) := by
  intro pins s σ H x y v u Q I rx ry h
  obtain ⟨C, O, h⟩ := h
  exact op_eqO O F hb hr pins s σ H x y v u Q I rx ry h
theorem op_neA (F : FnOk X.prog X.w X.K X.mg X.base CX0 k f fd ps sp) (hb : Binds X.K fd ps []) (hr : Room (k + 1) X.A) : OpR X (compareOp .NotEq) (rNeA X.K f sp) := by
  intro pins s σ H x y v u Q I rx ry h
  obtain ⟨C, O, N, h⟩ := h
  exact op_neO O N F hb hr pins s σ H x y v u Q I rx ry h
end
/-! ### tests -/
def tAll (l : List Tst) : Tst := fun K => l.all fun f => f K
theorem tAll_at {l : List Tst} {K : Fr} (c : tAll l K = true) (i : Nat) {f : Tst} (h : l[i]? = some f := by rfl) : f K = true := List.all_eq_true.mp c f (List.mem_of_getElem? h)
def tUnbT (x m : Str) : Tst := fun K => PySem.W.readsIn K (He.ga K x) (.type "type") && (He.eqO (PySem.W.specialIn K (.ref (He.ga K x)) "__getattribute__") (some (some (.builtin "type.__getattribute__"))) &&
  ((match PySem.W.findCls K (.ref (He.ga K x)) (.type "type") m with | some (.val (.ref g)) => decide (g = mAd x m K) | _ => false) && PySem.W.keepIn K (.ref (mAd x m K))))
theorem unb_ok {K : Fr} {x m : Str} (c : tUnbT x m K = true) : Unb K (He.ga K x) (.type "type") m (mAd x m K) := by
  obtain ⟨c1, c⟩ := He.ba c
  obtain ⟨c2, c⟩ := He.ba c
  obtain ⟨c3, c4⟩ := He.ba c
  refine ⟨⟨c1, He.eqO_ok c2⟩, ?_, c4⟩
  split at c3
  · rename_i g e
    rw [e, of_decide_eq_true c3]
  · cases c3
def tIConT (x f z : Str) : Tst := fun K => (match PySem.W.findIn K (.ref (He.ga K x)) f with | some (some (.str y t)) => decide (y = z) && He.eqO (PySem.W.specialIn K (.str y t) "__get__") (some none) | _ => false) && !PySem.W.copiedNames.contains f
theorem icon_ok {K : Fr} {x f z : Str} (c : tIConT x f z K = true) : ICon K (He.ga K x) f (.str z) := by
  obtain ⟨c1, c2⟩ := He.ba c
  refine ⟨?_, Bool.not_eq_true' _ ▸ c2⟩
  split at c1
  · rename_i y t e
    obtain ⟨c3, c4⟩ := He.ba c1
    have ey := of_decide_eq_true c3
    subst ey
    exact ⟨_, e, He.eqO_ok c4, t, rfl⟩
  · cases c1
def tCConT (x f z : Str) : Tst := fun K => PySem.W.readsIn K (He.ga K x) (.type "type") && (He.eqO (PySem.W.specialIn K (.ref (He.ga K x)) "__getattribute__") (some (some (.builtin "type.__getattribute__"))) &&
  (match PySem.W.findCls K (.ref (He.ga K x)) (.type "type") f with | some (.val (.str y _)) => decide (y = z) | _ => false))
theorem ccon_ok {K : Fr} {x f z : Str} (c : tCConT x f z K = true) : ClX.CRead K (He.ga K x) (.type "type") ∧ ∃ u, ClX.CVal K (He.ga K x) (.type "type") f (.str z) u := by
  obtain ⟨c1, c⟩ := He.ba c
  obtain ⟨c2, c3⟩ := He.ba c
  refine ⟨⟨c1, He.eqO_ok c2⟩, ?_⟩
  split at c3
  · rename_i y t e
    have ey := of_decide_eq_true c3
    subst ey
    exact ⟨_, e, t, rfl⟩
  · cases c3
end Hk

/-! Tests for a class y below the class b. -/
namespace Hk
open PySem PySem.Spec PyProof.Rows L2
def tSame (y b f : Str) : Tst := fun K => decide (He.ma K (He.ga K y) f = He.ma K (He.ga K b) f)
def tSub (y b wd : Str) (fs ps ms : List Str) : Tst := tAll ([tCls y, tMkr y, tIns y, tNe y, tIConT y "WORD" wd, tCConT y "WORD" wd] ++ (fs.map (tNoat y) ++ (ps.map (tProp y) ++ (ps.map (tSame y b) ++ (ms.map (tMeth y) ++ ms.map (tSame y b))))))
def tKits (y : Str) (l : List (Str × Bool)) : Tst := tAll (l.map fun q => tKitO y q.1 q.2)
def tFsts (y : Str) (l : List Str) : Tst := tAll (l.map fun z => fun K => PySem.W.notFirst K (He.ga K y) (.ref (He.ga K z)))
def tFstT (y : Str) (l : List String) : Tst := tAll (l.map fun t => tFst y t)
theorem tAll_mem {l : List Tst} {K : Fr} (c : tAll l K = true) {f : Tst} (h : f ∈ l) : f K = true := List.all_eq_true.mp c f h
section
variable {y b wd : Str} {fs ps ms : List Str} {K : Fr} (c : tSub y b wd fs ps ms K = true)
include c
theorem sub_cls : Cls K (He.ga K y) := He.cls_ok (tAll_at c 0)
theorem sub_mkr : (He.Fa.mkr y).ok K = true := tAll_at c 1
theorem sub_ins : tIns y K = true := tAll_at c 2
theorem sub_ne : NeOf K (He.ga K y) := ne_ok (tAll_at c 3)
theorem sub_icon : ICon K (He.ga K y) "WORD" (.str wd) := icon_ok (tAll_at c 4)
theorem sub_ccon : ClX.CRead K (He.ga K y) (.type "type") ∧ ∃ u, ClX.CVal K (He.ga K y) (.type "type") "WORD" (.str wd) u := ccon_ok (tAll_at c 5)
theorem sub_noat {f : Str} (h : f ∈ fs) : NoAttr K (He.ga K y) f := He.noat_ok (tAll_mem c (List.mem_append_right _ (List.mem_append_left _ (List.mem_map.mpr ⟨f, h, rfl⟩))))
theorem sub_prop {f : Str} (h : f ∈ ps) : PropOf K (He.ga K y) f (He.ma K (He.ga K b) f) (getAd b f K) := by
  have c1 : tProp y f K = true := tAll_mem c (List.mem_append_right _ (List.mem_append_right _ (List.mem_append_left _ (List.mem_map.mpr ⟨f, h, rfl⟩))))
  have c2 : tSame y b f K = true := tAll_mem c (List.mem_append_right _ (List.mem_append_right _ (List.mem_append_right _ (List.mem_append_left _ (List.mem_map.mpr ⟨f, h, rfl⟩)))))
  have e := of_decide_eq_true c2
  have p := prop_ok c1
  unfold getAd at p ⊢
  rw [← e]
  exact p
theorem sub_own {m : Str} (h : m ∈ ms) : Own K (He.ga K y) m (mAd b m K) := by
  have c1 : tMeth y m K = true := tAll_mem c (List.mem_append_right _ (List.mem_append_right _ (List.mem_append_right _ (List.mem_append_right _ (List.mem_append_left _ (List.mem_map.mpr ⟨m, h, rfl⟩))))))
  have c2 : tSame y b m K = true := tAll_mem c (List.mem_append_right _ (List.mem_append_right _ (List.mem_append_right _ (List.mem_append_right _ (List.mem_append_right _ (List.mem_map.mpr ⟨m, h, rfl⟩))))))
  have e := of_decide_eq_true c2
  have p := own_ok c1
  unfold mAd at p ⊢
  rw [← e]
  exact p
end
theorem kitsO_ok {K : Fr} {y : Str} {l : List (Str × Bool)} (c : tKits y l K = true) {z : Str} {r : Bool} (h : (z, r) ∈ l) : PySem.W.kitOne K (.ref (He.ga K y)) (.ref (He.ga K z)) = some r :=
  of_decide_eq_true (show tKitO y z r K = true from tAll_mem c (List.mem_map.mpr ⟨(z, r), h, rfl⟩))
theorem fstsO_ok {K : Fr} {y : Str} {l : List Str} (c : tFsts y l K = true) {z : Str} (h : z ∈ l) : PySem.W.notFirst K (He.ga K y) (.ref (He.ga K z)) = true :=
  tAll_mem c (f := fun K => PySem.W.notFirst K (He.ga K y) (.ref (He.ga K z))) (List.mem_map.mpr ⟨z, h, rfl⟩)
theorem fstTO_ok {K : Fr} {y : Str} {l : List String} (c : tFstT y l K = true) {t : String} (h : t ∈ l) : PySem.W.notFirst K (He.ga K y) (.type t) = true :=
  tAll_mem c (f := tFst y t) (List.mem_map.mpr ⟨t, h, rfl⟩)
end Hk

/-! The hook with the written part's addresses given, and the whole run's equation out of several smaller ones. -/
namespace Hk
open PySem PySem.Spec PyProof.Rows L2
noncomputable abbrev kL (as : List Addr) (s : PySem.W.SharedT) : Fr := He.frG (HeadRun.getT s) (cStatics :: as)
def lookL (as : List Addr) (fa : List Tst) (fn : List Dx) (g : Addr → Option Obj) : Al2 := look fa fn (He.frG g (cStatics :: as))
def hookL (as : List Addr) (fa : List Tst) (fn : List Dx) : PySem.W.Hook where
  α := Al2
  obs := fun s => lookL as fa fn s.heap.get?
  val := fun _ => due fn
  says := fun _ h => ∃ K : Fr, K.In h ∧ Says fa fn K
  of := fun _ _ e => ⟨_, He.frG_in, e⟩
  keeps := fun _ _ _ ⟨K, hK, c⟩ k => ⟨K, PySem.W.Frag.In.keeps hK k, c⟩
theorem lookL_eq {as : List Addr} {fa : List Tst} {fn : List Dx} {g : Addr → Option Obj} {s : Shared} (h : ∀ a, g a = s.heap.get? a) : lookL as fa fn g = (hookL as fa fn).obs s := by
  have e : g = s.heap.get? := funext h
  subst e
  rfl
noncomputable abbrev runOf (M : Nat) (p : Program) (w : World) : Option (Shared × PySem.W.SharedT) := HeadRun.wholeF (fun p => HeadRun.stepQ (HeadRun.denQ HeadRun.tabQ) p w) HeadRun.fenceQ M p
noncomputable def partA (as : List Addr) (fa : List Tst) (s : PySem.W.SharedT) : Bool := (fun K => fa.all fun f => f K) (kL as s)
noncomputable def partF (as : List Addr) (fn : List Dx) (s : PySem.W.SharedT) : Al2 := look [] fn (kL as s)
theorem run_parts {r : PySem.W.OpenRow} {q : Program} {as : List Addr} {ob : PySem.W.SharedT → Al2} {M : Nat} {loose : List PySem.Str} {w : World} {fa : List Tst} {fn : List Dx} (fas : List (List Tst)) (fns : List (List Dx)) (hfa : fas.flatten = fa) (hfn : fns.flatten = fn) (ho : ∀ s, ob s = lookL as fa fn (HeadRun.getT s))
    (p1 : (runOf M r.prog w).map (fun x => (HeadRun.looksF r.prog x.1.heap x.2.abs, HeadRun.seenQ q loose (importedModules r.prog.main.body) (fun s => PySem.W.xlAt q [] s && PySem.W.recOk r.records s) x.2.abs)) = some (true, PySem.W.openGood q loose))
    (pA : ∀ l ∈ fas, (runOf M r.prog w).map (fun x => partA as l x.2) = some true)
    (pF : ∀ l ∈ fns, (runOf M r.prog w).map (fun x => partF as l x.2) = some (due l)) : HeadRun.RunEqI r q (hookL as fa fn) ob M loose w := by
  subst hfa hfn
  unfold HeadRun.RunEqI
  change Option.map _ (runOf M r.prog w) = _
  cases e : runOf M r.prog w with
  | none =>
    rw [e] at p1
    exact nomatch p1
  | some x =>
    rw [e] at p1 pA pF
    have q1 := Option.some.inj p1
    have qA : ∀ l ∈ fas, l.all (fun f => f (kL as x.2)) = true := fun l hl => Option.some.inj (pA l hl)
    have qF : ∀ l ∈ fns, partF as l x.2 = due l := fun l hl => Option.some.inj (pF l hl)
    have hall : fas.flatten.all (fun f => f (kL as x.2)) = true := by
      rw [List.all_eq_true]
      intro f hf
      obtain ⟨l, hl, hf⟩ := List.mem_flatten.mp hf
      exact List.all_eq_true.mp (qA l hl) f hf
    have hF : fns.flatten.all (fun d => d.okb (kL as x.2)) = true ∧ fns.flatten.map (fun d => seenAt (kL as x.2) (d.ad (kL as x.2))) = fns.flatten.map Dx.due := by
      clear pF ho
      induction fns with
      | nil => exact ⟨rfl, rfl⟩
      | cons l r ih =>
        have i := ih fun y hy => qF y (List.mem_cons_of_mem _ hy)
        have z := qF l List.mem_cons_self
        have o4 : (l.all fun d => d.okb (kL as x.2)) = true := (Prod.mk.inj z).1
        have s4 : l.map (fun d => seenAt (kL as x.2) (d.ad (kL as x.2))) = l.map Dx.due := (Prod.mk.inj z).2
        rw [List.flatten_cons, List.all_append, List.map_append, List.map_append, o4, s4, i.1, i.2]
        exact ⟨rfl, rfl⟩
    have a1 := (Prod.mk.inj q1).1
    have a2 := (Prod.mk.inj q1).2
    have h4 : ob x.2 = due fns.flatten := by
      rw [ho]
      show look fas.flatten fns.flatten (kL as x.2) = due fns.flatten
      unfold look due
      rw [hall, hF.1, hF.2]
      rfl
    show some (_, _, ob x.2) = some (true, PySem.W.openGood q loose, due fns.flatten)
    rw [h4, a1, a2]
end Hk

/-! A head over given addresses that tells the tables of defs that make lambdas, too. -/
namespace Hk
open PySem PySem.Spec PyProof.Rows L2 LamX
/-- the tables of these defs stand apart -/
def tTabs (ts : List Dx) : Tst := fun K => decide ((ts.map fun d => pOf d K).Nodup)
theorem tabs_ne {ts : List Dx} {K : Fr} (c : tTabs ts K = true) {i j : Nat} {d e : Dx} (hi : ts[i]? = some d) (hj : ts[j]? = some e) (h : pOf d K = pOf e K) : i = j := by
  have nd := of_decide_eq_true c
  obtain ⟨li, ei⟩ := List.getElem?_eq_some_iff.mp hi
  obtain ⟨lj, ej⟩ := List.getElem?_eq_some_iff.mp hj
  have l1 : i < (ts.map fun d => pOf d K).length := by rw [List.length_map]; exact li
  refine (List.getElem?_inj l1 nd).mp ?_
  rw [List.getElem?_map, List.getElem?_map, hi, hj]
  exact congrArg some h
theorem saysL_of {as : List Addr} {fa : List Tst} {fn ts : List Dx} {h : Heap} (e : lookT0 fa fn ts h.get? (He.frT h.get? (cStatics :: as)) = (due fn, true)) : SaysT fa fn ts h (He.frT h.get? (cStatics :: as)) := by
  obtain ⟨e1, e2⟩ := Prod.mk.inj e
  have one : ∀ d ∈ ts, PySem.W.codeHdIn (He.frT h.get? (cStatics :: as)) (cOf d (He.frT h.get? (cStatics :: as))) (pOf d (He.frT h.get? (cStatics :: as))) = true ∧ ∃ o, h.get? (pOf d (He.frT h.get? (cStatics :: as))) = some o ∧ He.emptyTab o = true := by
    intro d hd
    obtain ⟨h1, h2⟩ := He.ba (List.all_eq_true.mp e2 d hd)
    cases q : h.get? (pOf d (He.frT h.get? (cStatics :: as))) with
    | none => rw [q] at h2; exact nomatch h2
    | some o => rw [q] at h2; exact ⟨h1, o, rfl, h2⟩
  constructor
  · exact e1
  · exact fun d hd => (one d hd).1
  · intro d hd
    obtain ⟨_, o, q, z⟩ := one d hd
    exact He.frT_none q z
  · intro d hd
    obtain ⟨_, o, q, z⟩ := one d hd
    rw [q, He.emptyTab_eq z]
def hookLT (as : List Addr) (fa : List Tst) (fn ts : List Dx) : PySem.W.Hook where
  α := Al3
  obs := fun s => lookT0 fa fn ts s.heap.get? (He.frT s.heap.get? (cStatics :: as))
  val := fun _ => (due fn, true)
  says := fun _ h => ∃ K : Fr, K.In h ∧ SaysT fa fn ts h K
  of := fun _ _ e => ⟨_, He.frT_in, saysL_of e⟩
  keeps := fun _ _ _ ⟨K, hK, c⟩ k => ⟨K, PySem.W.Frag.In.keeps hK k, c.s, c.hd, c.out, fun d hd => k _ _ (c.empty d hd)⟩
noncomputable abbrev kT (as : List Addr) (s : PySem.W.SharedT) : Fr := He.frT (HeadRun.getT s) (cStatics :: as)
noncomputable def lookLT (as : List Addr) (fa : List Tst) (fn ts : List Dx) (s : PySem.W.SharedT) : Al3 := lookT0 fa fn ts (HeadRun.getT s) (kT as s)
theorem lookLT_eq {as : List Addr} {fa : List Tst} {fn ts : List Dx} (s : PySem.W.SharedT) : lookLT as fa fn ts s = (hookLT as fa fn ts).obs s.abs := by
  have e : HeadRun.getT s = s.abs.heap.get? := funext fun a => HeadRun.getT_eq s a
  unfold lookLT kT
  rw [e]
  rfl
noncomputable def partAT (as : List Addr) (fa : List Tst) (s : PySem.W.SharedT) : Bool := (fun K => fa.all fun f => f K) (kT as s)
noncomputable def partFT (as : List Addr) (fn : List Dx) (s : PySem.W.SharedT) : Al2 := look [] fn (kT as s)
noncomputable def partTT (as : List Addr) (ts : List Dx) (s : PySem.W.SharedT) : Bool := ts.all fun d => tabOk (HeadRun.getT s) (kT as s) d
theorem run_partsT {r : PySem.W.OpenRow} {q : Program} {as : List Addr} {M : Nat} {loose : List PySem.Str} {w : World} {fa : List Tst} {fn ts : List Dx} (fas : List (List Tst)) (fns : List (List Dx)) (hfa : fas.flatten = fa) (hfn : fns.flatten = fn)
    (p1 : (runOf M r.prog w).map (fun x => (HeadRun.looksF r.prog x.1.heap x.2.abs, HeadRun.seenQ q loose (importedModules r.prog.main.body) (fun s => PySem.W.xlAt q [] s && PySem.W.recOk r.records s) x.2.abs)) = some (true, PySem.W.openGood q loose))
    (pA : ∀ l ∈ fas, (runOf M r.prog w).map (fun x => partAT as l x.2) = some true)
    (pF : ∀ l ∈ fns, (runOf M r.prog w).map (fun x => partFT as l x.2) = some (due l))
    (pT : (runOf M r.prog w).map (fun x => partTT as ts x.2) = some true) : HeadRun.RunEqI r q (hookLT as fa fn ts) (lookLT as fa fn ts) M loose w := by
  subst hfa hfn
  unfold HeadRun.RunEqI
  change Option.map _ (runOf M r.prog w) = _
  cases e : runOf M r.prog w with
  | none => rw [e] at p1; exact nomatch p1
  | some x =>
    rw [e] at p1 pA pF pT
    obtain ⟨a1, a2⟩ := Prod.mk.inj (Option.some.inj p1)
    have vA : (fas.flatten).all (fun f => f (kT as x.2)) = true := List.all_eq_true.mpr fun f hf => by
      obtain ⟨l, hl, hm⟩ := List.mem_flatten.mp hf
      have := Option.some.inj (pA l hl)
      exact List.all_eq_true.mp this f hm
    have vF : ∀ ls : List (List Dx), (∀ l ∈ ls, partFT as l x.2 = due l) → (ls.flatten.all fun d => d.okb (kT as x.2)) = true ∧ ls.flatten.map (fun d => seenAt (kT as x.2) (d.ad (kT as x.2))) = ls.flatten.map Dx.due := by
      intro ls
      induction ls with
      | nil => exact fun _ => ⟨rfl, rfl⟩
      | cons l rest ih =>
        intro hl
        obtain ⟨i1, i2⟩ := ih fun y hy => hl y (List.mem_cons_of_mem _ hy)
        obtain ⟨z1, z2⟩ := Prod.mk.inj (hl l List.mem_cons_self)
        have z1' : (l.all fun d => d.okb (kT as x.2)) = true := z1
        have z2' : l.map (fun d => seenAt (kT as x.2) (d.ad (kT as x.2))) = l.map Dx.due := z2
        constructor
        · rw [List.flatten_cons, List.all_append, z1', i1]
          rfl
        · rw [List.flatten_cons, List.map_append, List.map_append, z2', i2]
    obtain ⟨f1, f2⟩ := vF fns fun l hl => Option.some.inj (pF l hl)
    have vT : (ts.all fun d => tabOk (HeadRun.getT x.2) (kT as x.2) d) = true := Option.some.inj pT
    have all_ : lookLT as fas.flatten fns.flatten ts x.2 = (due fns.flatten, true) := by
      unfold lookLT lookT0 look due
      rw [vA, f1, f2, vT]
      rfl
    show some (_, _, lookLT as fas.flatten fns.flatten ts x.2) = some (true, PySem.W.openGood q loose, (due fns.flatten, true))
    rw [all_, a1, a2]
end Hk

/-! Own operators with any other operand, on both sides; their defs may raise. -/
namespace Hk
open PySem PySem.Spec PyProof.Rows L2
/-- what the type T must be for an operator of the class at C -/
structure RightT (K : Fr) (C : Addr) (nm : String) (T : String) : Prop where
  i1 : ∃ fo, PySem.W.findIn K (.type T) (PySem.dunder nm) = some fo
  i2 : ∃ ro, PySem.W.findIn K (.type T) (dunderR nm) = some ro
  sub : PySem.W.subIn K (.type T) (.ref C) = some false
  cub : PySem.W.subIn K (.ref C) (.type T) = some false
def tRight (x : Str) (nm : String) (T : String) : Tst := fun K => (PySem.W.findIn K (.type T) (PySem.dunder nm)).isSome && ((PySem.W.findIn K (.type T) (dunderR nm)).isSome && (decide (PySem.W.subIn K (.type T) (.ref (He.ga K x)) = some false) && decide (PySem.W.subIn K (.ref (He.ga K x)) (.type T) = some false)))
theorem right_ok {K : Fr} {x : Str} {nm T : String} (c : tRight x nm T K = true) : RightT K (He.ga K x) nm T := by
  obtain ⟨c1, c⟩ := He.ba c
  obtain ⟨c2, c⟩ := He.ba c
  obtain ⟨c3, c4⟩ := He.ba c
  exact ⟨Option.isSome_iff_exists.mp c1, Option.isSome_iff_exists.mp c2, of_decide_eq_true c3, of_decide_eq_true c4⟩
/-- the type has no such operator -/
def tNoOp (nm : String) (T : String) : Tst := fun K => He.eqO (PySem.W.findIn K (.type T) (PySem.dunder nm)) (some none) && He.eqO (PySem.W.findIn K (.type T) (dunderR nm)) (some none)
section
variable {prog : Program} {w : World} {A : Around} {E : Value → Shared → Prop} {s : Shared} {K : Fr} {x C f g : Addr} {ox : Obj} {od : Option Obj}
theorem bin1_ty {nm T : String} {b : Value} {Q : Value → Shared → Prop} (Y : K.In s.heap) (I : PySem.W.InstAt s.heap x ox C od) (B : BinF K C nm f) (R : RightT K C nm T) (hb : PySem.W.Looks (model prog w) s.heap (typeOf b) (.type T))
    (h : wpAny (model prog w) A (call (.ref f) [.ref x, b]) (PySem.W.CmpBack Q) E s) : wpAny (model prog w) A (binaryOp1 nm (.ref x) b) (fun r s' => ∃ v, r = some v ∧ Q v s') E s := by
  obtain ⟨cd, rest, hcd, hm⟩ := PySem.W.ksp_first B.self
  have one := PySem.W.ksp_try Y I B.at_ B.fn h
  obtain ⟨rc, hr, hp⟩ := B.rr
  obtain ⟨fo, h1⟩ := R.i1
  obtain ⟨ro, h2⟩ := R.i2
  obtain ⟨hh, gg, d, tt, os⟩ := s
  have L1 : PySem.W.Looks (model prog w) hh (typeOf (.ref x)) (.ref C) := I.type
  have L2 : PySem.W.Looks (model prog w) hh (typeOf b) (.type T) := hb
  have L3 : PySem.W.Looks (model prog w) hh (fillsNumberSlot (.ref C) nm) true := PySem.W.fills_K Y hcd hm B.at_
  have L4 : PySem.W.Looks (model prog w) hh (fillsNumberSlot (.type T) nm) ((fo.isSome && !isSeqSlot fo) || (ro.isSome && !isSeqSlot ro)) := PySem.W.ksp_fillsT Y h1 h2
  have L5 : PySem.W.Looks (model prog w) hh (isSubtype (.type T) (.ref C)) false := PySem.W.looks_subIn Y R.sub
  have L6 : PySem.W.Looks (model prog w) hh (numberSlotInPython (.ref C) nm) true := PySem.W.ksp_inPy Y B.at_ hr hp
  have L7 : PySem.W.Looks (model prog w) hh (numberSlotInPython (.type T) nm) false := PySem.W.Looks.of_pure rfl
  have L8 : PySem.W.Looks (model prog w) hh (typeLookup (.type T) (dunderR nm)) ro := PySem.W.looks_findIn Y h2
  generalize ((fo.isSome && !isSeqSlot fo) || (ro.isSome && !isSeqSlot ro)) = right at L4
  have hne : (Value.ref C == Value.type T) = false := Bool.eq_false_iff.mpr fun q => nomatch beq_iff_eq.mp q
  unfold binaryOp1
  refine wpAny_bind (L1.at (wpAny_bind (L2.at (wpAny_bind (L3.at ?_)))))
  simp only [hne, Bool.false_eq_true, if_false]
  cases right with
  | false =>
    ksp_lk
    refine wpAny_mono one (fun r s' hr' => ?_) fun _ _ e => e
    obtain ⟨v, rfl, hq⟩ := hr'
    ksp_lk
    exact ⟨v, rfl, hq⟩
  | true =>
    ksp_lk
    refine wpAny_mono one (fun r s' hr' => ?_) fun _ _ e => e
    obtain ⟨v, rfl, hq⟩ := hr'
    ksp_lk
    exact ⟨v, rfl, hq⟩
/-- v op instance: the class's reflected operator; v's own one, where there is one, declines -/
theorem rbin_ty {op : Operator} {T : String} {v : Value} {Q : Value → Shared → Prop} (Y : K.In s.heap) (I : PySem.W.InstAt s.heap x ox C od) (hc : PySem.W.selfFirst K C = true) (R : RightT K C op.info.2 T) (hv : PySem.W.Looks (model prog w) s.heap (typeOf v) (.type T))
    (dec : (∃ fo ro, PySem.W.findIn K (.type T) (PySem.dunder op.info.2) = some fo ∧ PySem.W.findIn K (.type T) (dunderR op.info.2) = some ro ∧ ((fo.isSome && !isSeqSlot fo) || (ro.isSome && !isSeqSlot ro)) = false) ∨
      (∃ id, s.TypeIs v T ∧ Slot T (PySem.dunder op.info.2) id ∧ ∀ Q : Value → Shared → Prop, Q .notImplemented s → wpAny (model prog w) A (call (.builtin id) [v, .ref x]) Q E s))
    (hs : PySem.W.findIn K (.ref C) (PySem.dunder op.info.2) = some (some (.ref f))) (hr : PySem.W.findIn K (.ref C) (dunderR op.info.2) = some (some (.ref g))) (hg : PySem.W.isFn K (.ref g) = true)
    (h : wpAny (model prog w) A (call (.ref g) [.ref x, v]) (PySem.W.CmpBack Q) E s) : wpAny (model prog w) A (binaryOp op v (.ref x)) Q E s := by
  obtain ⟨cd, rest, hcd, hm⟩ := PySem.W.ksp_first hc
  obtain ⟨fo, h1⟩ := R.i1
  obtain ⟨ro, h2⟩ := R.i2
  have hsub := R.cub
  rcases hi : op.info with ⟨sym, nm⟩
  rw [hi] at hs hr h1 h2 dec
  dsimp only at hs hr h1 h2 dec
  simp only [binaryOp, hi]
  refine wpAny_holding ?_
  simp only [binaryOp1]
  have L4 : PySem.W.Looks (model prog w) s.heap (fillsNumberSlot (.type T) nm) ((fo.isSome && !isSeqSlot fo) || (ro.isSome && !isSeqSlot ro)) := PySem.W.ksp_fillsT Y h1 h2
  refine wpAny_bind (wpAny_bind (hv.here ?_))
  refine wpAny_bind (I.type.here (wpAny_bind (L4.here ?_)))
  have hne : (Value.type T == Value.ref C) = false := Bool.eq_false_iff.mpr fun q => nomatch beq_iff_eq.mp q
  simp only [hne, Bool.false_eq_true, if_false]
  refine wpAny_bind ((PySem.W.fills_K Y hcd hm hs).here ?_)
  have hpy : numberSlotInPython (.type T) nm = pure false := rfl
  have fin : wpAny (model prog w) A (tryMethod (.ref x) (dunderR nm) v) (fun r s' => ∃ u, r = some u ∧ Q u s') E s := by
    unfold tryMethod
    refine wpAny_bind (PySem.W.special_fn Y I hr (beq_iff_eq.mp hg) (wpAny_mono h (fun v s' hv => ?_) fun _ _ e => e))
    cases v <;> first | exact hv.elim | exact wpAny_pure ⟨_, rfl, hv⟩
  cases hl : ((fo.isSome && !isSeqSlot fo) || (ro.isSome && !isSeqSlot ro)) with
  | false =>
    simp only [Bool.false_and, Bool.false_eq_true, if_false, pure_bind, Bool.not_false, Bool.and_self, if_true, Bool.true_and]
    refine wpAny_bind (wpAny_mono fin (fun r s' hr' => ?_) fun _ _ e => e)
    obtain ⟨u, rfl, hq⟩ := hr'
    exact wpAny_bind (wpAny_rule (wpAny_pure (wpAny_pure hq)))
  | true =>
    simp only [Bool.and_self, if_true]
    refine wpAny_bind ((PySem.W.looks_subIn Y hsub).here ?_)
    simp only [Bool.false_eq_true, if_false, pure_bind, Bool.not_false, Bool.and_self, if_true, hpy]
    rcases dec with ⟨fo', ro', e1, e2, e3⟩ | ⟨id, hT, slot, hd⟩
    · rw [h1] at e1; cases e1
      rw [h2] at e2; cases e2
      rw [hl] at e3
      cases e3
    · refine wpAny_bind (wpAny_tryMethod_declines hT slot (hd _ ⟨rfl, ?_⟩))
      refine wpAny_bind (wpAny_mono fin (fun r s' hr' => ?_) fun _ _ e => e)
      obtain ⟨u, rfl, hq⟩ := hr'
      exact wpAny_bind (wpAny_rule (wpAny_pure (wpAny_pure hq)))
end
/-! ### a truth's own operators decline -/
def DeclB (id : String) : Prop := ∀ (prog : Program) (w : World) (A : Around) (E : Value → Shared → Prop) (s : Shared) (b : Bool) (x C dx : Addr) (Q : Value → Shared → Prop), s.heap.get? x = some (PySem.W.instObj C dx) → Q .notImplemented s →
  wpAny (model prog w) A (call (.builtin id) [.bool b, .ref x]) Q E s
theorem declB_add : DeclB "int.__add__" := by
  intro prog w A E s b x C dx Q ho q
  refine wpAny_call (codeAny_call_builtin F.slot_int_add.plain F.entry_int_add (F.slot_bool_add.check _ _ _ _ _ _ _ _ (PySem.typeIs_bool s b) (F.args_int_add_2 _ _) ?_))
  unfold Builtin.«int.__add__» Builtin.Int.intBinary
  refine wpAny_bind (m := slotArgs "__add__" 1 _) (wpAny_pure ?_)
  refine wpAny_bind (m := Builtin.Int.intOfSelf _) (wpAny_pure ?_)
  refine wpAny_bind (m := asInt? _) (wpAny_bind (wpAny_load ho (wpAny_pure ?_)))
  refine wpAny_bind (wpAny_rule (wpAny_pure ?_))
  exact q
theorem declB_sub : DeclB "int.__sub__" := by
  intro prog w A E s b x C dx Q ho q
  refine wpAny_call (codeAny_call_builtin F.slot_int_sub.plain F.entry_int_sub (F.slot_bool_sub.check _ _ _ _ _ _ _ _ (PySem.typeIs_bool s b) (F.args_int_sub_2 _ _) ?_))
  unfold Builtin.«int.__sub__» Builtin.Int.intBinary
  refine wpAny_bind (m := slotArgs "__sub__" 1 _) (wpAny_pure ?_)
  refine wpAny_bind (m := Builtin.Int.intOfSelf _) (wpAny_pure ?_)
  refine wpAny_bind (m := asInt? _) (wpAny_bind (wpAny_load ho (wpAny_pure ?_)))
  refine wpAny_bind (wpAny_rule (wpAny_pure ?_))
  exact q
/-! ### rules -/
/-- y is of the built-in type T -/
def TyO (K : Fr) (H : Hp) (y : V) (T : String) : Prop := TyL K H y (.type T) ∨ (T = "dict" ∧ ∃ a kvs, y = .ref a ∧ H a = some (.dK kvs))
theorem TyO.same {K : Fr} {H H' : Hp} {y : V} {T : String} (h : TyO K H y T) (s : Same H H') : TyO K H' y T := by
  rcases h with h | ⟨rfl, a, kvs, rfl, e⟩
  · refine .inl ?_
    cases h with
    | non => exact .non
    | bl b => exact .bl b
    | int i => exact .int i
    | str y => exact .str y
    | lst e => exact .lst (s _ _ e)
    | tup e => exact .tup (s _ _ e)
  · exact .inr ⟨rfl, a, kvs, rfl, s _ _ e⟩
def rBinX (K : Fr) (C : Addr) (nm : String) (sp : Sp) (E : XK) : R2 := fun x y H Q => ∃ a dx fs, x = .ref a ∧ H a = some (.ins C dx fs) ∧ ((∃ T, TyO K H y T ∧ RightT K C nm T) ∨ ∃ b dy gs, y = .ref b ∧ H b = some (.ins C dy gs)) ∧ sp [x, y] H Q E
/-- of y op x, y no instance -/
def rRbinX (K : Fr) (C : Addr) (nm : String) (sp : Sp) (E : XK) : R2 := fun y x H Q => ∃ a dx fs T, x = .ref a ∧ H a = some (.ins C dx fs) ∧ TyO K H y T ∧ RightT K C nm T ∧ ((PySem.W.findIn K (.type T) (PySem.dunder nm) = some none ∧ PySem.W.findIn K (.type T) (dunderR nm) = some none) ∨ ∃ b, y = .bl b ∧ T = "bool") ∧ sp [x, y] H Q E
section
variable {X : Cx} {CX : CXT} {E : XK} {k : Nat} {C f g : Addr} {fd : FuncData} {ps : List Str} {sp : Sp} {op : Operator}
theorem TyO.looks {pins : List (Addr × Obj)} {s : Shared} {σ : L2.St} {H : Hp} {y : V} {u : Value} {T : String} {M : Model} (I : Inv X pins σ H s) (ry : RelV y u) (h : TyO X.K H y T) : PySem.W.Looks M s.heap (typeOf u) (.type T) := by
  rcases h with h | ⟨rfl, a, kvs, rfl, e⟩
  · exact TyL.looks I ry h
  · cases (show u = Value.ref a from ry)
    obtain ⟨_, hsm, vs, kv, o, es, ep, h1, h2, h3, h4, h5, h6⟩ := (show ObjOk X.prog X.w H s.heap a (.dK kvs) from I.hok a _ e)
    exact fun A Q E s2 k2 q2 => wpAny_typeOf_ref (k2 _ _ h1) (by rw [h2.1]; exact q2)
theorem op_binX (B : BinF X.K C op.info.2 f) (F : FnOk X.prog X.w X.K X.mg X.base CX k f fd ps sp) (hb : Binds X.K fd ps []) (hr : Room k X.A) (hx : ∀ σ, PassesAt CX X σ E) : OpR X (binaryOp op) (rBinX X.K C op.info.2 sp E) := by
  intro pins s σ H x y v u Q I rx ry h
  obtain ⟨a, dx, fs, rfl, ha, hy, q⟩ := h
  cases (show v = Value.ref a from rx)
  obtain ⟨mA, M, _⟩ := ins_get I.hok ha
  obtain ⟨od, J, _⟩ := M.look
  have run : wpAny (model X.prog X.w) X.A (call (.ref f) [.ref a, u]) (PySem.W.CmpBack (EP X pins σ Q)) X.xe s :=
    wpAny_mono (run_fnS (vs := [.ref a, y]) (E := fun _ => E) F hr hb (hx σ) I (.cons rfl (.cons ry .nil)) q) (fun w s' z => by
      obtain ⟨z', H', I', rz, qz⟩ := id z
      exact backC rz z) fun _ _ z => z
  rcases hy with ⟨T, ty, R⟩ | ⟨b, dy, gs, rfl, hb2⟩
  · exact bin_of1 (bin1_ty I.kIn J B R (TyO.looks I ry ty) run)
  · exact bin_of1 (bin1_own I.kIn J B (TyL.looks I ry (.ins hb2)) run)
theorem op_rbinX (B : BinF X.K C op.info.2 f) (R : RbinF X.K C op.info.2 g) (slot : ∃ id, Slot "bool" (PySem.dunder op.info.2) id ∧ DeclB id)
    (F : FnOk X.prog X.w X.K X.mg X.base CX k g fd ps sp) (hb : Binds X.K fd ps []) (hr : Room k X.A) (hx : ∀ σ, PassesAt CX X σ E) : OpR X (binaryOp op) (rRbinX X.K C op.info.2 sp E) := by
  intro pins s σ H y x u v Q I ry rx h
  obtain ⟨a, dx, fs, T, rfl, ha, ty, RT, how, q⟩ := h
  cases (show v = Value.ref a from rx)
  obtain ⟨mA, M, _⟩ := ins_get I.hok ha
  obtain ⟨od, J, _⟩ := M.look
  have run : wpAny (model X.prog X.w) X.A (call (.ref g) [.ref a, u]) (PySem.W.CmpBack (EP X pins σ Q)) X.xe s :=
    wpAny_mono (run_fnS (vs := [.ref a, y]) (E := fun _ => E) F hr hb (hx σ) I (.cons rfl (.cons ry .nil)) q) (fun w s' z => by
      obtain ⟨z', H', I', rz, qz⟩ := id z
      exact backC rz z) fun _ _ z => z
  refine rbin_ty I.kIn J B.self RT (TyO.looks I ry ty) ?_ B.at_ R.at_ R.fn run
  rcases how with ⟨e1, e2⟩ | ⟨b, rfl, rfl⟩
  · exact .inl ⟨none, none, e1, e2, rfl⟩
  · obtain ⟨id, sl, d⟩ := slot
    cases ry
    exact .inr ⟨id, PySem.typeIs_bool s b, sl, fun Q q => d _ _ _ _ _ _ _ _ _ _ J.at_ q⟩
end
end Hk

namespace Hk
open PySem PySem.Spec PyProof.Rows L2
theorem Same.seqT {K : Fr} {H H' : Hp} {a : Addr} {xs : List V} (e : Same H H') (h : SqT K H a xs) : SqT K H' a xs := by
  rcases h with (h | ⟨o, h⟩) | h
  · exact .inl (.inl (e _ _ h))
  · exact .inl (.inr ⟨o, e _ _ h⟩)
  · exact .inr h
mutual
theorem dp_same {K : Fr} {H H' : Hp} (s : Same H H') : ∀ (d : PyData) (v : V), Dp K H v d → Dp K H' v d
  | .none, _, h => by cases h; exact .non
  | .bool _, _, h => by cases h; exact .bl _
  | .int _, _, h => by cases h; exact .int _
  | .str _, _, h => by cases h; exact .str _
  | .list ds, _, h => by
    cases h with
    | lst h1 h2 => exact .lst (s.seq h1) (dp_sames s ds _ h2)
  | .tuple ds, _, h => by
    cases h with
    | tup h1 h2 => exact .tup (Same.seqT s h1) (dp_sames s ds _ h2)
  | .dict _, _, h => by cases h
theorem dp_sames {K : Fr} {H H' : Hp} (s : Same H H') : ∀ (ds : List PyData) (vs : List V), DpAll K H vs ds → DpAll K H' vs ds
  | [], _, h => by cases h; exact .nil
  | d :: ds, _, h => by
    cases h with
    | cons h1 h2 => exact .cons (dp_same s d _ h1) (dp_sames s ds _ h2)
end
/-- z is what repr shows of x: data, or an empty dict -/
def Sh (K : Fr) (H : Hp) (x : V) (z : Str) : Prop := (∃ d, Dp K H x d ∧ d.showable = true ∧ d.depth ≤ 60 ∧ d.shown.length ≤ sizeLine ∧ z = d.shown) ∨ ∃ a, x = .ref a ∧ H a = some (.dK []) ∧ z = (PyData.dict []).shown
theorem Sh.same {K : Fr} {H H' : Hp} {x : V} {z : Str} (h : Sh K H x z) (s : Same H H') : Sh K H' x z := by
  rcases h with ⟨d, h1, h2⟩ | ⟨a, h1, h2, h3⟩
  · exact .inl ⟨d, dp_same s d _ h1, h2⟩
  · exact .inr ⟨a, h1, s _ _ h2, h3⟩
def rShow (K : Fr) : List V → Hp → VK → Prop := fun xs H Q => ∃ x z, xs = [x] ∧ Sh K H x z ∧ Q (.str z) H
theorem call_reprS {X : Cx} {k : Nat} (hc : Calm X.A) (hr : Room k X.A) : CallR X (.builtin "repr") (rShow X.K) := by
  intro pins s σ H xs us Q I r h
  obtain ⟨x, z, rfl, hz, q⟩ := h
  rcases hz with ⟨d, hd, h1, h2, h3, rfl⟩ | ⟨a, rfl, ha, rfl⟩
  · exact call_reprD hc hr pins s σ H [x] us Q I r ⟨x, d, rfl, hd, h1, h2, h3, q⟩
  · obtain ⟨u, rfl, ru⟩ := r.one
    cases (show u = Value.ref a from ru)
    obtain ⟨_, hsm, vs, kv, o, es, ep, h1, h2, h3, h4, h5, h6⟩ := (show ObjOk X.prog X.w H s.heap a (.dK []) from I.hok a _ ha)
    cases kv
    have e0 : es.toList = [] := by
      cases e : es.toList with
      | nil => rfl
      | cons k r =>
        rw [e] at h5
        exact nomatch h5
    have hrd : Reads s.heap (.ref a) (.dict []) (a :: [] ++ []) := Reads.dict h1 h2.1 h3 (by rw [e0]; exact .nil) (by rw [e0]; exact .nil)
    refine PySem.repr_of_reads' hrd (by simp [PyData.showable, PyData.showableKv]) (fun _ => ?_) hc ?_ (fun b o z => z) (fun h' u tk kp => ⟨.str _, H, I.kept kp, ⟨_, rfl⟩, q⟩) ?_
    · intro hm
      have e : sysModules = a := by simpa using hm
      rw [← e] at hsm
      simp at hsm
    · have := hr.units
      have e : (PyData.dict []).depth ≤ 1 := by simp [PyData.depth, PyData.depthKv]
      omega
    · decide +kernel
end Hk

/-! raise C() of a class without a def of its own, nothing handled. -/
namespace Hk
open PySem PySem.Spec PyProof.Rows L2
section
variable {X : Cx} {C : Addr} {bm : List Value} {B n ii : String}
theorem pmk_own0 {x : Str} {p pos : Pos} (F : ExcBaseFacts B n ii bm) (q : PySem.W.excIn X.K C bm n = true) (gC : X.mg x = some (.ref C)) (kC : PySem.W.keepIn X.K (.ref C) = true) (r : Raises X (.ref C)) (hg : Gl X x)
    (hdb : (x == ("__debug__" : Str)) = false := by decide) : L2N.PMk X (.Call (.Name x p) [] [] pos) (fun _ H Q => Q (.ref C) none H) := by
  intro pins s σ H Q I h
  refine wpAny_Call_Name_kw (ld_glob I hg gC ?_ hdb)
  refine PySem.W.callWith_K0 I.kIn kC ?_
  obtain ⟨bm', N, nm, qn, bs, hdct, sn, sub, ab, col, dd, k0, k1, k2, k3, k5, mN, hC, hN, hni, T⟩ := exc_obj I.kIn q
  refine wpAny_call_exc_subT F T hC hN hni (fun h' e hm => ?_) (Nat.zero_le _)
  exact L2N.mk_of I hm r h (I.hok.gone hm.new)
theorem ps_rz0 {x : Str} {p pos pos' : Pos} {W : WX} (F : Bas B n ii bm) (c : tEx0 x bm n X.K = true) (e : ExcC X.K (He.ga X.K x)) (gC : X.mg x = some (.ref (He.ga X.K x))) (hg : Gl X x) (tk : L2N.Takes X W) (hc : X.calm = true := by rfl)
    (hdb : (x == ("__debug__" : Str)) = false := by decide) : PS X (.Raise (some (.Call (.Name x p) [] [] pos)) none pos') (fun _ σ H => W (.ref (He.ga X.K x)) none σ H) := by
  obtain ⟨c1, c2⟩ := He.ba c
  obtain ⟨c2, c3⟩ := He.ba c2
  exact L2N.ps_raise hc tk (pmk_own0 F.f c1 gC c2 (raises_own e.hs (of_decide_eq_true c3)) hg hdb)
end
section
variable {P : Program} {w : World} {K : Fr} {mg : Str → Option Value} {base : Heap}
theorem caln_of {k : Nat} {d : Dx} {N ps : List Str} {sp : Sp} {x : Str} (D : ∃ fd, DAt K d fd) (hv : d.df = []) (S : FnScope N ps (defScope d.st)) (hm : mg x = some (.ref (d.ad K)))
    (hbi : ∀ (kV doc pm : Value) (an : Option Addr) (cdv ct : Value) (us : List Value), us.length = ps.length → bindArgs (PySem.W.fnOf d.nm d.ql (defArgs d.st) (defBody d.st) (defScope d.st) .none kV doc pm an cdv ct) ⟨us, []⟩ = pure (ps.zip us))
    (len : ∀ vs H Q E, sp vs H Q E → vs.length = ps.length) (hb : BodyN P w K mg base k d N ps sp) : CalN P w K mg base (k + 1) x (d.ad K) ps sp := by
  obtain ⟨fd, D⟩ := D
  have e : d.vs K = [] := by
    unfold Dx.vs
    rw [hv]
    rfl
  have D' : FunD K d.nm d.ql (defArgs d.st) (defBody d.st) (defScope d.st) [] [] (d.ad K) fd := by
    rw [← e]
    exact D
  exact ⟨fd, okn_of D S len hb, FunD.bindsN D' hbi, D.kp, hm⟩
end
end Hk

/-! Own exceptions over any of the four built-in bases, raised (context None). -/
namespace Hk
open PySem PySem.Spec PyProof.Rows L2
def tTyp (x : Str) : Tst := fun K => decide (PySem.W.typeIn K (.ref (He.ga K x)) = some (.type "type"))
theorem pmk_ve {X : Cx} {CX : CXT} {x : Str} {e : Expr} {es : List Expr} {ta : TA} {p pos : Pos} {C fI : Addr} {k : Nat} {fd : FuncData} {ps : List Str} {sp : Sp} (T : VeC X.K C) (tyC : PySem.W.typeIn X.K (.ref C) = some (.type "type"))
    (iC : PySem.W.findIn X.K (.ref C) "__init__" = some (some (.ref fI))) (tI : PySem.W.typeIn X.K (.ref fI) = some (.type "function"))
    (F1 : FnOk X.prog X.w X.K X.mg X.base CX k fI fd ps sp) (hr : Room (k + 1) X.A) (hb : Binds X.K fd ps []) (hx : Passes CX X (fun _ _ _ => False)) (hg : Gl X x) (hm : X.mg x = some (.ref C)) (ha : PA X (e :: es) ta)
    (hdb : (x == ("__debug__" : Str)) = false := by decide) (he : starEach (e :: es) X.env = (false, eval e X.env) :: starEach es X.env := by rfl) (hpl : (backTo pos (starEach es X.env)).any (·.1) = false := by rfl) :
    L2N.PMk X (.Call (.Name x p) (e :: es) [] pos) (tMkO C sp [] ta) := by
  intro pins s σ H Q I h
  refine wpAny_Call_Name_kw (ld_glob I hg hm ?_ hdb)
  refine PySem.W.callWith_K (h₀ := X.base) I.ok.mod.kin T.kC (thn (ha.run pos pins s σ H _ I h) fun us s1 ⟨vs, H1, I1, r1, hz, q1⟩ => ⟨I1.kIn, ?_⟩) he hpl
  show wpAny _ _ (call (.ref C) us) _ _ _
  obtain ⟨B, newId, initId, bmB, b, ei, _⟩ := T.b
  obtain ⟨nm, N, q, bs, bm, hdct, sn, sub, ab, col, dd, k0, k1, k2, k3, k5, hC, hT⟩ := PySem.W.excInit_of I1.kIn ei
  obtain ⟨hp, g, dr, tk, os⟩ := s1
  have hsz : hp.objs.size ≤ hp.objs.size + 1 := Nat.le_succ _
  have hq := q1 (hp.objs.size + 1) (I1.hok.fresh hsz)
  rw [List.append_nil] at hq
  have kk : ∀ b o, hp.get? b = some o → ((hp.push (PySem.W.kdv_tup us)).push (PySem.HandSPX.excO C hp.objs.size)).get? b = some o := fun b o e => Heap.get?_push_of_some _ (Heap.get?_push_of_some _ e)
  have hget : ((hp.push (PySem.W.kdv_tup us)).push (PySem.HandSPX.excO C hp.objs.size)).get? (hp.objs.size + 1) = some (PySem.HandSPX.excO C hp.objs.size) := by heap_get
  have I2 : Inv X pins σ (upd H1 (hp.objs.size + 1) (exo (hp.objs.size + 1) C none)) ⟨(hp.push (PySem.W.kdv_tup us)).push (PySem.HandSPX.excO C hp.objs.size), g, dr, tk, os⟩ :=
    I1.laid (t' := tk) (a := hp.objs.size + 1) (o := exo (hp.objs.size + 1) C none) kk hsz (exo_ok hget)
  have r2 : Vals (V.ref (hp.objs.size + 1) :: vs) (Value.ref (hp.objs.size + 1) :: us) := .cons rfl r1
  have hl : (Value.ref (hp.objs.size + 1) :: us ++ []).length = ps.length := by
    rw [List.append_nil, ← r2.length, F1.len _ _ _ _ hq]
  have hus : us.length ≤ sizeLine := by
    rw [← Paired.length r1, sizeLine_eq]
    omega
  have b2 := hb _ (Value.ref (hp.objs.size + 1) :: us) I2.kIn hl
  rw [List.append_nil] at b2
  refine wpAny_call (call_kw (kw := []) b.f hT hC (PySem.W.looks_findIn I1.kIn iC) (fun self => PySem.W.bind_fn I1.kIn self tI) hus
    (codeAny_mono (F1.run _ X.stack _ _ ⟨Value.ref (hp.objs.size + 1) :: us, []⟩ (Value.ref (hp.objs.size + 1) :: us) _ _ (fun _ _ _ => False) (hr.make C us []) (I2.env0.make C us []) b2 r2 hq) fun r s' hq' => ?_))
  cases r with
  | error er => exact hx pins σ _ _ er s' I2 hq'
  | ok fl =>
    cases fl with
    | ret u =>
      obtain ⟨v, H2, os2, bare2, un2, hok2, rv, ev, d, fs, ea, ed, hd1, q2⟩ := hq'
      subst ev
      obtain ⟨h2, g2, d2, t2, os'⟩ := s'
      obtain ⟨t0, G, J, kG, ge, hoe, na⟩ := mk_end0 (d2 := d2) (t2 := t2) I1 hsz kk un2 hok2 os2 bare2 ea ed hd1
      refine ⟨rv, ⟨hp.objs.size + 1, _, _, ⟨G, g2, d2, t2, os'⟩, _, .ref C, some d, rfl, J, kG, ge, hoe, ⟨rfl, rfl, fun vs hv => ?_⟩, rfl, rfl, na, rfl, bare2, raises_own T.x.hs tyC, q2⟩⟩
      cases hv
      rfl
    | next => exact False.elim hq'
    | brk => exact False.elim hq'
    | cont => exact False.elim hq'
end Hk

namespace K54
open PySem PySem.Spec PyProof.Rows L2 Hk
def top (i : Nat) : Stmt := PySem.Challenge.pw_delaynets_k54_machine_runs_refused.main.body.getD i (.Pass ⟨0, 0, 0, 0⟩)
abbrev s_wall : Stmt := top 1
def d_wall : Dx := ⟨gAd "_wall", "_wall", "_wall", s_wall, []⟩
theorem sc_wall : FnScope ["k"] ["k"] (defScope s_wall) := ⟨rfl, rfl, rfl, by decide +kernel, rfl, by decide +kernel, by decide +kernel⟩
abbrev s_InvalidText_init : Stmt := inClass (top 4) 0
def d_InvalidText_init : Dx := ⟨mAd "InvalidText" "__init__", "__init__", "InvalidText.__init__", s_InvalidText_init, []⟩
theorem sc_InvalidText_init : FnScope ["self", "value"] ["self", "value"] (defScope s_InvalidText_init) := ⟨rfl, rfl, rfl, by decide +kernel, rfl, by decide +kernel, by decide +kernel⟩
abbrev s_InvalidCount_init : Stmt := inClass (top 5) 0
def d_InvalidCount_init : Dx := ⟨mAd "InvalidCount" "__init__", "__init__", "InvalidCount.__init__", s_InvalidCount_init, []⟩
theorem sc_InvalidCount_init : FnScope ["self", "value"] ["self", "value"] (defScope s_InvalidCount_init) := ⟨rfl, rfl, rfl, by decide +kernel, rfl, by decide +kernel, by decide +kernel⟩
abbrev s_InvalidRates_init : Stmt := inClass (top 6) 0
def d_InvalidRates_init : Dx := ⟨mAd "InvalidRates" "__init__", "__init__", "InvalidRates.__init__", s_InvalidRates_init, []⟩
theorem sc_InvalidRates_init : FnScope ["self", "value"] ["self", "value"] (defScope s_InvalidRates_init) := ⟨rfl, rfl, rfl, by decide +kernel, rfl, by decide +kernel, by decide +kernel⟩
abbrev s_NotANumber_init : Stmt := inClass (top 7) 0
def d_NotANumber_init : Dx := ⟨mAd "NotANumber" "__init__", "__init__", "NotANumber.__init__", s_NotANumber_init, []⟩
theorem sc_NotANumber_init : FnScope ["self", "value"] ["self", "value"] (defScope s_NotANumber_init) := ⟨rfl, rfl, rfl, by decide +kernel, rfl, by decide +kernel, by decide +kernel⟩
abbrev s_InvalidInputs_init : Stmt := inClass (top 8) 0
def d_InvalidInputs_init : Dx := ⟨mAd "InvalidInputs" "__init__", "__init__", "InvalidInputs.__init__", s_InvalidInputs_init, []⟩
theorem sc_InvalidInputs_init : FnScope ["self", "index"] ["self", "index"] (defScope s_InvalidInputs_init) := ⟨rfl, rfl, rfl, by decide +kernel, rfl, by decide +kernel, by decide +kernel⟩
abbrev s_InvalidSteps_init : Stmt := inClass (top 9) 0
def d_InvalidSteps_init : Dx := ⟨mAd "InvalidSteps" "__init__", "__init__", "InvalidSteps.__init__", s_InvalidSteps_init, []⟩
theorem sc_InvalidSteps_init : FnScope ["self", "index"] ["self", "index"] (defScope s_InvalidSteps_init) := ⟨rfl, rfl, rfl, by decide +kernel, rfl, by decide +kernel, by decide +kernel⟩
abbrev s_is_integer : Stmt := top 14
def d_is_integer : Dx := ⟨gAd "is_integer", "is_integer", "is_integer", s_is_integer, []⟩
theorem sc_is_integer : FnScope ["value"] ["value"] (defScope s_is_integer) := ⟨rfl, rfl, rfl, by decide +kernel, rfl, by decide +kernel, by decide +kernel⟩
abbrev s_is_number : Stmt := top 15
def d_is_number : Dx := ⟨gAd "is_number", "is_number", "is_number", s_is_number, []⟩
theorem sc_is_number : FnScope ["value"] ["value"] (defScope s_is_number) := ⟨rfl, rfl, rfl, by decide +kernel, rfl, by decide +kernel, by decide +kernel⟩
abbrev s_as_number : Stmt := top 16
def d_as_number : Dx := ⟨gAd "as_number", "as_number", "as_number", s_as_number, []⟩
theorem sc_as_number : FnScope ["value"] ["value"] (defScope s_as_number) := ⟨rfl, rfl, rfl, by decide +kernel, rfl, by decide +kernel, by decide +kernel⟩
abbrev s_Number_init : Stmt := inClass (top 17) 0
def d_Number_init : Dx := ⟨mAd "Number" "__init__", "__init__", "Number.__init__", s_Number_init, [.int 1]⟩
theorem sc_Number_init : FnScope ["self", "top", "bottom", "shared"] ["self", "top", "bottom"] (defScope s_Number_init) := ⟨rfl, rfl, rfl, by decide +kernel, rfl, by decide +kernel, by decide +kernel⟩
abbrev s_Number_read : Stmt := inClass (top 17) 1
def d_Number_read : Dx := ⟨statAd "Number" "read", "read", "Number.read", s_Number_read, []⟩
theorem sc_Number_read : FnScope ["text", "number"] ["text"] (defScope s_Number_read) := ⟨rfl, rfl, rfl, by decide +kernel, rfl, by decide +kernel, by decide +kernel⟩
abbrev s_Number_top : Stmt := inClass (top 17) 2
def d_Number_top : Dx := ⟨getAd "Number" "top", "top", "Number.top", s_Number_top, []⟩
theorem sc_Number_top : FnScope ["self"] ["self"] (defScope s_Number_top) := ⟨rfl, rfl, rfl, by decide +kernel, rfl, by decide +kernel, by decide +kernel⟩
abbrev s_Number_bottom : Stmt := inClass (top 17) 3
def d_Number_bottom : Dx := ⟨getAd "Number" "bottom", "bottom", "Number.bottom", s_Number_bottom, []⟩
theorem sc_Number_bottom : FnScope ["self"] ["self"] (defScope s_Number_bottom) := ⟨rfl, rfl, rfl, by decide +kernel, rfl, by decide +kernel, by decide +kernel⟩
abbrev s_Number_sign : Stmt := inClass (top 17) 4
def d_Number_sign : Dx := ⟨getAd "Number" "sign", "sign", "Number.sign", s_Number_sign, []⟩
theorem sc_Number_sign : FnScope ["self"] ["self"] (defScope s_Number_sign) := ⟨rfl, rfl, rfl, by decide +kernel, rfl, by decide +kernel, by decide +kernel⟩
abbrev s_Number_over : Stmt := inClass (top 17) 5
def d_Number_over : Dx := ⟨mAd "Number" "over", "over", "Number.over", s_Number_over, []⟩
theorem sc_Number_over : FnScope ["self", "other"] ["self", "other"] (defScope s_Number_over) := ⟨rfl, rfl, rfl, by decide +kernel, rfl, by decide +kernel, by decide +kernel⟩
abbrev s_Number_add : Stmt := inClass (top 17) 6
def d_Number_add : Dx := ⟨mAd "Number" "__add__", "__add__", "Number.__add__", s_Number_add, []⟩
theorem sc_Number_add : FnScope ["self", "other", "right"] ["self", "other"] (defScope s_Number_add) := ⟨rfl, rfl, rfl, by decide +kernel, rfl, by decide +kernel, by decide +kernel⟩
abbrev s_Number_radd : Stmt := inClass (top 17) 7
def d_Number_radd : Dx := ⟨mAd "Number" "__radd__", "__radd__", "Number.__radd__", s_Number_radd, []⟩
theorem sc_Number_radd : FnScope ["self", "other"] ["self", "other"] (defScope s_Number_radd) := ⟨rfl, rfl, rfl, by decide +kernel, rfl, by decide +kernel, by decide +kernel⟩
abbrev s_Number_sub : Stmt := inClass (top 17) 8
def d_Number_sub : Dx := ⟨mAd "Number" "__sub__", "__sub__", "Number.__sub__", s_Number_sub, []⟩
theorem sc_Number_sub : FnScope ["self", "other", "right"] ["self", "other"] (defScope s_Number_sub) := ⟨rfl, rfl, rfl, by decide +kernel, rfl, by decide +kernel, by decide +kernel⟩
abbrev s_Number_rsub : Stmt := inClass (top 17) 9
def d_Number_rsub : Dx := ⟨mAd "Number" "__rsub__", "__rsub__", "Number.__rsub__", s_Number_rsub, []⟩
theorem sc_Number_rsub : FnScope ["self", "other"] ["self", "other"] (defScope s_Number_rsub) := ⟨rfl, rfl, rfl, by decide +kernel, rfl, by decide +kernel, by decide +kernel⟩
abbrev s_Number_mul : Stmt := inClass (top 17) 10
def d_Number_mul : Dx := ⟨mAd "Number" "__mul__", "__mul__", "Number.__mul__", s_Number_mul, []⟩
theorem sc_Number_mul : FnScope ["self", "other", "right"] ["self", "other"] (defScope s_Number_mul) := ⟨rfl, rfl, rfl, by decide +kernel, rfl, by decide +kernel, by decide +kernel⟩
abbrev s_Number_rmul : Stmt := inClass (top 17) 11
def d_Number_rmul : Dx := ⟨mAd "Number" "__rmul__", "__rmul__", "Number.__rmul__", s_Number_rmul, []⟩
theorem sc_Number_rmul : FnScope ["self", "other"] ["self", "other"] (defScope s_Number_rmul) := ⟨rfl, rfl, rfl, by decide +kernel, rfl, by decide +kernel, by decide +kernel⟩
abbrev s_Number_neg : Stmt := inClass (top 17) 12
def d_Number_neg : Dx := ⟨mAd "Number" "__neg__", "__neg__", "Number.__neg__", s_Number_neg, []⟩
theorem sc_Number_neg : FnScope ["self"] ["self"] (defScope s_Number_neg) := ⟨rfl, rfl, rfl, by decide +kernel, rfl, by decide +kernel, by decide +kernel⟩
abbrev s_Number_abs : Stmt := inClass (top 17) 13
def d_Number_abs : Dx := ⟨mAd "Number" "__abs__", "__abs__", "Number.__abs__", s_Number_abs, []⟩
theorem sc_Number_abs : FnScope ["self"] ["self"] (defScope s_Number_abs) := ⟨rfl, rfl, rfl, by decide +kernel, rfl, by decide +kernel, by decide +kernel⟩
abbrev s_Number_pow : Stmt := inClass (top 17) 14
def d_Number_pow : Dx := ⟨mAd "Number" "__pow__", "__pow__", "Number.__pow__", s_Number_pow, []⟩
theorem sc_Number_pow : FnScope ["self", "other", "power", "_"] ["self", "other"] (defScope s_Number_pow) := ⟨rfl, rfl, rfl, by decide +kernel, rfl, by decide +kernel, by decide +kernel⟩
abbrev s_Number_eq : Stmt := inClass (top 17) 15
def d_Number_eq : Dx := ⟨mAd "Number" "__eq__", "__eq__", "Number.__eq__", s_Number_eq, []⟩
theorem sc_Number_eq : FnScope ["self", "other"] ["self", "other"] (defScope s_Number_eq) := ⟨rfl, rfl, rfl, by decide +kernel, rfl, by decide +kernel, by decide +kernel⟩
abbrev s_Number_str : Stmt := inClass (top 17) 16
def d_Number_str : Dx := ⟨mAd "Number" "__str__", "__str__", "Number.__str__", s_Number_str, []⟩
theorem sc_Number_str : FnScope ["self"] ["self"] (defScope s_Number_str) := ⟨rfl, rfl, rfl, by decide +kernel, rfl, by decide +kernel, by decide +kernel⟩
abbrev s_Number_repr : Stmt := inClass (top 17) 17
def d_Number_repr : Dx := ⟨mAd "Number" "__repr__", "__repr__", "Number.__repr__", s_Number_repr, []⟩
theorem sc_Number_repr : FnScope ["self"] ["self"] (defScope s_Number_repr) := ⟨rfl, rfl, rfl, by decide +kernel, rfl, by decide +kernel, by decide +kernel⟩
abbrev s_number_in : Stmt := top 18
def d_number_in : Dx := ⟨gAd "_number_in", "_number_in", "_number_in", s_number_in, []⟩
theorem sc_number_in : FnScope ["text", "top", "slash", "bottom"] ["text"] (defScope s_number_in) := ⟨rfl, rfl, rfl, by decide +kernel, rfl, by decide +kernel, by decide +kernel⟩
abbrev s_is_digits : Stmt := top 19
def d_is_digits : Dx := ⟨gAd "_is_digits", "_is_digits", "_is_digits", s_is_digits, []⟩
theorem sc_is_digits : FnScope ["text"] ["text"] (defScope s_is_digits) := ⟨rfl, rfl, rfl, by decide +kernel, rfl, by decide +kernel, by decide +kernel⟩
abbrev s_ticks_per_unit : Stmt := top 21
def d_ticks_per_unit : Dx := ⟨gAd "ticks_per_unit", "ticks_per_unit", "ticks_per_unit", s_ticks_per_unit, []⟩
theorem sc_ticks_per_unit : FnScope ["rates", "ticks", "top", "_"] ["rates"] (defScope s_ticks_per_unit) := ⟨rfl, rfl, rfl, by decide +kernel, rfl, by decide +kernel, by decide +kernel⟩
abbrev s_Machine_init : Stmt := inClass (top 26) 0
def d_Machine_init : Dx := ⟨mAd "Machine" "__init__", "__init__", "Machine.__init__", s_Machine_init, []⟩
theorem sc_Machine_init : FnScope ["self", "input_rates", "output_rates", "steps", "rates", "index", "step", "at", "tick", "written", "table"] ["self", "input_rates", "output_rates", "steps"] (defScope s_Machine_init) := ⟨rfl, rfl, rfl, by decide +kernel, rfl, by decide +kernel, by decide +kernel⟩
abbrev s_Machine_input_rates : Stmt := inClass (top 26) 1
def d_Machine_input_rates : Dx := ⟨getAd "Machine" "input_rates", "input_rates", "Machine.input_rates", s_Machine_input_rates, []⟩
theorem sc_Machine_input_rates : FnScope ["self"] ["self"] (defScope s_Machine_input_rates) := ⟨rfl, rfl, rfl, by decide +kernel, rfl, by decide +kernel, by decide +kernel⟩
abbrev s_Machine_output_rates : Stmt := inClass (top 26) 2
def d_Machine_output_rates : Dx := ⟨getAd "Machine" "output_rates", "output_rates", "Machine.output_rates", s_Machine_output_rates, []⟩
theorem sc_Machine_output_rates : FnScope ["self"] ["self"] (defScope s_Machine_output_rates) := ⟨rfl, rfl, rfl, by decide +kernel, rfl, by decide +kernel, by decide +kernel⟩
abbrev s_Machine_steps : Stmt := inClass (top 26) 3
def d_Machine_steps : Dx := ⟨getAd "Machine" "steps", "steps", "Machine.steps", s_Machine_steps, []⟩
theorem sc_Machine_steps : FnScope ["self"] ["self"] (defScope s_Machine_steps) := ⟨rfl, rfl, rfl, by decide +kernel, rfl, by decide +kernel, by decide +kernel⟩
abbrev s_Machine_turn : Stmt := inClass (top 26) 4
def d_Machine_turn : Dx := ⟨getAd "Machine" "turn", "turn", "Machine.turn", s_Machine_turn, []⟩
theorem sc_Machine_turn : FnScope ["self"] ["self"] (defScope s_Machine_turn) := ⟨rfl, rfl, rfl, by decide +kernel, rfl, by decide +kernel, by decide +kernel⟩
abbrev s_Machine_sizes : Stmt := inClass (top 26) 5
def d_Machine_sizes : Dx := ⟨getAd "Machine" "sizes", "sizes", "Machine.sizes", s_Machine_sizes, []⟩
theorem sc_Machine_sizes : FnScope ["self"] ["self"] (defScope s_Machine_sizes) := ⟨rfl, rfl, rfl, by decide +kernel, rfl, by decide +kernel, by decide +kernel⟩
abbrev s_Machine_reads : Stmt := inClass (top 26) 6
def d_Machine_reads : Dx := ⟨mAd "Machine" "reads", "reads", "Machine.reads", s_Machine_reads, []⟩
theorem sc_Machine_reads : FnScope ["self"] ["self"] (defScope s_Machine_reads) := ⟨rfl, rfl, rfl, by decide +kernel, rfl, by decide +kernel, by decide +kernel⟩
abbrev s_Machine_run : Stmt := inClass (top 26) 7
def d_Machine_run : Dx := ⟨mAd "Machine" "run", "run", "Machine.run", s_Machine_run, []⟩
theorem sc_Machine_run : FnScope ["self", "until", "inputs", "index", "row", "sample", "rows", "shown", "_"] ["self", "until", "inputs"] (defScope s_Machine_run) := ⟨rfl, rfl, rfl, by decide +kernel, rfl, by decide +kernel, by decide +kernel⟩
abbrev s_Machine_eq : Stmt := inClass (top 26) 8
def d_Machine_eq : Dx := ⟨mAd "Machine" "__eq__", "__eq__", "Machine.__eq__", s_Machine_eq, []⟩
theorem sc_Machine_eq : FnScope ["self", "other"] ["self", "other"] (defScope s_Machine_eq) := ⟨rfl, rfl, rfl, by decide +kernel, rfl, by decide +kernel, by decide +kernel⟩
abbrev s_Machine_repr : Stmt := inClass (top 26) 9
def d_Machine_repr : Dx := ⟨mAd "Machine" "__repr__", "__repr__", "Machine.__repr__", s_Machine_repr, []⟩
theorem sc_Machine_repr : FnScope ["self"] ["self"] (defScope s_Machine_repr) := ⟨rfl, rfl, rfl, by decide +kernel, rfl, by decide +kernel, by decide +kernel⟩
abbrev s_due_at : Stmt := top 27
def d_due_at : Dx := ⟨gAd "due_at", "due_at", "due_at", s_due_at, []⟩
theorem sc_due_at : FnScope ["rates", "per_unit", "tick", "at", "top", "bottom"] ["rates", "per_unit", "tick"] (defScope s_due_at) := ⟨rfl, rfl, rfl, by decide +kernel, rfl, by decide +kernel, by decide +kernel⟩
abbrev s_samples_below : Stmt := top 28
def d_samples_below : Dx := ⟨gAd "samples_below", "samples_below", "samples_below", s_samples_below, []⟩
theorem sc_samples_below : FnScope ["rate", "until", "top", "bottom"] ["rate", "until"] (defScope s_samples_below) := ⟨rfl, rfl, rfl, by decide +kernel, rfl, by decide +kernel, by decide +kernel⟩
abbrev s_walked : Stmt := top 29
def d_walked : Dx := ⟨gAd "walked", "walked", "walked", s_walked, []⟩
theorem sc_walked : FnScope ["machine", "until", "rows", "kept", "zero", "per_unit", "shown", "_", "tick", "read", "at", "lead", "take", "show", "give", "one", "other"] ["machine", "until", "rows", "kept", "zero"] (defScope s_walked) := ⟨rfl, rfl, rfl, by decide +kernel, rfl, by decide +kernel, by decide +kernel⟩
abbrev s_summed : Stmt := top 30
def d_summed : Dx := ⟨gAd "_summed", "_summed", "_summed", s_summed, []⟩
theorem sc_summed : FnScope ["row", "values", "total", "number", "value"] ["row", "values", "total"] (defScope s_summed) := ⟨rfl, rfl, rfl, by decide +kernel, rfl, by decide +kernel, by decide +kernel⟩
abbrev s_are_rates : Stmt := top 31
def d_are_rates : Dx := ⟨gAd "_are_rates", "_are_rates", "_are_rates", s_are_rates, []⟩
theorem sc_are_rates : FnScope ["value", "rate"] ["value"] (defScope s_are_rates) := ⟨rfl, rfl, rfl, by decide +kernel, rfl, by decide +kernel, by decide +kernel⟩
abbrev s_is_rate : Stmt := top 32
def d_is_rate : Dx := ⟨gAd "_is_rate", "_is_rate", "_is_rate", s_is_rate, []⟩
theorem sc_is_rate : FnScope ["value", "part"] ["value"] (defScope s_is_rate) := ⟨rfl, rfl, rfl, by decide +kernel, rfl, by decide +kernel, by decide +kernel⟩
abbrev s_is_turn : Stmt := top 33
def d_is_turn : Dx := ⟨gAd "_is_turn", "_is_turn", "_is_turn", s_is_turn, []⟩
theorem sc_is_turn : FnScope ["many", "per_unit", "rates", "shortest", "_", "bottom"] ["many", "per_unit", "rates"] (defScope s_is_turn) := ⟨rfl, rfl, rfl, by decide +kernel, rfl, by decide +kernel, by decide +kernel⟩
abbrev s_is_step : Stmt := top 34
def d_is_step : Dx := ⟨gAd "_is_step", "_is_step", "_is_step", s_is_step, []⟩
theorem sc_is_step : FnScope ["value", "table"] ["value"] (defScope s_is_step) := ⟨rfl, rfl, rfl, by decide +kernel, rfl, by decide +kernel, by decide +kernel⟩
abbrev s_is_table : Stmt := top 35
def d_is_table : Dx := ⟨gAd "_is_table", "_is_table", "_is_table", s_is_table, []⟩
theorem sc_is_table : FnScope ["value", "row"] ["value"] (defScope s_is_table) := ⟨rfl, rfl, rfl, by decide +kernel, rfl, by decide +kernel, by decide +kernel⟩
abbrev s_is_row : Stmt := top 36
def d_is_row : Dx := ⟨gAd "_is_row", "_is_row", "_is_row", s_is_row, []⟩
theorem sc_is_row : FnScope ["value", "number"] ["value"] (defScope s_is_row) := ⟨rfl, rfl, rfl, by decide +kernel, rfl, by decide +kernel, by decide +kernel⟩
abbrev s_fits : Stmt := top 37
def d_fits : Dx := ⟨gAd "_fits", "_fits", "_fits", s_fits, []⟩
theorem sc_fits : FnScope ["step", "size", "reads", "written", "lead", "take", "show", "give", "row"] ["step", "size", "reads", "written"] (defScope s_fits) := ⟨rfl, rfl, rfl, by decide +kernel, rfl, by decide +kernel, by decide +kernel⟩
abbrev s_with_numbers : Stmt := top 38
def d_with_numbers : Dx := ⟨gAd "_with_numbers", "_with_numbers", "_with_numbers", s_with_numbers, []⟩
theorem sc_with_numbers : FnScope ["table", "number", "row"] ["table"] (defScope s_with_numbers) := ⟨rfl, rfl, rfl, by decide +kernel, rfl, by decide +kernel, by decide +kernel⟩
abbrev s_l_spring : Stmt := top 40
def d_l_spring : Dx := ⟨gAd "_law_spring", "_law_spring", "_law_spring", s_l_spring, []⟩
theorem sc_l_spring : FnScope ["_law_script", "_law_spot", "_law_mixed", "_law_at", "_law_own", "_law_digits"] ["_law_script", "_law_spot"] (defScope s_l_spring) := ⟨rfl, rfl, rfl, by decide +kernel, rfl, by decide +kernel, by decide +kernel⟩
abbrev s_l_next : Stmt := top 41
def d_l_next : Dx := ⟨gAd "_law_next", "_law_next", "_law_next", s_l_next, []⟩
theorem sc_l_next : FnScope ["_law_spring_here", "_law_many_here", "_law_digit", "_law_state"] ["_law_spring_here", "_law_many_here"] (defScope s_l_next) := ⟨rfl, rfl, rfl, by decide +kernel, rfl, by decide +kernel, by decide +kernel⟩
abbrev s_l_one : Stmt := top 42
def d_l_one : Dx := ⟨gAd "_law_one", "_law_one", "_law_one", s_l_one, []⟩
theorem sc_l_one : FnScope ["_law_spring_here", "_law_things"] ["_law_spring_here", "_law_things"] (defScope s_l_one) := ⟨rfl, rfl, rfl, by decide +kernel, rfl, by decide +kernel, by decide +kernel⟩
abbrev s_l_ticks : Stmt := top 43
def d_l_ticks : Dx := ⟨gAd "_law_ticks", "_law_ticks", "_law_ticks", s_l_ticks, []⟩
theorem sc_l_ticks : FnScope ["_law_rates", "_law_found", "_law_top", "_law_bottom"] ["_law_rates"] (defScope s_l_ticks) := ⟨rfl, rfl, rfl, by decide +kernel, rfl, by decide +kernel, by decide +kernel⟩
abbrev s_l_stands : Stmt := top 44
def d_l_stands : Dx := ⟨gAd "_law_stands", "_law_stands", "_law_stands", s_l_stands, []⟩
theorem sc_l_stands : FnScope ["_law_rate", "_law_tick", "_law_ticks_here"] ["_law_rate", "_law_tick", "_law_ticks_here"] (defScope s_l_stands) := ⟨rfl, rfl, rfl, by decide +kernel, rfl, by decide +kernel, by decide +kernel⟩
abbrev s_l_many : Stmt := top 45
def d_l_many : Dx := ⟨gAd "_law_many", "_law_many", "_law_many", s_l_many, []⟩
theorem sc_l_many : FnScope ["_law_rates", "_law_tick", "_law_ticks_here", "_law_rate"] ["_law_rates", "_law_tick", "_law_ticks_here"] (defScope s_l_many) := ⟨rfl, rfl, rfl, by decide +kernel, rfl, by decide +kernel, by decide +kernel⟩
abbrev s_l_count : Stmt := top 46
def d_l_count : Dx := ⟨gAd "_law_count", "_law_count", "_law_count", s_l_count, []⟩
theorem sc_l_count : FnScope ["_law_rate", "_law_until", "_law_at"] ["_law_rate", "_law_until"] (defScope s_l_count) := ⟨rfl, rfl, rfl, by decide +kernel, rfl, by decide +kernel, by decide +kernel⟩
abbrev s_l_table : Stmt := top 47
def d_l_table : Dx := ⟨gAd "_law_table", "_law_table", "_law_table", s_l_table, []⟩
theorem sc_l_table : FnScope ["_law_spring_here", "_law_rows", "_law_columns", "_law_menu", "_law_column", "_law_row"] ["_law_spring_here", "_law_rows", "_law_columns"] (defScope s_l_table) := ⟨rfl, rfl, rfl, by decide +kernel, rfl, by decide +kernel, by decide +kernel⟩
abbrev s_l_machine : Stmt := top 48
def d_l_machine : Dx := ⟨gAd "_law_machine", "_law_machine", "_law_machine", s_l_machine, []⟩
theorem sc_l_machine : FnScope ["_law_spring_here", "_law_menu", "_law_reads", "_law_turn", "_law_writes", "_law_ticks_here", "_law_top", "_law_bottom", "_law_sizes", "_law_tick", "_law_steps_here", "_law_before", "_law_after", "_law_read", "_law_written", "_law_shapes", "_law_rows", "_law_columns"] ["_law_spring_here"] (defScope s_l_machine) := ⟨rfl, rfl, rfl, by decide +kernel, rfl, by decide +kernel, by decide +kernel⟩
abbrev s_l_passed : Stmt := top 49
def d_l_passed : Dx := ⟨gAd "_law_passed", "_law_passed", "_law_passed", s_l_passed, []⟩
theorem sc_l_passed : FnScope ["_law_spring_here", "_law_table_here", "_law_found", "_law_row", "_law_pairs", "_law_top", "_law_bottom", "_law_whole", "_law_each", "_law_is_whole"] ["_law_spring_here", "_law_table_here"] (defScope s_l_passed) := ⟨rfl, rfl, rfl, by decide +kernel, rfl, by decide +kernel, by decide +kernel⟩
abbrev s_l_steps : Stmt := top 50
def d_l_steps : Dx := ⟨gAd "_law_steps", "_law_steps", "_law_steps", s_l_steps, []⟩
theorem sc_l_steps : FnScope ["_law_spring_here", "_law_steps_here", "_law_table_here", "_law_step"] ["_law_spring_here", "_law_steps_here"] (defScope s_l_steps) := ⟨rfl, rfl, rfl, by decide +kernel, rfl, by decide +kernel, by decide +kernel⟩
abbrev s_l_told : Stmt := top 51
def d_l_told : Dx := ⟨gAd "_law_told", "_law_told", "_law_told", s_l_told, []⟩
theorem sc_l_told : FnScope ["_law_act", "e"] ["_law_act"] (defScope s_l_told) := ⟨rfl, rfl, rfl, by decide +kernel, rfl, by decide +kernel, by decide +kernel⟩
abbrev s_l_run : Stmt := top 52
def d_l_run : Dx := ⟨gAd "_law_run", "_law_run", "_law_run", s_l_run, []⟩
theorem sc_l_run : FnScope ["_law_machine_here", "_law_until", "_law_rows"] ["_law_machine_here", "_law_until", "_law_rows"] (defScope s_l_run) := ⟨rfl, rfl, rfl, by decide +kernel, rfl, by decide +kernel, by decide +kernel⟩
abbrev s_l_spoilt : Stmt := top 53
def d_l_spoilt : Dx := ⟨gAd "_law_spoilt", "_law_spoilt", "_law_spoilt", s_l_spoilt, []⟩
theorem sc_l_spoilt : FnScope ["_law_spring_here", "_law_row", "_law_menu", "_law_at", "_law_odd"] ["_law_spring_here", "_law_row"] (defScope s_l_spoilt) := ⟨rfl, rfl, rfl, by decide +kernel, rfl, by decide +kernel, by decide +kernel⟩
abbrev s_l_right : Stmt := top 54
def d_l_right : Dx := ⟨gAd "_law_right", "_law_right", "_law_right", s_l_right, []⟩
theorem sc_l_right : FnScope ["_law_spring_here", "_law_model", "_law_until", "_law_rows", "_law_at", "_law_rate", "_law_machine_here", "_law_first", "_law_odd", "_law_bad", "_law_told_here", "_law_due"] ["_law_spring_here"] (defScope s_l_right) := ⟨rfl, rfl, rfl, by decide +kernel, rfl, by decide +kernel, by decide +kernel⟩
abbrev s_law : Stmt := top 55
def d_law : Dx := ⟨gAd "law", "law", "law", s_law, []⟩
theorem sc_law : FnScope ["_law_script", "_law_spot", "_law_spring_here", "_law_turn"] ["_law_script"] (defScope s_law) := ⟨rfl, rfl, rfl, by decide +kernel, rfl, by decide +kernel, by decide +kernel⟩
def FN : List Dx := [d_InvalidCount_init, d_InvalidInputs_init, d_is_integer, d_is_number, d_as_number, d_Number_init, d_Number_top, d_Number_bottom, d_Number_sign, d_Number_add, d_Number_sub, d_Number_mul, d_Number_str, d_Number_repr, d_ticks_per_unit, d_Machine_init, d_Machine_input_rates, d_Machine_output_rates, d_Machine_steps, d_Machine_run, d_due_at, d_samples_below, d_walked, d_summed, d_are_rates, d_is_rate, d_is_turn, d_is_step, d_is_table, d_is_row, d_fits, d_with_numbers, d_l_spring, d_l_next, d_l_one, d_l_ticks, d_l_stands, d_l_many, d_l_count, d_l_table, d_l_machine, d_l_passed, d_l_steps, d_l_told, d_l_run, d_l_spoilt, d_l_right, d_law]
def FA : List Tst := [tGlo "is_integer",
  tGlo "is_number",
  tGlo "as_number",
  tGlo "ticks_per_unit",
  tGlo "due_at",
  tGlo "samples_below",
  tGlo "walked",
  tGlo "_summed",
  tGlo "_are_rates",
  tGlo "_is_rate",
  tGlo "_is_turn",
  tGlo "_is_step",
  tGlo "_is_table",
  tGlo "_is_row",
  tGlo "_fits",
  tGlo "_with_numbers",
  tGlo "_law_spring",
  tGlo "_law_next",
  tGlo "_law_one",
  tGlo "_law_ticks",
  tGlo "_law_stands",
  tGlo "_law_many",
  tGlo "_law_count",
  tGlo "_law_table",
  tGlo "_law_machine",
  tGlo "_law_passed",
  tGlo "_law_steps",
  tGlo "_law_told",
  tGlo "_law_run",
  tGlo "_law_spoilt",
  tGlo "_law_right",
  tGlo "law",
  tBlt "gcd" "math.gcd",
  tBlt "lcm" "math.lcm",
  tInt "MAX_MACHINE_RATE" 12,
  tInt "MAX_ROWS" 6,
  tInt "TABLES" 4,
  tFree "abs",
  tFree "all",
  tFree "bool",
  tFree "enumerate",
  tFree "int",
  tFree "isinstance",
  tFree "len",
  tFree "list",
  tFree "max",
  tFree "min",
  tFree "range",
  tFree "repr",
  tFree "str",
  tFree "tuple",
  tFree "zip",
  tGlo "InputError",
  tGlo "InvalidCount",
  tGlo "InvalidInputs",
  tGlo "Number",
  tGlo "Machine",
  tCls "Number",
  tMkr "Number",
  tNoat "Number" "_top",
  tNoat "Number" "_bottom",
  tProp "Number" "top",
  tProp "Number" "bottom",
  tProp "Number" "sign",
  tMeth "Number" "__str__",
  tIns "Number",
  tKitO "Number" "Number" true,
  tBin "Number" "add",
  tBin "Number" "mul",
  tKit "int" "Number" false,
  tCls "Machine",
  tMkr "Machine",
  tMeth "Machine" "run",
  tProp "Machine" "input_rates",
  tProp "Machine" "output_rates",
  tProp "Machine" "steps",
  tNoat "Machine" "_per_unit",
  tNoat "Machine" "_input_rates",
  tNoat "Machine" "_output_rates",
  tNoat "Machine" "_sizes",
  tNoat "Machine" "_reads",
  tNoat "Machine" "_steps",
  tMeth "Number" "__repr__",
  tAll [tKit "NoneType" "Number" false, tKit "bool" "Number" false, tKit "str" "Number" false, tKit "tuple" "Number" false, tKit "list" "Number" false, tKit "dict" "Number" false],
  tVe "InvalidCount",
  tTyp "InvalidCount",
  tInit "InvalidCount",
  tXfc "InvalidCount",
  tNof "InvalidCount" "value",
  tExm "InvalidCount" "InputError" true,
  tKitO "InvalidCount" "InvalidCount" true,
  tVe "InvalidInputs",
  tTyp "InvalidInputs",
  tInit "InvalidInputs",
  tXfc "InvalidInputs",
  tNof "InvalidInputs" "index",
  tExm "InvalidInputs" "InputError" true,
  tKitO "InvalidInputs" "InvalidCount" false,
  tKitO "InvalidInputs" "InvalidInputs" true,
  tTabs [d_l_right]]
abbrev Sy (K : Fr) : Prop := Says FA FN K
theorem f_glo_is_integer {K : Fr} (c : Sy K) : (tGlo "is_integer") K = true := c.tst 0
theorem f_glo_is_number {K : Fr} (c : Sy K) : (tGlo "is_number") K = true := c.tst 1
theorem f_glo_as_number {K : Fr} (c : Sy K) : (tGlo "as_number") K = true := c.tst 2
theorem f_glo_ticks_per_unit {K : Fr} (c : Sy K) : (tGlo "ticks_per_unit") K = true := c.tst 3
theorem f_glo_due_at {K : Fr} (c : Sy K) : (tGlo "due_at") K = true := c.tst 4
theorem f_glo_samples_below {K : Fr} (c : Sy K) : (tGlo "samples_below") K = true := c.tst 5
theorem f_glo_walked {K : Fr} (c : Sy K) : (tGlo "walked") K = true := c.tst 6
theorem f_glo_summed {K : Fr} (c : Sy K) : (tGlo "_summed") K = true := c.tst 7
theorem f_glo_are_rates {K : Fr} (c : Sy K) : (tGlo "_are_rates") K = true := c.tst 8
theorem f_glo_is_rate {K : Fr} (c : Sy K) : (tGlo "_is_rate") K = true := c.tst 9
theorem f_glo_is_turn {K : Fr} (c : Sy K) : (tGlo "_is_turn") K = true := c.tst 10
theorem f_glo_is_step {K : Fr} (c : Sy K) : (tGlo "_is_step") K = true := c.tst 11
theorem f_glo_is_table {K : Fr} (c : Sy K) : (tGlo "_is_table") K = true := c.tst 12
theorem f_glo_is_row {K : Fr} (c : Sy K) : (tGlo "_is_row") K = true := c.tst 13
theorem f_glo_fits {K : Fr} (c : Sy K) : (tGlo "_fits") K = true := c.tst 14
theorem f_glo_with_numbers {K : Fr} (c : Sy K) : (tGlo "_with_numbers") K = true := c.tst 15
theorem f_glo_l_spring {K : Fr} (c : Sy K) : (tGlo "_law_spring") K = true := c.tst 16
theorem f_glo_l_next {K : Fr} (c : Sy K) : (tGlo "_law_next") K = true := c.tst 17
theorem f_glo_l_one {K : Fr} (c : Sy K) : (tGlo "_law_one") K = true := c.tst 18
theorem f_glo_l_ticks {K : Fr} (c : Sy K) : (tGlo "_law_ticks") K = true := c.tst 19
theorem f_glo_l_stands {K : Fr} (c : Sy K) : (tGlo "_law_stands") K = true := c.tst 20
theorem f_glo_l_many {K : Fr} (c : Sy K) : (tGlo "_law_many") K = true := c.tst 21
theorem f_glo_l_count {K : Fr} (c : Sy K) : (tGlo "_law_count") K = true := c.tst 22
theorem f_glo_l_table {K : Fr} (c : Sy K) : (tGlo "_law_table") K = true := c.tst 23
theorem f_glo_l_machine {K : Fr} (c : Sy K) : (tGlo "_law_machine") K = true := c.tst 24
theorem f_glo_l_passed {K : Fr} (c : Sy K) : (tGlo "_law_passed") K = true := c.tst 25
theorem f_glo_l_steps {K : Fr} (c : Sy K) : (tGlo "_law_steps") K = true := c.tst 26
theorem f_glo_l_told {K : Fr} (c : Sy K) : (tGlo "_law_told") K = true := c.tst 27
theorem f_glo_l_run {K : Fr} (c : Sy K) : (tGlo "_law_run") K = true := c.tst 28
theorem f_glo_l_spoilt {K : Fr} (c : Sy K) : (tGlo "_law_spoilt") K = true := c.tst 29
theorem f_glo_l_right {K : Fr} (c : Sy K) : (tGlo "_law_right") K = true := c.tst 30
theorem f_glo_law {K : Fr} (c : Sy K) : (tGlo "law") K = true := c.tst 31
theorem f_blt_gcd {K : Fr} (c : Sy K) : (tBlt "gcd" "math.gcd") K = true := c.tst 32
theorem f_blt_lcm {K : Fr} (c : Sy K) : (tBlt "lcm" "math.lcm") K = true := c.tst 33
theorem f_int_MAX_MACHINE_RATE {K : Fr} (c : Sy K) : (tInt "MAX_MACHINE_RATE" 12) K = true := c.tst 34
theorem f_int_MAX_ROWS {K : Fr} (c : Sy K) : (tInt "MAX_ROWS" 6) K = true := c.tst 35
theorem f_int_TABLES {K : Fr} (c : Sy K) : (tInt "TABLES" 4) K = true := c.tst 36
theorem f_free_abs {K : Fr} (c : Sy K) : (tFree "abs") K = true := c.tst 37
theorem f_free_all {K : Fr} (c : Sy K) : (tFree "all") K = true := c.tst 38
theorem f_free_bool {K : Fr} (c : Sy K) : (tFree "bool") K = true := c.tst 39
theorem f_free_enumerate {K : Fr} (c : Sy K) : (tFree "enumerate") K = true := c.tst 40
theorem f_free_int {K : Fr} (c : Sy K) : (tFree "int") K = true := c.tst 41
theorem f_free_isinstance {K : Fr} (c : Sy K) : (tFree "isinstance") K = true := c.tst 42
theorem f_free_len {K : Fr} (c : Sy K) : (tFree "len") K = true := c.tst 43
theorem f_free_list {K : Fr} (c : Sy K) : (tFree "list") K = true := c.tst 44
theorem f_free_max {K : Fr} (c : Sy K) : (tFree "max") K = true := c.tst 45
theorem f_free_min {K : Fr} (c : Sy K) : (tFree "min") K = true := c.tst 46
theorem f_free_range {K : Fr} (c : Sy K) : (tFree "range") K = true := c.tst 47
theorem f_free_repr {K : Fr} (c : Sy K) : (tFree "repr") K = true := c.tst 48
theorem f_free_str {K : Fr} (c : Sy K) : (tFree "str") K = true := c.tst 49
theorem f_free_tuple {K : Fr} (c : Sy K) : (tFree "tuple") K = true := c.tst 50
theorem f_free_zip {K : Fr} (c : Sy K) : (tFree "zip") K = true := c.tst 51
theorem f_glo_InputError {K : Fr} (c : Sy K) : (tGlo "InputError") K = true := c.tst 52
theorem f_glo_InvalidCount {K : Fr} (c : Sy K) : (tGlo "InvalidCount") K = true := c.tst 53
theorem f_glo_InvalidInputs {K : Fr} (c : Sy K) : (tGlo "InvalidInputs") K = true := c.tst 54
theorem f_glo_Number {K : Fr} (c : Sy K) : (tGlo "Number") K = true := c.tst 55
theorem f_glo_Machine {K : Fr} (c : Sy K) : (tGlo "Machine") K = true := c.tst 56
theorem f_cls_Number {K : Fr} (c : Sy K) : (tCls "Number") K = true := c.tst 57
theorem f_mkr_Number {K : Fr} (c : Sy K) : (tMkr "Number") K = true := c.tst 58
theorem f_noat_top {K : Fr} (c : Sy K) : (tNoat "Number" "_top") K = true := c.tst 59
theorem f_noat_bot {K : Fr} (c : Sy K) : (tNoat "Number" "_bottom") K = true := c.tst 60
theorem f_prop_top {K : Fr} (c : Sy K) : (tProp "Number" "top") K = true := c.tst 61
theorem f_prop_bottom {K : Fr} (c : Sy K) : (tProp "Number" "bottom") K = true := c.tst 62
theorem f_prop_sign {K : Fr} (c : Sy K) : (tProp "Number" "sign") K = true := c.tst 63
theorem f_meth_str {K : Fr} (c : Sy K) : (tMeth "Number" "__str__") K = true := c.tst 64
theorem f_ins {K : Fr} (c : Sy K) : (tIns "Number") K = true := c.tst 65
theorem f_kitO {K : Fr} (c : Sy K) : (tKitO "Number" "Number" true) K = true := c.tst 66
theorem f_bin_add {K : Fr} (c : Sy K) : (tBin "Number" "add") K = true := c.tst 67
theorem f_bin_mul {K : Fr} (c : Sy K) : (tBin "Number" "mul") K = true := c.tst 68
theorem f_kit_int {K : Fr} (c : Sy K) : (tKit "int" "Number" false) K = true := c.tst 69
theorem f_cls_Machine {K : Fr} (c : Sy K) : (tCls "Machine") K = true := c.tst 70
theorem f_mkr_Machine {K : Fr} (c : Sy K) : (tMkr "Machine") K = true := c.tst 71
theorem f_meth_run {K : Fr} (c : Sy K) : (tMeth "Machine" "run") K = true := c.tst 72
theorem f_prop_input_rates {K : Fr} (c : Sy K) : (tProp "Machine" "input_rates") K = true := c.tst 73
theorem f_prop_output_rates {K : Fr} (c : Sy K) : (tProp "Machine" "output_rates") K = true := c.tst 74
theorem f_prop_steps {K : Fr} (c : Sy K) : (tProp "Machine" "steps") K = true := c.tst 75
theorem f_noat_M_per_unit {K : Fr} (c : Sy K) : (tNoat "Machine" "_per_unit") K = true := c.tst 76
theorem f_noat_M_input_rates {K : Fr} (c : Sy K) : (tNoat "Machine" "_input_rates") K = true := c.tst 77
theorem f_noat_M_output_rates {K : Fr} (c : Sy K) : (tNoat "Machine" "_output_rates") K = true := c.tst 78
theorem f_noat_M_sizes {K : Fr} (c : Sy K) : (tNoat "Machine" "_sizes") K = true := c.tst 79
theorem f_noat_M_reads {K : Fr} (c : Sy K) : (tNoat "Machine" "_reads") K = true := c.tst 80
theorem f_noat_M_steps {K : Fr} (c : Sy K) : (tNoat "Machine" "_steps") K = true := c.tst 81
theorem f_meth_repr {K : Fr} (c : Sy K) : (tMeth "Number" "__repr__") K = true := c.tst 82
theorem f_kitN {K : Fr} (c : Sy K) : (tAll [tKit "NoneType" "Number" false, tKit "bool" "Number" false, tKit "str" "Number" false, tKit "tuple" "Number" false, tKit "list" "Number" false, tKit "dict" "Number" false]) K = true := c.tst 83
theorem f_ve_InvalidCount {K : Fr} (c : Sy K) : (tVe "InvalidCount") K = true := c.tst 84
theorem f_typ_InvalidCount {K : Fr} (c : Sy K) : (tTyp "InvalidCount") K = true := c.tst 85
theorem f_init_InvalidCount {K : Fr} (c : Sy K) : (tInit "InvalidCount") K = true := c.tst 86
theorem f_xfc_InvalidCount {K : Fr} (c : Sy K) : (tXfc "InvalidCount") K = true := c.tst 87
theorem f_nof_InvalidCount {K : Fr} (c : Sy K) : (tNof "InvalidCount" "value") K = true := c.tst 88
theorem f_exm_InvalidCount {K : Fr} (c : Sy K) : (tExm "InvalidCount" "InputError" true) K = true := c.tst 89
theorem f_kit_InvalidCount_InvalidCount {K : Fr} (c : Sy K) : (tKitO "InvalidCount" "InvalidCount" true) K = true := c.tst 90
theorem f_ve_InvalidInputs {K : Fr} (c : Sy K) : (tVe "InvalidInputs") K = true := c.tst 91
theorem f_typ_InvalidInputs {K : Fr} (c : Sy K) : (tTyp "InvalidInputs") K = true := c.tst 92
theorem f_init_InvalidInputs {K : Fr} (c : Sy K) : (tInit "InvalidInputs") K = true := c.tst 93
theorem f_xfc_InvalidInputs {K : Fr} (c : Sy K) : (tXfc "InvalidInputs") K = true := c.tst 94
theorem f_nof_InvalidInputs {K : Fr} (c : Sy K) : (tNof "InvalidInputs" "index") K = true := c.tst 95
theorem f_exm_InvalidInputs {K : Fr} (c : Sy K) : (tExm "InvalidInputs" "InputError" true) K = true := c.tst 96
theorem f_kit_InvalidInputs_InvalidCount {K : Fr} (c : Sy K) : (tKitO "InvalidInputs" "InvalidCount" false) K = true := c.tst 97
theorem f_kit_InvalidInputs_InvalidInputs {K : Fr} (c : Sy K) : (tKitO "InvalidInputs" "InvalidInputs" true) K = true := c.tst 98
theorem f_ne_tabs {K : Fr} (c : Sy K) : (tTabs [d_l_right]) K = true := c.tst 99
structure Tx (K : Fr) (mg : Str → Option Value) : Prop where
  c : Sy K
  g : ∃ h, K.In h ∧ h.Ns mainGlobals mg
theorem g_is_integer {K : Fr} {mg : Str → Option Value} (T : Tx K mg) : mg "is_integer" = some (.ref (gAd "is_integer" K)) := by
  obtain ⟨h, X, G⟩ := T.g
  exact He.glo_ok X G (f_glo_is_integer T.c)
theorem g_is_number {K : Fr} {mg : Str → Option Value} (T : Tx K mg) : mg "is_number" = some (.ref (gAd "is_number" K)) := by
  obtain ⟨h, X, G⟩ := T.g
  exact He.glo_ok X G (f_glo_is_number T.c)
theorem g_as_number {K : Fr} {mg : Str → Option Value} (T : Tx K mg) : mg "as_number" = some (.ref (gAd "as_number" K)) := by
  obtain ⟨h, X, G⟩ := T.g
  exact He.glo_ok X G (f_glo_as_number T.c)
theorem g_ticks_per_unit {K : Fr} {mg : Str → Option Value} (T : Tx K mg) : mg "ticks_per_unit" = some (.ref (gAd "ticks_per_unit" K)) := by
  obtain ⟨h, X, G⟩ := T.g
  exact He.glo_ok X G (f_glo_ticks_per_unit T.c)
theorem g_due_at {K : Fr} {mg : Str → Option Value} (T : Tx K mg) : mg "due_at" = some (.ref (gAd "due_at" K)) := by
  obtain ⟨h, X, G⟩ := T.g
  exact He.glo_ok X G (f_glo_due_at T.c)
theorem g_samples_below {K : Fr} {mg : Str → Option Value} (T : Tx K mg) : mg "samples_below" = some (.ref (gAd "samples_below" K)) := by
  obtain ⟨h, X, G⟩ := T.g
  exact He.glo_ok X G (f_glo_samples_below T.c)
theorem g_walked {K : Fr} {mg : Str → Option Value} (T : Tx K mg) : mg "walked" = some (.ref (gAd "walked" K)) := by
  obtain ⟨h, X, G⟩ := T.g
  exact He.glo_ok X G (f_glo_walked T.c)
theorem g_summed {K : Fr} {mg : Str → Option Value} (T : Tx K mg) : mg "_summed" = some (.ref (gAd "_summed" K)) := by
  obtain ⟨h, X, G⟩ := T.g
  exact He.glo_ok X G (f_glo_summed T.c)
theorem g_are_rates {K : Fr} {mg : Str → Option Value} (T : Tx K mg) : mg "_are_rates" = some (.ref (gAd "_are_rates" K)) := by
  obtain ⟨h, X, G⟩ := T.g
  exact He.glo_ok X G (f_glo_are_rates T.c)
theorem g_is_rate {K : Fr} {mg : Str → Option Value} (T : Tx K mg) : mg "_is_rate" = some (.ref (gAd "_is_rate" K)) := by
  obtain ⟨h, X, G⟩ := T.g
  exact He.glo_ok X G (f_glo_is_rate T.c)
theorem g_is_turn {K : Fr} {mg : Str → Option Value} (T : Tx K mg) : mg "_is_turn" = some (.ref (gAd "_is_turn" K)) := by
  obtain ⟨h, X, G⟩ := T.g
  exact He.glo_ok X G (f_glo_is_turn T.c)
theorem g_is_step {K : Fr} {mg : Str → Option Value} (T : Tx K mg) : mg "_is_step" = some (.ref (gAd "_is_step" K)) := by
  obtain ⟨h, X, G⟩ := T.g
  exact He.glo_ok X G (f_glo_is_step T.c)
theorem g_is_table {K : Fr} {mg : Str → Option Value} (T : Tx K mg) : mg "_is_table" = some (.ref (gAd "_is_table" K)) := by
  obtain ⟨h, X, G⟩ := T.g
  exact He.glo_ok X G (f_glo_is_table T.c)
theorem g_is_row {K : Fr} {mg : Str → Option Value} (T : Tx K mg) : mg "_is_row" = some (.ref (gAd "_is_row" K)) := by
  obtain ⟨h, X, G⟩ := T.g
  exact He.glo_ok X G (f_glo_is_row T.c)
theorem g_fits {K : Fr} {mg : Str → Option Value} (T : Tx K mg) : mg "_fits" = some (.ref (gAd "_fits" K)) := by
  obtain ⟨h, X, G⟩ := T.g
  exact He.glo_ok X G (f_glo_fits T.c)
theorem g_with_numbers {K : Fr} {mg : Str → Option Value} (T : Tx K mg) : mg "_with_numbers" = some (.ref (gAd "_with_numbers" K)) := by
  obtain ⟨h, X, G⟩ := T.g
  exact He.glo_ok X G (f_glo_with_numbers T.c)
theorem g_l_spring {K : Fr} {mg : Str → Option Value} (T : Tx K mg) : mg "_law_spring" = some (.ref (gAd "_law_spring" K)) := by
  obtain ⟨h, X, G⟩ := T.g
  exact He.glo_ok X G (f_glo_l_spring T.c)
theorem g_l_next {K : Fr} {mg : Str → Option Value} (T : Tx K mg) : mg "_law_next" = some (.ref (gAd "_law_next" K)) := by
  obtain ⟨h, X, G⟩ := T.g
  exact He.glo_ok X G (f_glo_l_next T.c)
theorem g_l_one {K : Fr} {mg : Str → Option Value} (T : Tx K mg) : mg "_law_one" = some (.ref (gAd "_law_one" K)) := by
  obtain ⟨h, X, G⟩ := T.g
  exact He.glo_ok X G (f_glo_l_one T.c)
theorem g_l_ticks {K : Fr} {mg : Str → Option Value} (T : Tx K mg) : mg "_law_ticks" = some (.ref (gAd "_law_ticks" K)) := by
  obtain ⟨h, X, G⟩ := T.g
  exact He.glo_ok X G (f_glo_l_ticks T.c)
theorem g_l_stands {K : Fr} {mg : Str → Option Value} (T : Tx K mg) : mg "_law_stands" = some (.ref (gAd "_law_stands" K)) := by
  obtain ⟨h, X, G⟩ := T.g
  exact He.glo_ok X G (f_glo_l_stands T.c)
theorem g_l_many {K : Fr} {mg : Str → Option Value} (T : Tx K mg) : mg "_law_many" = some (.ref (gAd "_law_many" K)) := by
  obtain ⟨h, X, G⟩ := T.g
  exact He.glo_ok X G (f_glo_l_many T.c)
theorem g_l_count {K : Fr} {mg : Str → Option Value} (T : Tx K mg) : mg "_law_count" = some (.ref (gAd "_law_count" K)) := by
  obtain ⟨h, X, G⟩ := T.g
  exact He.glo_ok X G (f_glo_l_count T.c)
theorem g_l_table {K : Fr} {mg : Str → Option Value} (T : Tx K mg) : mg "_law_table" = some (.ref (gAd "_law_table" K)) := by
  obtain ⟨h, X, G⟩ := T.g
  exact He.glo_ok X G (f_glo_l_table T.c)
theorem g_l_machine {K : Fr} {mg : Str → Option Value} (T : Tx K mg) : mg "_law_machine" = some (.ref (gAd "_law_machine" K)) := by
  obtain ⟨h, X, G⟩ := T.g
  exact He.glo_ok X G (f_glo_l_machine T.c)
theorem g_l_passed {K : Fr} {mg : Str → Option Value} (T : Tx K mg) : mg "_law_passed" = some (.ref (gAd "_law_passed" K)) := by
  obtain ⟨h, X, G⟩ := T.g
  exact He.glo_ok X G (f_glo_l_passed T.c)
theorem g_l_steps {K : Fr} {mg : Str → Option Value} (T : Tx K mg) : mg "_law_steps" = some (.ref (gAd "_law_steps" K)) := by
  obtain ⟨h, X, G⟩ := T.g
  exact He.glo_ok X G (f_glo_l_steps T.c)
theorem g_l_told {K : Fr} {mg : Str → Option Value} (T : Tx K mg) : mg "_law_told" = some (.ref (gAd "_law_told" K)) := by
  obtain ⟨h, X, G⟩ := T.g
  exact He.glo_ok X G (f_glo_l_told T.c)
theorem g_l_run {K : Fr} {mg : Str → Option Value} (T : Tx K mg) : mg "_law_run" = some (.ref (gAd "_law_run" K)) := by
  obtain ⟨h, X, G⟩ := T.g
  exact He.glo_ok X G (f_glo_l_run T.c)
theorem g_l_spoilt {K : Fr} {mg : Str → Option Value} (T : Tx K mg) : mg "_law_spoilt" = some (.ref (gAd "_law_spoilt" K)) := by
  obtain ⟨h, X, G⟩ := T.g
  exact He.glo_ok X G (f_glo_l_spoilt T.c)
theorem g_l_right {K : Fr} {mg : Str → Option Value} (T : Tx K mg) : mg "_law_right" = some (.ref (gAd "_law_right" K)) := by
  obtain ⟨h, X, G⟩ := T.g
  exact He.glo_ok X G (f_glo_l_right T.c)
theorem g_law {K : Fr} {mg : Str → Option Value} (T : Tx K mg) : mg "law" = some (.ref (gAd "law" K)) := by
  obtain ⟨h, X, G⟩ := T.g
  exact He.glo_ok X G (f_glo_law T.c)
theorem m_gcd {K : Fr} {mg : Str → Option Value} (T : Tx K mg) : mg "gcd" = some (.builtin "math.gcd") := by
  obtain ⟨h, X, G⟩ := T.g
  exact blt_ok X G (f_blt_gcd T.c)
theorem m_lcm {K : Fr} {mg : Str → Option Value} (T : Tx K mg) : mg "lcm" = some (.builtin "math.lcm") := by
  obtain ⟨h, X, G⟩ := T.g
  exact blt_ok X G (f_blt_lcm T.c)
theorem i_MAX_MACHINE_RATE {K : Fr} {mg : Str → Option Value} (T : Tx K mg) : ∃ t, mg "MAX_MACHINE_RATE" = some (.int 12 t) := by
  obtain ⟨h, X, G⟩ := T.g
  exact He.int_ok X G (f_int_MAX_MACHINE_RATE T.c)
theorem i_MAX_ROWS {K : Fr} {mg : Str → Option Value} (T : Tx K mg) : ∃ t, mg "MAX_ROWS" = some (.int 6 t) := by
  obtain ⟨h, X, G⟩ := T.g
  exact He.int_ok X G (f_int_MAX_ROWS T.c)
theorem i_TABLES {K : Fr} {mg : Str → Option Value} (T : Tx K mg) : ∃ t, mg "TABLES" = some (.int 4 t) := by
  obtain ⟨h, X, G⟩ := T.g
  exact He.int_ok X G (f_int_TABLES T.c)
theorem n_abs {K : Fr} {mg : Str → Option Value} (T : Tx K mg) : mg "abs" = none := by
  obtain ⟨h, X, G⟩ := T.g
  exact He.free_ok X G (f_free_abs T.c)
theorem n_all {K : Fr} {mg : Str → Option Value} (T : Tx K mg) : mg "all" = none := by
  obtain ⟨h, X, G⟩ := T.g
  exact He.free_ok X G (f_free_all T.c)
theorem n_bool {K : Fr} {mg : Str → Option Value} (T : Tx K mg) : mg "bool" = none := by
  obtain ⟨h, X, G⟩ := T.g
  exact He.free_ok X G (f_free_bool T.c)
theorem n_enumerate {K : Fr} {mg : Str → Option Value} (T : Tx K mg) : mg "enumerate" = none := by
  obtain ⟨h, X, G⟩ := T.g
  exact He.free_ok X G (f_free_enumerate T.c)
theorem n_int {K : Fr} {mg : Str → Option Value} (T : Tx K mg) : mg "int" = none := by
  obtain ⟨h, X, G⟩ := T.g
  exact He.free_ok X G (f_free_int T.c)
theorem n_isinstance {K : Fr} {mg : Str → Option Value} (T : Tx K mg) : mg "isinstance" = none := by
  obtain ⟨h, X, G⟩ := T.g
  exact He.free_ok X G (f_free_isinstance T.c)
theorem n_len {K : Fr} {mg : Str → Option Value} (T : Tx K mg) : mg "len" = none := by
  obtain ⟨h, X, G⟩ := T.g
  exact He.free_ok X G (f_free_len T.c)
theorem n_list {K : Fr} {mg : Str → Option Value} (T : Tx K mg) : mg "list" = none := by
  obtain ⟨h, X, G⟩ := T.g
  exact He.free_ok X G (f_free_list T.c)
theorem n_max {K : Fr} {mg : Str → Option Value} (T : Tx K mg) : mg "max" = none := by
  obtain ⟨h, X, G⟩ := T.g
  exact He.free_ok X G (f_free_max T.c)
theorem n_min {K : Fr} {mg : Str → Option Value} (T : Tx K mg) : mg "min" = none := by
  obtain ⟨h, X, G⟩ := T.g
  exact He.free_ok X G (f_free_min T.c)
theorem n_range {K : Fr} {mg : Str → Option Value} (T : Tx K mg) : mg "range" = none := by
  obtain ⟨h, X, G⟩ := T.g
  exact He.free_ok X G (f_free_range T.c)
theorem n_repr {K : Fr} {mg : Str → Option Value} (T : Tx K mg) : mg "repr" = none := by
  obtain ⟨h, X, G⟩ := T.g
  exact He.free_ok X G (f_free_repr T.c)
theorem n_str {K : Fr} {mg : Str → Option Value} (T : Tx K mg) : mg "str" = none := by
  obtain ⟨h, X, G⟩ := T.g
  exact He.free_ok X G (f_free_str T.c)
theorem n_tuple {K : Fr} {mg : Str → Option Value} (T : Tx K mg) : mg "tuple" = none := by
  obtain ⟨h, X, G⟩ := T.g
  exact He.free_ok X G (f_free_tuple T.c)
theorem n_zip {K : Fr} {mg : Str → Option Value} (T : Tx K mg) : mg "zip" = none := by
  obtain ⟨h, X, G⟩ := T.g
  exact He.free_ok X G (f_free_zip T.c)
theorem g_InputError {K : Fr} {mg : Str → Option Value} (T : Tx K mg) : mg "InputError" = some (.ref (gAd "InputError" K)) := by
  obtain ⟨h, X, G⟩ := T.g
  exact He.glo_ok X G (f_glo_InputError T.c)
theorem g_InvalidCount {K : Fr} {mg : Str → Option Value} (T : Tx K mg) : mg "InvalidCount" = some (.ref (gAd "InvalidCount" K)) := by
  obtain ⟨h, X, G⟩ := T.g
  exact He.glo_ok X G (f_glo_InvalidCount T.c)
theorem g_InvalidInputs {K : Fr} {mg : Str → Option Value} (T : Tx K mg) : mg "InvalidInputs" = some (.ref (gAd "InvalidInputs" K)) := by
  obtain ⟨h, X, G⟩ := T.g
  exact He.glo_ok X G (f_glo_InvalidInputs T.c)
theorem g_Number {K : Fr} {mg : Str → Option Value} (T : Tx K mg) : mg "Number" = some (.ref (gAd "Number" K)) := by
  obtain ⟨h, X, G⟩ := T.g
  exact He.glo_ok X G (f_glo_Number T.c)
theorem g_Machine {K : Fr} {mg : Str → Option Value} (T : Tx K mg) : mg "Machine" = some (.ref (gAd "Machine" K)) := by
  obtain ⟨h, X, G⟩ := T.g
  exact He.glo_ok X G (f_glo_Machine T.c)
theorem a_InvalidCount_init {K : Fr} (c : Sy K) : ∃ fd, DAt K d_InvalidCount_init fd := c.dat 0
theorem a_InvalidInputs_init {K : Fr} (c : Sy K) : ∃ fd, DAt K d_InvalidInputs_init fd := c.dat 1
theorem a_is_integer {K : Fr} (c : Sy K) : ∃ fd, DAt K d_is_integer fd := c.dat 2
theorem a_is_number {K : Fr} (c : Sy K) : ∃ fd, DAt K d_is_number fd := c.dat 3
theorem a_as_number {K : Fr} (c : Sy K) : ∃ fd, DAt K d_as_number fd := c.dat 4
theorem a_Number_init {K : Fr} (c : Sy K) : ∃ fd, DAt K d_Number_init fd := c.dat 5
theorem a_Number_top {K : Fr} (c : Sy K) : ∃ fd, DAt K d_Number_top fd := c.dat 6
theorem a_Number_bottom {K : Fr} (c : Sy K) : ∃ fd, DAt K d_Number_bottom fd := c.dat 7
theorem a_Number_sign {K : Fr} (c : Sy K) : ∃ fd, DAt K d_Number_sign fd := c.dat 8
theorem a_Number_add {K : Fr} (c : Sy K) : ∃ fd, DAt K d_Number_add fd := c.dat 9
theorem a_Number_sub {K : Fr} (c : Sy K) : ∃ fd, DAt K d_Number_sub fd := c.dat 10
theorem a_Number_mul {K : Fr} (c : Sy K) : ∃ fd, DAt K d_Number_mul fd := c.dat 11
theorem a_Number_str {K : Fr} (c : Sy K) : ∃ fd, DAt K d_Number_str fd := c.dat 12
theorem a_Number_repr {K : Fr} (c : Sy K) : ∃ fd, DAt K d_Number_repr fd := c.dat 13
theorem a_ticks_per_unit {K : Fr} (c : Sy K) : ∃ fd, DAt K d_ticks_per_unit fd := c.dat 14
theorem a_Machine_init {K : Fr} (c : Sy K) : ∃ fd, DAt K d_Machine_init fd := c.dat 15
theorem a_Machine_input_rates {K : Fr} (c : Sy K) : ∃ fd, DAt K d_Machine_input_rates fd := c.dat 16
theorem a_Machine_output_rates {K : Fr} (c : Sy K) : ∃ fd, DAt K d_Machine_output_rates fd := c.dat 17
theorem a_Machine_steps {K : Fr} (c : Sy K) : ∃ fd, DAt K d_Machine_steps fd := c.dat 18
theorem a_Machine_run {K : Fr} (c : Sy K) : ∃ fd, DAt K d_Machine_run fd := c.dat 19
theorem a_due_at {K : Fr} (c : Sy K) : ∃ fd, DAt K d_due_at fd := c.dat 20
theorem a_samples_below {K : Fr} (c : Sy K) : ∃ fd, DAt K d_samples_below fd := c.dat 21
theorem a_walked {K : Fr} (c : Sy K) : ∃ fd, DAt K d_walked fd := c.dat 22
theorem a_summed {K : Fr} (c : Sy K) : ∃ fd, DAt K d_summed fd := c.dat 23
theorem a_are_rates {K : Fr} (c : Sy K) : ∃ fd, DAt K d_are_rates fd := c.dat 24
theorem a_is_rate {K : Fr} (c : Sy K) : ∃ fd, DAt K d_is_rate fd := c.dat 25
theorem a_is_turn {K : Fr} (c : Sy K) : ∃ fd, DAt K d_is_turn fd := c.dat 26
theorem a_is_step {K : Fr} (c : Sy K) : ∃ fd, DAt K d_is_step fd := c.dat 27
theorem a_is_table {K : Fr} (c : Sy K) : ∃ fd, DAt K d_is_table fd := c.dat 28
theorem a_is_row {K : Fr} (c : Sy K) : ∃ fd, DAt K d_is_row fd := c.dat 29
theorem a_fits {K : Fr} (c : Sy K) : ∃ fd, DAt K d_fits fd := c.dat 30
theorem a_with_numbers {K : Fr} (c : Sy K) : ∃ fd, DAt K d_with_numbers fd := c.dat 31
theorem a_l_spring {K : Fr} (c : Sy K) : ∃ fd, DAt K d_l_spring fd := c.dat 32
theorem a_l_next {K : Fr} (c : Sy K) : ∃ fd, DAt K d_l_next fd := c.dat 33
theorem a_l_one {K : Fr} (c : Sy K) : ∃ fd, DAt K d_l_one fd := c.dat 34
theorem a_l_ticks {K : Fr} (c : Sy K) : ∃ fd, DAt K d_l_ticks fd := c.dat 35
theorem a_l_stands {K : Fr} (c : Sy K) : ∃ fd, DAt K d_l_stands fd := c.dat 36
theorem a_l_many {K : Fr} (c : Sy K) : ∃ fd, DAt K d_l_many fd := c.dat 37
theorem a_l_count {K : Fr} (c : Sy K) : ∃ fd, DAt K d_l_count fd := c.dat 38
theorem a_l_table {K : Fr} (c : Sy K) : ∃ fd, DAt K d_l_table fd := c.dat 39
theorem a_l_machine {K : Fr} (c : Sy K) : ∃ fd, DAt K d_l_machine fd := c.dat 40
theorem a_l_passed {K : Fr} (c : Sy K) : ∃ fd, DAt K d_l_passed fd := c.dat 41
theorem a_l_steps {K : Fr} (c : Sy K) : ∃ fd, DAt K d_l_steps fd := c.dat 42
theorem a_l_told {K : Fr} (c : Sy K) : ∃ fd, DAt K d_l_told fd := c.dat 43
theorem a_l_run {K : Fr} (c : Sy K) : ∃ fd, DAt K d_l_run fd := c.dat 44
theorem a_l_spoilt {K : Fr} (c : Sy K) : ∃ fd, DAt K d_l_spoilt fd := c.dat 45
theorem a_l_right {K : Fr} (c : Sy K) : ∃ fd, DAt K d_l_right fd := c.dat 46
theorem a_law {K : Fr} (c : Sy K) : ∃ fd, DAt K d_law fd := c.dat 47
abbrev R : PySem.W.OpenRow := PySem.W.OpenLaw.row PySem.Challenge.rw_delaynets_k54_machine_runs_refused
abbrev TS : List Dx := [d_l_right]
def loose0 : List Str := ["_wall", "InputError", "InvalidText", "InvalidCount", "InvalidRates", "NotANumber", "InvalidInputs", "InvalidSteps", "StateError", "DividedByZero", "MAX_POWER", "is_integer", "is_number", "as_number", "Number", "_number_in", "_is_digits", "ticks_per_unit", "MAX_MACHINE_RATE", "MAX_ROWS", "TABLES", "Machine", "due_at", "samples_below", "walked", "_summed", "_are_rates", "_is_rate", "_is_turn", "_is_step"]
def loose1 : List Str := ["_is_table", "_is_row", "_fits", "_with_numbers", "_law_spring", "_law_next", "_law_one", "_law_ticks", "_law_stands", "_law_many", "_law_count", "_law_table", "_law_machine", "_law_passed", "_law_steps", "_law_told", "_law_run", "_law_spoilt", "_law_right"]
abbrev loose : List Str := loose0 ++ loose1
abbrev qv : Program := PySem.W.view R.prog [0, 55]
abbrev lawAt : Nat := 55
end K54

namespace K54
open PySem PySem.Spec PyProof.Rows L2 Hk
def AS : List Addr := [3, 6, 49, 59, 79, 98, 117, 136, 155, 174, 186, 199, 208, 215, 222, 365, 376, 383, 390, 471, 480, 487, 492, 499, 504, 509, 516, 521, 526, 531, 536, 541, 548, 555, 562, 567, 574, 579, 584, 589, 594, 599, 604, 611, 618, 625, 630, 635, 0, 48, 58, 78, 97, 116, 135, 154, 173, 185, 198, 207, 214, 221, 364, 375, 382, 389, 470, 479, 486, 491, 498, 503, 508, 515, 520, 525, 530, 535, 540, 547, 554, 561, 566, 573, 578, 583, 588, 593, 598, 603, 610, 617, 624, 629, 634, 44, 47, 60, 76, 95, 114, 133, 152, 171, 187, 203, 206, 210, 213, 217, 220, 237, 246, 255, 263, 271, 278, 285, 292, 299, 306, 313, 320, 327, 334, 341, 348, 355, 362, 366, 367, 371, 374, 378, 381, 385, 388, 402, 410, 418, 426, 434, 442, 449, 454, 461, 468, 472, 473, 477, 478, 482, 485, 489, 490, 494, 497, 501, 502, 506, 507, 511, 514, 518, 519, 523, 524, 528, 529, 533, 534, 538, 539, 543, 546, 550, 553, 557, 560, 564, 565, 569, 572, 576, 577, 581, 582, 586, 587, 591, 592, 596, 597, 601, 602, 606, 609, 613, 616, 620, 623, 627, 628, 632, 633, 75, 94, 113, 132, 151, 170, 236, 244, 245, 254, 262, 270, 277, 284, 291, 298, 305, 312, 319, 326, 333, 340, 347, 354, 361, 401, 409, 417, 425, 433, 441, 448, 453, 460, 467, 71, 74, 90, 93, 109, 112, 128, 131, 147, 150, 166, 169, 232, 235, 243, 247, 253, 261, 269, 273, 276, 280, 283, 287, 290, 294, 297, 301, 304, 308, 311, 315, 318, 322, 325, 329, 332, 336, 339, 343, 346, 350, 353, 357, 360, 399, 400, 408, 416, 424, 432, 440, 444, 447, 451, 452, 456, 459, 463, 466, 230]
abbrev hk : PySem.W.Hook := hookLT AS FA FN TS
noncomputable def ob (s : PySem.W.SharedT) : Al3 := lookLT AS FA FN TS s
theorem ob_eq (s : PySem.W.SharedT) : ob s = hk.obs s.abs := lookLT_eq s
end K54

namespace K54
open PySem PySem.Spec PyProof.Rows L2 Hk
theorem run1 (w : World) : (runOf 9000 R.prog w).map (fun x => (HeadRun.looksF R.prog x.1.heap x.2.abs, HeadRun.seenQ qv loose (importedModules R.prog.main.body) (fun s => PySem.W.xlAt qv [] s && PySem.W.recOk R.records s) x.2.abs)) = some (true, PySem.W.openGood qv loose) := by
  kernel_rfl
def FA0 : List Tst := (FA.drop 0).take 100
theorem runA0 (w : World) : (runOf 9000 R.prog w).map (fun x => partAT AS FA0 x.2) = some true := by
  kernel_rfl
def FN0 : List Dx := (FN.drop 0).take 48
theorem runF0 (w : World) : (runOf 9000 R.prog w).map (fun x => partFT AS FN0 x.2) = some (due FN0) := by
  kernel_rfl
theorem runT (w : World) : (runOf 9000 R.prog w).map (fun x => partTT AS TS x.2) = some true := by
  kernel_rfl
theorem run (w : World) : HeadRun.RunEqI R qv hk ob 9000 loose w := run_partsT [FA0] [FN0] (by rfl) (by rfl) (run1 w)
  (fun l hl => by
    rcases List.mem_cons.mp hl with rfl | hl
    · exact runA0 w
    cases hl)
  (fun l hl => by
    rcases List.mem_cons.mp hl with rfl | hl
    · exact runF0 w
    cases hl) (runT w)
end K54

namespace K54
open PySem PySem.Spec PyProof.Rows L2 Hk NumM NumT SX
open TL (numL)
section
variable {P : Program} {w : World} {K : Fr} {mg : Str → Option Value} {base : Heap}
/-- a spring's list: the digits left, the state, the count -/
structure Spr (d e c : Int) : Prop where
  d0 : 0 ≤ d
  e0 : 0 ≤ e
  e1 : e < 1000000007
  c0 : 0 ≤ c
def sprL (d e c : Int) : List V := [.int d, .int e, .int c]
/-- draws a number below many, turns the spring's list alone -/
def spNext : Sp := fun vs H Q _ => ∃ (a : Addr) (m d e c : Int), vs = [.ref a, .int m] ∧ H a = some (.lst (sprL d e c)) ∧ Spr d e c ∧ 0 < m ∧ m.natAbs < 2 ^ 200 ∧
  ∀ (v d' e' c' : Int), 0 ≤ v → v < m → Spr d' e' c' → Q (.int v) (upd H a (.lst (sprL d' e' c')))
theorem c_next (T : Tx K mg) : Cal P w K mg base 1 "_law_next" (gAd "_law_next" K) ["_law_spring_here", "_law_many_here"] spNext := by
  refine cal_of (d := d_l_next) (N := ["_law_spring_here", "_law_many_here", "_law_digit", "_law_state"]) (a_l_next T.c) rfl sc_l_next (g_l_next T) (fun _ _ _ _ _ _ us hl => match us, hl with | [_, _], _ => rfl) (fun vs H Q E h => ?_) (fun cdv A outer s H vs Q E hr h => ?_)
  · obtain ⟨a, m, d, e, c, rfl, _⟩ := h
    rfl
  · obtain ⟨a, m, d, e, c, rfl, hH, hs, hm, hm2, k⟩ := h
    refine ⟨_, pss_cons (ps_asg (pe_op op_add (pe_ix ix_list (pv 0) pe_int (fun _ _ => rfl)) pe_int) (pg_sub (pv 0) pe_int set_list))
      (pss_cons (ps_if (pt_cmpR op_gt (pe_ix ix_list (pv 0) pe_int (fun _ _ => rfl)) pe_int (nomark _))
        (pss_cons (ps_set (i := 2) sc_l_next.nd rfl (.inl rfl) (pe_op op_modN (pe_callTy call_int1 (by rfl) (n_int T) bo_int (pa_cons (pe_ix ix_list (pv 0) pe_int (fun _ _ => rfl)) pa_nil)) (pv 1)))
        (pss_cons (ps_asg (pe_op op_fdivW (pe_ix ix_list (pv 0) pe_int (fun _ _ => rfl)) (pv 1)) (pg_sub (pv 0) pe_int set_list))
        (pss_one (ps_ret (pv 2))))) pss_nil)
      (pss_cons (ps_set (i := 3) sc_l_next.nd rfl (.inl rfl) (pe_callTy call_int1 (by rfl) (n_int T) bo_int (pa_cons (pe_ix ix_list (pv 0) pe_int (fun _ _ => rfl)) pa_nil)))
      (pss_cons (ps_asg (pe_op op_mod (pe_callTy call_int1 (by rfl) (n_int T) bo_int (pa_cons
          (pe_op op_add (pe_op op_add (pe_op op_mul (pv 3) (pe_op op_add (pe_op op_mod (pv 3) pe_int) pe_int)) (pe_op op_mul pe_int (pe_ix ix_list (pv 0) pe_int (fun _ _ => rfl)))) pe_int) pa_nil)) pe_int) (pg_sub (pv 0) pe_int set_list))
      (pss_one (ps_ret (pe_op op_modN (pe_callTy call_int1 (by rfl) (n_int T) bo_int (pa_cons (pe_op op_fdiv (pe_ix ix_list (pv 0) pe_int (fun _ _ => rfl)) pe_int) pa_nil)) (pv 1))))))), ?_⟩
    refine ⟨_, rfl, a, _, 2, _, rfl, rfl, .inl (.inl hH), rfl, c, 1, rfl, rfl, _, rfl, a, _, 2, 2, rfl, rfl, hH, rfl, ?_⟩
    -- h[0] > 0
    refine ⟨_, rfl, a, _, 0, _, rfl, rfl, .inl (.inl upd_same), rfl, _, _, rfl, rfl, _, rfl, ?_⟩
    refine ite2 (fun hd => ?_) (fun hd => ?_)
    · have hd : 0 < d := of_decide_eq_true hd
      refine ⟨_, rfl, a, _, 0, _, rfl, rfl, .inl (.inl upd_same), rfl, .inl ⟨_, rfl, _, rfl, _, _, rfl, rfl, (by omega), ?_⟩⟩
      refine ⟨_, rfl, a, _, 0, _, rfl, rfl, .inl (.inl upd_same), rfl, _, rfl, _, _, rfl, rfl, wide_div hm hm2 (by decide) (by decide), _, rfl, a, _, 0, 0, rfl, rfl, upd_same, rfl, ?_⟩
      refine ⟨_, rfl, ?_⟩
      show Q _ _
      rw [upd_upd]
      refine k _ (d / m) e (c + 1) (Int.fmod_nonneg_of_pos _ hm) (Int.fmod_lt_of_pos _ hm) ⟨Int.ediv_nonneg hs.d0 (by omega), hs.e0, hs.e1, by have := hs.c0; omega⟩
    · refine ⟨_, rfl, a, _, 1, _, rfl, rfl, .inl (.inl upd_same), rfl, .inl ⟨_, rfl, ?_⟩⟩
      refine ⟨_, rfl, _, rfl, _, _, rfl, rfl, (by show (0 : Int) < 65521; decide), _, _, rfl, rfl, _, _, rfl, rfl, .inl ⟨by have := hs.e0; omega, by have := hs.e1; omega⟩, ?_⟩
      refine ⟨_, rfl, a, _, 2, _, rfl, rfl, .inl (.inl upd_same), rfl, _, _, rfl, rfl, .inl ⟨by decide, by decide⟩, _, _, rfl, rfl, _, _, rfl, rfl, .inl ⟨_, rfl, _, _, rfl, rfl, (by show (0 : Int) < 1000000007; decide), _, rfl, a, _, 1, 1, rfl, rfl, upd_same, rfl, ?_⟩⟩
      refine ⟨_, rfl, a, _, 1, _, rfl, rfl, .inl (.inl upd_same), rfl, _, _, rfl, rfl, ⟨by decide, by decide⟩, .inl ⟨_, rfl, _, rfl, _, _, rfl, rfl, (by omega), ?_⟩⟩
      show Q _ _
      rw [upd_upd]
      exact k _ d _ (c + 1) (Int.fmod_nonneg_of_pos _ hm) (Int.fmod_lt_of_pos _ hm) ⟨hs.d0, Int.emod_nonneg _ (by decide), Int.emod_lt_of_pos _ (by decide), by have := hs.c0; omega⟩
abbrev CN (K : Fr) : Addr := He.ga K "Number"
theorem c_isint (T : Tx K mg) : Cal P w K mg base 1 "is_integer" (gAd "is_integer" K) ["value"] spIsInt := by
  refine cal_of (d := d_is_integer) (N := ["value"]) (a_is_integer T.c) rfl sc_is_integer (g_is_integer T) (fun _ _ _ _ _ _ us hl => match us, hl with | [_], _ => rfl) (fun vs H Q E h => ?_) (fun cdv A outer s H vs Q E hr h => ?_)
  · obtain ⟨i, rfl, _⟩ := h
    rfl
  · obtain ⟨i, rfl, k⟩ := h
    refine ⟨_, (pss_one (ps_ret (pe_and (pe_callB call_isi (by rfl) (n_isinstance T) bo_isinstance (pa_cons (pv 0) (pa_cons (pe_bltn (v := .ty "int") (by rfl) (n_int T) (by decide +kernel) rfl) pa_nil)))
      (pe_one (pe_not (pe_callB call_isi (by rfl) (n_isinstance T) bo_isinstance (pa_cons (pv 0) (pa_cons (pe_bltn (v := .ty "bool") (by rfl) (n_bool T) (by decide +kernel) rfl) pa_nil)))))))), ?_⟩
    refine ⟨_, rfl, _, _, .type "int", .type "int", true, rfl, .ty _, .base (.int i), kit_ty (by decide +kernel), true, rfl, iteT ?_⟩
    exact ⟨_, rfl, _, _, .type "int", .type "bool", false, rfl, .ty _, .base (.int i), kit_ty (by decide +kernel), false, rfl, k⟩
theorem f_init (T : Tx K mg) : ∃ fd, DAt K d_Number_init fd ∧ FnOk P w K mg base CX0 2 (d_Number_init.ad K) fd ["self", "top", "bottom"] (spInit (CN K)) := by
  obtain ⟨fd, D⟩ := a_Number_init T.c
  have C_is_integer := c_isint (P := P) (w := w) (base := base) T
  refine ⟨fd, D, ok_of (N := ["self", "top", "bottom", "shared"]) D sc_Number_init (fun vs H Q E h => ?_) (fun cdv A outer s H vs Q E hr h => ?_)⟩
  · obtain ⟨p, dx, h, b, rfl, _⟩ := h
    rfl
  · obtain ⟨p, dx, h, b, rfl, hp, hb, sb, k⟩ := h
    refine ⟨_, (pss_cons (ps_if (pt_not (pt_val (pe_c C_is_integer hr (pa_cons (pv 1) pa_nil)))) (pss_one ps_never) pss_nil)
      (pss_cons (ps_if (pt_not (pt_val (pe_c C_is_integer hr (pa_cons (pv 2) pa_nil)))) (pss_one ps_never) pss_nil)
      (pss_cons (ps_if (pt_cmpR op_eq (pv 2) pe_int (nomark _)) (pss_one ps_never) pss_nil)
      (pss_cons (ps_set (i := 3) sc_Number_init.nd rfl (.inl rfl) (pe_callBfun cr_gcd rfl (m_gcd T) (pa_cons (pv 1) (pa_cons (pv 2) pa_nil))))
      (pss_cons (ps_if (pt_cmpR op_lt (pv 2) pe_int (nomark _)) (pss_one (ps_set (i := 3) sc_Number_init.nd rfl (.inl rfl) (pe_un un_neg (pv 3)))) pss_nil)
      (pss_cons (ps_fld (pv 0) (pe_op op_fdivG (pv 1) (pv 3)) rfl)
      (pss_one (ps_fld (pv 0) (pe_op op_fdivG (pv 2) (pv 3)) rfl)))))))), ?_⟩
    refine ⟨_, rfl, h, rfl, _, rfl, iteF ?_⟩
    refine ⟨_, rfl, b, rfl, _, rfl, iteF ?_⟩
    refine ⟨_, rfl, rfl, _, rfl, ?_⟩
    refine ite2 (fun z => absurd (V.int.inj (of_decide_eq_true z)) hb) (fun _ => ?_)
    refine ⟨_, rfl, _, rfl, h, b, rfl, ?_⟩
    have cl := He.cls_ok (f_cls_Number T.c)
    have sz : CDivG h (shr h b) := ⟨shr_ne hb, by
      have := log2_sz (i := shr h b) (Nat.lt_of_le_of_lt (shr_le (h := h) hb) sb)
      omega⟩
    have szb : CDivG b (shr h b) := sz
    refine ⟨_, rfl, _, _, rfl, rfl, _, rfl, ?_⟩
    have fin : ∀ x : Int, x = shr h b → (fun (σ : L2.St) (H : Hp) => L2.tSeq (sFld K (tVar 0) (tOp (rI CDivG fun i j => .int (i.fdiv j)) (tVar 1) (tVar 3)) "_top") (sFld K (tVar 0) (tOp (rI CDivG fun i j => .int (i.fdiv j)) (tVar 2) (tVar 3)) "_bottom") { nx := fun _ H' => Q .non H', rt := Q } σ H) [some (.ref p), some (.int h), some (.int b), some (.int x)] H := by
      rintro x rfl
      refine ⟨_, rfl, _, rfl, h, _, rfl, rfl, sz, _, rfl, p, CN K, dx, _, rfl, hp, cl, He.noat_ok (f_noat_top T.c), (by show 0 < 1000; decide), ?_⟩
      refine ⟨_, rfl, _, rfl, b, _, rfl, rfl, szb, _, rfl, p, CN K, dx, _, rfl, upd_same, cl, He.noat_ok (f_noat_bot T.c), (by show 1 < 1000; decide), ?_⟩
      show Q .non _
      rw [upd_upd]
      rw [numF_eq, init_top hb, init_bot hb]
      exact k
    refine ite2 (fun z => ?_) (fun z => ?_)
    · refine ⟨_, rfl, _, rfl, ?_⟩
      exact fin _ (by unfold shr; rw [if_pos (of_decide_eq_true z)]; rfl)
    · exact fin _ (by unfold shr; rw [if_neg (fun q => z (decide_eq_true q))]; rfl)
theorem cl (T : Tx K mg) : Cls K (CN K) := He.cls_ok (f_cls_Number T.c)
theorem nT (T : Tx K mg) : NoAttr K (CN K) "_top" := He.noat_ok (f_noat_top T.c)
theorem nB (T : Tx K mg) : NoAttr K (CN K) "_bottom" := He.noat_ok (f_noat_bot T.c)
theorem f_top (T : Tx K mg) : ∃ fd, DAt K d_Number_top fd ∧ FnOk P w K mg base CX0 1 (d_Number_top.ad K) fd ["self"] (spGet (CN K) fun t _ => .int t) := by
  obtain ⟨fd, D⟩ := a_Number_top T.c
  refine ⟨fd, D, ok_of (N := ["self"]) D sc_Number_top (fun vs H Q E h => ?_) (fun cdv A outer s H vs Q E hr h => ?_)⟩
  · obtain ⟨p, t, b, rfl, _⟩ := h
    rfl
  · obtain ⟨p, t, b, rfl, ⟨⟨dx, hp⟩, _, _⟩, _, _, k⟩ := h
    exact ⟨_, pss_one (ps_ret (pe_fld (pv 0) rfl)), _, rfl, p, CN K, dx, _, _, rfl, hp, cl T, nT T, numF_top _ _, k⟩
theorem f_bottom (T : Tx K mg) : ∃ fd, DAt K d_Number_bottom fd ∧ FnOk P w K mg base CX0 1 (d_Number_bottom.ad K) fd ["self"] (spGet (CN K) fun _ b => .int b) := by
  obtain ⟨fd, D⟩ := a_Number_bottom T.c
  refine ⟨fd, D, ok_of (N := ["self"]) D sc_Number_bottom (fun vs H Q E h => ?_) (fun cdv A outer s H vs Q E hr h => ?_)⟩
  · obtain ⟨p, t, b, rfl, _⟩ := h
    rfl
  · obtain ⟨p, t, b, rfl, ⟨⟨dx, hp⟩, _, _⟩, _, _, k⟩ := h
    exact ⟨_, pss_one (ps_ret (pe_fld (pv 0) rfl)), _, rfl, p, CN K, dx, _, _, rfl, hp, cl T, nB T, numF_bot _ _, k⟩
theorem f_str (T : Tx K mg) : ∃ fd, DAt K d_Number_str fd ∧ FnOk P w K mg base CX0 1 (d_Number_str.ad K) fd ["self"] (spGet (CN K) fun t b => .str (S (fL t b))) := by
  obtain ⟨fd, D⟩ := a_Number_str T.c
  refine ⟨fd, D, ok_of (N := ["self"]) D sc_Number_str (fun vs H Q E h => ?_) (fun cdv A outer s H vs Q E hr h => ?_)⟩
  · obtain ⟨p, t, b, rfl, _⟩ := h
    rfl
  · obtain ⟨p, t, b, rfl, ⟨⟨dx, hp⟩, _, _⟩, st, sb, k⟩ := h
    refine ⟨_, (pss_cons (ps_if (pt_cmpR op_eq (pe_fld (pv 0) rfl) pe_int (nomark _)) (pss_one (ps_ret (pe_callTy call_str_int (by rfl) (n_str T) bo_str (pa_cons (pe_fld (pv 0) rfl) pa_nil)))) pss_nil)
      (pss_one (ps_ret (pe_joined (.cons (pe_fmt (pe_fld (pv 0) rfl)) (.cons pe_str (.cons (pe_fmt (pe_fld (pv 0) rfl)) .nil))))))), ?_⟩
    refine ⟨_, rfl, p, CN K, dx, _, _, rfl, hp, cl T, nB T, numF_bot _ _, rfl, _, rfl, ?_⟩
    have l1 := i_len st
    have l2 := i_len sb
    refine ite2 (fun z => ?_) (fun z => ?_)
    · have e : b = 1 := V.int.inj (of_decide_eq_true z)
      refine ⟨_, rfl, p, CN K, dx, _, _, rfl, hp, cl T, nT T, numF_top _ _, _, rfl, log2_small st, ?_⟩
      show Q (.str _) H
      rw [toS]
      have k' : Q (.str (S (fL t b))) H := k
      unfold fL at k'
      rw [if_pos e] at k'
      exact k'
    · have e : ¬ b = 1 := fun q => z (decide_eq_true (by rw [q]))
      refine ⟨_, rfl, p, CN K, dx, _, _, rfl, hp, cl T, nT T, numF_top _ _, .inr ⟨_, rfl, log2_small st, _, rfl, ?_, _, rfl, ?_, ?_⟩⟩
      · rw [toS, empty_S, S_cat, S_len]
        exact line_ge (by rw [List.nil_append]; omega)
      · rw [toS, empty_S, slash_S, S_cat, S_cat, S_len]
        exact line_ge (by rw [List.nil_append, List.length_append]; simp; omega)
      · refine ⟨_, rfl, p, CN K, dx, _, _, rfl, hp, cl T, nB T, numF_bot _ _, .inr ⟨_, rfl, log2_small sb, _, rfl, ?_, ?_⟩⟩
        · rw [toS, toS, empty_S, slash_S, S_cat, S_cat, S_cat, S_len]
          exact line_ge (by rw [List.nil_append, List.length_append, List.length_append]; simp; omega)
        · show Q (.str _) H
          rw [toS, toS, empty_S, slash_S, S_cat, S_cat, S_cat, List.nil_append, List.append_assoc]
          have k' : Q (.str (S (fL t b))) H := k
          unfold fL at k'
          rw [if_neg e] at k'
          exact k'
theorem mkN (T : Tx K mg) : Mk K (CN K) (d_Number_init.ad K) := He.mkr_ok (f_mkr_Number T.c)
theorem b_init2 {fd : FuncData} (D : DAt K d_Number_init fd) : Binds K fd ["self", "top", "bottom"] [] := by
  obtain ⟨ds, r, b⟩ := FunD.binds1 (ps := ["self", "top", "bottom"]) D 3 1 (by intro z; exact nomatch z) rfl (fun T kV doc pm an cdv ct us its hu hi => match us, its, hu, hi with | [_, _, _], [_], _, _ => ⟨_, rfl, rfl⟩)
  cases r
  exact b
theorem b_init1 {fd : FuncData} (D : DAt K d_Number_init fd) : ∃ ds, Vals [.int 1] ds ∧ Binds K fd ["self", "top", "bottom"] ds :=
  FunD.binds1 (ps := ["self", "top", "bottom"]) D 2 0 (by intro z; exact nomatch z) rfl (fun T kV doc pm an cdv ct us its hu hi => match us, its, hu, hi with | [_, _], [_], _, _ => ⟨_, rfl, rfl⟩)
/-- a new spring from the script -/
def spSpring (K : Fr) : Sp := fun vs H Q _ => ∃ (a : Addr) (ns : List Int) (j : Nat), vs = [.ref a, .int j] ∧ SqL K H a (ns.map V.int) ∧ ns.length ≤ 63 ∧ j ≤ 63 ∧
  ∀ (p : Addr) (d e c : Int), H p = none → Spr d e c → Q (.ref p) (upd H p (.lst (sprL d e c)))
theorem c_spring (T : Tx K mg) : Cal P w K mg base 1 "_law_spring" (gAd "_law_spring" K) ["_law_script", "_law_spot"] (spSpring K) := by
  refine cal_of (d := d_l_spring) (N := ["_law_script", "_law_spot", "_law_mixed", "_law_at", "_law_own", "_law_digits"]) (a_l_spring T.c) rfl sc_l_spring (g_l_spring T) (fun _ _ _ _ _ _ us hl => match us, hl with | [_, _], _ => rfl) (fun vs H Q E h => ?_) (fun cdv A outer s H vs Q E hr h => ?_)
  · obtain ⟨a, ns, j, rfl, _⟩ := h
    rfl
  · obtain ⟨a, ns, j, rfl, hS, hn, hj, k⟩ := h
    refine ⟨_, (pss_cons (ps_set (i := 2) sc_l_spring.nd rfl (.inl rfl) pe_int)
 (pss_cons (ps_for PassesOwn.never rfl (pi_range1 (by rfl) (n_range T) (pa_cons (pe_callB (call_min2 rfl) (by rfl) (n_min T) bo_min (pa_cons (pe_callB call_len_seq (by rfl) (n_len T) bo_len (pa_cons (pv 0) pa_nil)) (pa_cons pe_int pa_nil))) pa_nil)) (pg_name (i := 3) sc_l_spring.nd rfl (.inl rfl))
 (pss_one (ps_set (i := 2) sc_l_spring.nd rfl (.inl rfl) (pe_op op_mod (pe_callTy call_int1 (by rfl) (n_int T) bo_int (pa_cons (pe_op op_add (pe_op op_add (pe_op op_mul (pv 2) pe_int) (pe_op op_mul (pe_ix ix_list (pv 0) (pv 3) (fun _ _ => rfl)) (pe_op op_add (pv 3) pe_int))) pe_int) pa_nil)) pe_int))))
 (pss_cons (ps_set (i := 4) sc_l_spring.nd rfl (.inl rfl) (pe_ifExp (pt_cmpR op_lt (pv 1) (pe_callB call_len_seq (by rfl) (n_len T) bo_len (pa_cons (pv 0) pa_nil)) (nomark _)) (pe_ix ix_list (pv 0) (pv 1) (fun _ _ => rfl)) (pe_op op_add (pe_op op_mul (pv 2) pe_int) (pe_op op_mul (pv 1) pe_int))))
 (pss_cons (ps_set (i := 5) sc_l_spring.nd rfl (.inl rfl) (pe_ifExp (PW.pt (pw_or (pt_cmpR op_lt (pv 4) pe_int (nomark _)) (pw_or1 (pt_cmpR op_ge (pv 4) (pe_op op_pow pe_int pe_int) (nomark _))))) (pe_callB call_abs (by rfl) (n_abs T) bo_abs (pa_cons (pv 4) pa_nil)) pe_int))
 (pss_one (ps_ret (pe_lst (pa_cons (pv 5) (pa_cons (pe_op op_mod (pe_callTy call_int1 (by rfl) (n_int T) bo_int (pa_cons (pe_op op_add (pe_op op_add (pe_op op_mul (pv 4) pe_int) (pv 2)) pe_int) pa_nil)) pe_int) (pa_cons pe_int pa_nil)))))))))), ?_⟩
    -- mixed = 23; for at in range(min(len(script), 5))
    have hlen : ((ns.map V.int).length : Int) = (ns.length : Int) := by rw [List.length_map]
    refine ⟨_, rfl, a, _, rfl, .inl hS, _, _, rfl, _, rfl, ?_, ?_, ?_⟩
    · rw [hlen]; split <;> omega
    · rw [hlen]; split <;> omega
    rw [hlen]
    generalize hm : (if (5 : Int) < (ns.length : Int) then (5 : Int) else (ns.length : Int)) = m
    have hm2 : m ≤ ns.length := by rw [← hm]; split <;> omega
    refine for_range (lo := 0) (n := m.toNat) (fun i σ H' => H' = H ∧ ∃ (x : Int) (y : Option V), σ = [some (.ref a), some (.int j), some (.int x), y, none, none]) ⟨rfl, 23, none, rfl⟩ ?_ ?_
    · rintro i σ H' hi ⟨rfl, x, y, rfl⟩
      have hi2 : i < ns.length := by omega
      obtain ⟨n, h1, h2⟩ := map_int_get hi2
      have e0 : (0 : Int) + (i : Int) = ((i : Nat) : Int) := by omega
      rw [e0]
      refine ⟨_, rfl, _, _, rfl, rfl, .inr ⟨by decide, by decide⟩, _, rfl, _, rfl, a, _, _, _, rfl, rfl, hS, h2, _, rfl, _, _, rfl, rfl, _, _, rfl, rfl, .inr ⟨by omega, by omega⟩, ?_⟩
      refine ⟨_, _, rfl, rfl, _, _, rfl, rfl, .inl ⟨_, rfl, _, _, rfl, rfl, (by show (0 : Int) < 1000000007; decide), rfl, _, _, rfl⟩⟩
    · rintro σ H' ⟨rfl, x, y, rfl⟩
      -- own
      refine ⟨_, rfl, _, rfl, a, _, rfl, .inl hS, _, _, rfl, rfl, _, rfl, ?_⟩
      have fin : ∀ o : Int, (fun (σ : L2.St) (H : Hp) => L2.tSeq (tAsg (tIf (tOr (tTest (tOp (rI0 fun i j => V.bl (decide (i < j))) (tVar 4) (tC (.int 0)))) (tTest (tOp (rI0 fun i j => V.bl (decide (j ≤ i))) (tVar 4) (tOp (rI CPow fun i j => V.int (i ^ j.toNat)) (tC (.int 10)) (tC (.int 18)))))) (tCB (fun xs H Q => ∃ i, xs = [.int i] ∧ Q (.int (if i < 0 then -i else i)) H) (tCons (tVar 4) tNil)) (tC (.int 0))) (gName 5))
          (tRet (tLst (tCons (tVar 5) (tCons (tOp (rI (fun _ j => 0 < j) fun i j => V.int (i % j)) (tCB (fun xs H Q => (∃ i, xs = [V.int i] ∧ Q (V.int i) H) ∨ ∃ k, xs = [V.bl k] ∧ Q (V.int (if k then 1 else 0)) H) (tCons (tOp (rI0 fun i j => V.int (i + j)) (tOp (rI0 fun i j => V.int (i + j)) (tOp (rI CMul fun i j => V.int (i * j)) (tVar 4) (tC (.int 2654435))) (tVar 2)) (tC (.int 12345))) tNil)) (tC (.int 1000000007))) (tCons (tC (.int 0)) tNil))))) { nx := fun _ H' => Q .non H', rt := Q } σ H) [some (.ref a), some (.int j), some (.int x), y, some (.int o), none] H' := by
        intro o
        refine ⟨_, rfl, _, _, rfl, rfl, _, rfl, ?_⟩
        have last : ∀ d : Int, 0 ≤ d → (fun (σ : L2.St) (H : Hp) => tRet (tLst (tCons (tVar 5) (tCons (tOp (rI (fun _ j => 0 < j) fun i j => V.int (i % j)) (tCB (fun xs H Q => (∃ i, xs = [V.int i] ∧ Q (V.int i) H) ∨ ∃ k, xs = [V.bl k] ∧ Q (V.int (if k then 1 else 0)) H) (tCons (tOp (rI0 fun i j => V.int (i + j)) (tOp (rI0 fun i j => V.int (i + j)) (tOp (rI CMul fun i j => V.int (i * j)) (tVar 4) (tC (.int 2654435))) (tVar 2)) (tC (.int 12345))) tNil)) (tC (.int 1000000007))) (tCons (tC (.int 0)) tNil)))) { nx := fun _ H' => Q .non H', rt := Q } σ H) [some (.ref a), some (.int j), some (.int x), y, some (.int o), some (.int d)] H' := by
          intro d hd
          refine ⟨_, rfl, _, rfl, _, _, rfl, rfl, .inr ⟨by decide, by decide⟩, _, rfl, _, _, rfl, rfl, _, _, rfl, rfl, .inl ⟨_, rfl, _, _, rfl, rfl, (by show (0 : Int) < 1000000007; decide), (by show 3 ≤ sizeLine; decide), fun p np => ?_⟩⟩
          exact k p _ _ 0 np ⟨hd, Int.emod_nonneg _ (by decide), Int.emod_lt_of_pos _ (by decide), by decide⟩
        refine ite2 (fun z => ?_) (fun z => ?_)
        · refine iteT ⟨_, rfl, _, rfl, ?_⟩
          exact last _ (by have := of_decide_eq_true z; split <;> omega)
        · refine ⟨_, rfl, _, _, rfl, rfl, ⟨by decide, by decide, by decide⟩, _, _, rfl, rfl, _, rfl, ?_⟩
          refine ite2 (fun z2 => ⟨_, rfl, _, rfl, ?_⟩) (fun z2 => ?_)
          · exact last _ (by split <;> omega)
          · exact last 0 (by omega)
      refine ite2 (fun z => ?_) (fun z => ?_)
      · have hj2 : j < ns.length := by
          have := of_decide_eq_true z
          rw [hlen] at this
          omega
        obtain ⟨n, h1, h2⟩ := map_int_get hj2
        exact ⟨_, rfl, _, rfl, a, _, _, _, rfl, rfl, hS, h2, fin n⟩
      · exact ⟨_, rfl, _, _, rfl, rfl, .inr ⟨by decide, by decide⟩, _, rfl, _, _, rfl, rfl, .inr ⟨by decide, by decide⟩, _, _, rfl, rfl, fin _⟩
/-- the law's own lowest terms -/
def spLow : Sp := fun vs H Q _ => ∃ h b : Int, vs = [.int h, .int b] ∧ b ≠ 0 ∧ Sz h ∧ Sz b ∧ ∀ p : Addr, H p = none → Q (.ref p) (upd H p (.tup [.int (lowT h b), .int (lowB h b)]))
def SprAt (a : Addr) (H : Hp) : Prop := ∃ d e c, H a = some (.lst (sprL d e c)) ∧ Spr d e c
theorem SprAt.same {a : Addr} {H H' : Hp} (s : SprAt a H) (h : Same H H') : SprAt a H' := by
  obtain ⟨d, e, c, h1, h2⟩ := s
  exact ⟨d, e, c, h _ _ h1, h2⟩
theorem SprAt.ne {a p : Addr} {H : Hp} (s : SprAt a H) (np : H p = none) : a ≠ p := by
  obtain ⟨d, e, c, h1, h2⟩ := s
  exact ne_of_none h1 np
def spNextO : Sp := fun vs H Q _ => ∃ (a : Addr) (m : Int), vs = [.ref a, .int m] ∧ SprAt a H ∧ 0 < m ∧ m.natAbs < 2 ^ 200 ∧ ∀ (v : Int) (H' : Hp), 0 ≤ v → v < m → Old a H H' → SprAt a H' → Q (.int v) H'
theorem c_nextO (T : Tx K mg) : Cal P w K mg base 1 "_law_next" (gAd "_law_next" K) ["_law_spring_here", "_law_many_here"] spNextO :=
  (c_next T).imp fun vs H Q E ⟨a, m, e, ⟨d, x, c, h1, h2⟩, hm, hm2, k⟩ => ⟨a, m, d, x, c, e, h1, h2, hm, hm2, fun v d' e' c' v0 v1 s => k v _ v0 v1 Old.put ⟨d', e', c', upd_same, s⟩⟩
theorem p20 : ((10 : Int) ^ (20 : Int).toNat) = 100000000000000000000 := by decide +kernel
theorem sz_of {z : Int} (h : -(2 ^ 200) < z) (h2 : z < 2 ^ 200) : Sz z := by
  have e : (2 : Nat) ^ 200 ≤ 2 ^ 1000 := by decide +kernel
  have : z.natAbs < 2 ^ 200 := by omega
  exact Nat.lt_of_lt_of_le this e
end
end K54

/-! Operands of a Number's operators, their promises. -/
namespace Hk
open PySem PySem.Spec PyProof.Rows L2 NumM NumT SX
/-- a Number u/c, or the int u (c = 1) -/
def Opd (C : Addr) (H : Hp) (y : V) (u c : Int) : Prop := (∃ q, y = .ref q ∧ NumAt C H q u c) ∨ (y = .int u ∧ c = 1)
theorem Opd.same {C : Addr} {H H' : Hp} {y : V} {u c : Int} (o : Opd C H y u c) (s : Same H H') : Opd C H' y u c := by
  rcases o with ⟨q, rfl, N⟩ | ⟨rfl, rfl⟩
  · exact .inl ⟨q, rfl, N.same s⟩
  · exact .inr ⟨rfl, rfl⟩
theorem Opd.pos {C : Addr} {H : Hp} {y : V} {u c : Int} (o : Opd C H y u c) : 0 < c := by
  rcases o with ⟨q, rfl, N⟩ | ⟨rfl, rfl⟩
  · exact N.pos
  · decide
/-- small enough to be multiplied -/
abbrev Sm (n : Int) : Prop := n.natAbs < 2 ^ 450
theorem sm_mul {x y : Int} (h : Sm x) (g : Sm y) : (x * y).natAbs < 2 ^ 900 := wide_lt h g
theorem sm_sz {x : Int} (h : Sm x) : Sz x := Nat.lt_of_lt_of_le h (by decide +kernel)
theorem p900 : (2 : Nat) ^ 900 + 2 ^ 900 ≤ 2 ^ 1000 := by decide +kernel
theorem sz_mulS {x y : Int} (h : Sm x) (g : Sm y) : Sz (x * y) := by
  have := sm_mul h g
  have := p900
  exact Nat.lt_of_lt_of_le (sm_mul h g) (by omega)
theorem sz_add {x y z u : Int} (h : Sm x) (g : Sm y) (h' : Sm z) (g' : Sm u) : Sz (x * y + z * u) := by
  have a := sm_mul h g
  have b := sm_mul h' g'
  have e := p900
  have t : (x * y + z * u).natAbs ≤ (x * y).natAbs + (z * u).natAbs := Int.natAbs_add_le _ _
  exact Nat.lt_of_lt_of_le (show (x * y + z * u).natAbs < 2 ^ 900 + 2 ^ 900 by omega) e
theorem sz_sub {x y z u : Int} (h : Sm x) (g : Sm y) (h' : Sm z) (g' : Sm u) : Sz (x * y - z * u) := by
  have a := sm_mul h g
  have b := sm_mul h' g'
  have e := p900
  have t : (x * y - z * u).natAbs ≤ (x * y).natAbs + (z * u).natAbs := Int.natAbs_sub_le _ _
  exact Nat.lt_of_lt_of_le (show (x * y - z * u).natAbs < 2 ^ 900 + 2 ^ 900 by omega) e
theorem cm {x y : Int} (h : Sm x) (g : Sm y) : CMulW x y := wide_mul h g (by decide) (by decide) (by decide)
/-- as_number -/
def spAsN (C : Addr) : Sp := fun vs H Q _ => ∃ (y : V) (u c : Int), vs = [y] ∧ Opd C H y u c ∧ Sz u ∧ ∀ (H' : Hp) (q : Addr), Same H H' → NumAt C H' q u c → Q (.ref q) H'
/-- a two-place method: num and den of the new fraction -/
def spBin (C : Addr) (num : Int → Int → Int → Int → Int) (den : Int → Int → Int → Int → Int) (ok : Int → Int → Int → Int → Prop) : Sp := fun vs H Q _ => ∃ (p : Addr) (y : V) (t b u c : Int), vs = [.ref p, y] ∧ NumAt C H p t b ∧ Opd C H y u c ∧ Sm t ∧ Sm b ∧ Sm u ∧ Sm c ∧ ok t b u c ∧
  ∀ (H' : Hp) (q : Addr), Same H H' → NumAt C H' q (lowT (num t b u c) (den t b u c)) (lowB (num t b u c) (den t b u c)) → Q (.ref q) H'
/-- the reflected one: an int first -/
def spRbin (C : Addr) (num : Int → Int → Int → Int) : Sp := fun vs H Q _ => ∃ (p : Addr) (i t b : Int), vs = [.ref p, .int i] ∧ NumAt C H p t b ∧ Sm t ∧ Sm b ∧ Sm i ∧
  ∀ (H' : Hp) (q : Addr), Same H H' → NumAt C H' q (lowT (num i t b) (1 * b)) (lowB (num i t b) (1 * b)) → Q (.ref q) H'
def spUn (C : Addr) (g : Int → Int) : Sp := fun vs H Q _ => ∃ (p : Addr) (t b : Int), vs = [.ref p] ∧ NumAt C H p t b ∧ Sm t ∧ Sm b ∧ ∀ (H' : Hp) (q : Addr), Same H H' → NumAt C H' q (g t) b → Q (.ref q) H'
end Hk

namespace K54
open PySem PySem.Spec PyProof.Rows L2 Hk NumM NumT SX
open TL (numL)
section
variable {P : Program} {w : World} {K : Fr} {mg : Str → Option Value} {base : Heap}
theorem sz1 : Sz 1 := by decide +kernel
theorem low_one (u : Int) : lowT u 1 = u ∧ lowB u 1 = 1 := low_red (t := u) (b := 1) (by decide) (by simp)
theorem NumAt.lo {C : Addr} {H : Hp} {p : Addr} {t b : Int} (n : NumAt C H p t b) : lowT t b = t ∧ lowB t b = b := low_red n.pos n.cop
theorem c_asnum (T : Tx K mg) : Cal P w K mg base 4 "as_number" (gAd "as_number" K) ["value"] (spAsN (CN K)) := by
  have C_is_integer := c_isint (P := P) (w := w) (base := base) T
  obtain ⟨f0, D0, F0⟩ := f_init (P := P) (w := w) (base := base) T
  refine cal_of (d := d_as_number) (N := ["value"]) (a_as_number T.c) rfl sc_as_number (g_as_number T) (fun _ _ _ _ _ _ us hl => match us, hl with | [_], _ => rfl) (fun vs H Q E h => ?_) (fun cdv A outer s H vs Q E hr h => ?_)
  · obtain ⟨y, u, c, rfl, _⟩ := h
    rfl
  · obtain ⟨y, u, c, rfl, o, su, k⟩ := h
    obtain ⟨ds, Vd, B0⟩ := b_init1 D0
    refine ⟨_, (pss_cons (ps_if (pt_val (pe_callB call_isi (by rfl) (n_isinstance T) bo_isinstance (pa_cons (pv 0) (pa_cons (pe_glob (v := .ref (gAd "Number" K)) rfl (g_Number T) rfl) pa_nil))))
      (pss_one (ps_ret (pv 0))) pss_nil)
      (pss_cons (ps_if (pt_val (pe_c C_is_integer (hr.mono (by decide)) (pa_cons (pv 0) pa_nil)))
      (pss_one (ps_ret (pe_num (He.mkr_ok (f_mkr_Number T.c)) F0 hr (g_Number T) B0 Vd (pa_cons (pv 0) pa_nil)))) pss_nil)
      (pss_one ps_never))), ?_⟩
    rcases o with ⟨q, rfl, N⟩ | ⟨rfl, rfl⟩
    · obtain ⟨dx, hp⟩ := id N.at_
      refine ⟨_, rfl, _, _, _, _, true, rfl, .own _, .base (ins_ok (f_ins T.c) hp (cl T)), of_decide_eq_true (f_kitO T.c), true, rfl, iteT ?_⟩
      exact ⟨_, rfl, k _ _ (Same.refl H) N⟩
    · refine ⟨_, rfl, _, _, _, _, false, rfl, .own _, .base (.int _), of_decide_eq_true (f_kit_int T.c), false, rfl, iteF ?_⟩
      refine ⟨_, rfl, u, rfl, true, rfl, iteT ?_⟩
      refine ⟨_, rfl, u, 1, rfl, by decide, sz1, fun H' p s np N => ?_⟩
      rw [(low_one u).1, (low_one u).2] at N
      exact k _ _ s N
end
end K54

namespace K54
open PySem PySem.Spec PyProof.Rows L2 Hk NumM NumT SX
open TL (numL)
section
variable {P : Program} {w : World} {K : Fr} {mg : Str → Option Value} {base : Heap}
theorem f_add (T : Tx K mg) : ∃ fd, DAt K d_Number_add fd ∧ FnOk P w K mg base CX0 5 (d_Number_add.ad K) fd ["self", "other"] (spBin (CN K) (fun t b u c => t * c + u * b) (fun t b u c => b * c) (fun _ _ _ _ => True)) := by
  obtain ⟨fd, D⟩ := a_Number_add T.c
  have C_as_number := c_asnum (P := P) (w := w) (base := base) T
  obtain ⟨f0, D0, F0⟩ := f_init (P := P) (w := w) (base := base) T
  obtain ⟨f1, D1, F1⟩ := f_top (P := P) (w := w) (base := base) T
  obtain ⟨f2, D2, F2⟩ := f_bottom (P := P) (w := w) (base := base) T
  have b1 : Binds K f1 ["self"] [] := FunD.bindsN D1 fun _ _ _ _ _ _ us hl => match us, hl with | [_], _ => rfl
  have b2 : Binds K f2 ["self"] [] := FunD.bindsN D2 fun _ _ _ _ _ _ us hl => match us, hl with | [_], _ => rfl
  refine ⟨fd, D, ok_of (N := ["self", "other", "right"]) D sc_Number_add (fun vs H Q E h => ?_) (fun cdv A outer s H vs Q E hr h => ?_)⟩
  · obtain ⟨p, y, t, b, u, c, rfl, _⟩ := h
    rfl
  · obtain ⟨p, y, t, b, u, c, rfl, N, o, zt, zb, zu, zc, _, k⟩ := h
    refine ⟨_, (pss_cons (ps_set (i := 2) sc_Number_add.nd rfl (.inl rfl) (pe_c C_as_number hr (pa_cons (pv 1) pa_nil)))
      (pss_one (ps_ret (pe_num (mkN T) F0 (hr.mono (by decide)) (g_Number T) (b_init2 D0) .nil (pa_cons (pe_op op_add (pe_op op_mulW (pe_fld (pv 0) rfl) (pe_prop (pv 2) (cl T) (prop_ok (f_prop_bottom T.c)) F2 (hr.mono (by decide)) b2 .nil pass0 rfl)) (pe_op op_mulW (pe_prop (pv 2) (cl T) (prop_ok (f_prop_top T.c)) F1 (hr.mono (by decide)) b1 .nil pass0 rfl) (pe_fld (pv 0) rfl))) (pa_cons (pe_op op_mulW (pe_fld (pv 0) rfl) (pe_prop (pv 2) (cl T) (prop_ok (f_prop_bottom T.c)) F2 (hr.mono (by decide)) b2 .nil pass0 rfl)) pa_nil)))))), ?_⟩
    refine ⟨_, rfl, y, u, c, rfl, o, sm_sz zu, fun H1 q s1 M => ?_⟩
    have N1 := N.same s1
    obtain ⟨dp, hp⟩ := id N1.at_
    obtain ⟨dq, hq⟩ := id M.at_
    refine ⟨_, rfl, p, CN K, dp, _, _, rfl, hp, cl T, nT T, numF_top _ _, _, rfl, q, dq, _, rfl, hq, q, u, c, rfl, M, sm_sz zu, sm_sz zc, _, _, rfl, rfl, cm zt zc, _, rfl, q, dq, _, rfl, hq, q, u, c, rfl, M, sm_sz zu, sm_sz zc, _, rfl, p, CN K, dp, _, _, rfl, hp, cl T, nB T, numF_bot _ _, _, _, rfl, rfl, cm zu zb, _, _, rfl, rfl, _, rfl, p, CN K, dp, _, _, rfl, hp, cl T, nB T, numF_bot _ _, _, rfl, q, dq, _, rfl, hq, q, u, c, rfl, M, sm_sz zu, sm_sz zc, _, _, rfl, rfl, cm zb zc, ?_⟩
    exact ⟨_, _, rfl, (Int.mul_ne_zero (by have := N.pos; omega) (by have := M.pos; omega)), sz_mulS zb zc, fun H2 r s2 nr R => k H2 r (s1.trans s2) R⟩
theorem f_sub (T : Tx K mg) : ∃ fd, DAt K d_Number_sub fd ∧ FnOk P w K mg base CX0 5 (d_Number_sub.ad K) fd ["self", "other"] (spBin (CN K) (fun t b u c => t * c - u * b) (fun t b u c => b * c) (fun _ _ _ _ => True)) := by
  obtain ⟨fd, D⟩ := a_Number_sub T.c
  have C_as_number := c_asnum (P := P) (w := w) (base := base) T
  obtain ⟨f0, D0, F0⟩ := f_init (P := P) (w := w) (base := base) T
  obtain ⟨f1, D1, F1⟩ := f_top (P := P) (w := w) (base := base) T
  obtain ⟨f2, D2, F2⟩ := f_bottom (P := P) (w := w) (base := base) T
  have b1 : Binds K f1 ["self"] [] := FunD.bindsN D1 fun _ _ _ _ _ _ us hl => match us, hl with | [_], _ => rfl
  have b2 : Binds K f2 ["self"] [] := FunD.bindsN D2 fun _ _ _ _ _ _ us hl => match us, hl with | [_], _ => rfl
  refine ⟨fd, D, ok_of (N := ["self", "other", "right"]) D sc_Number_sub (fun vs H Q E h => ?_) (fun cdv A outer s H vs Q E hr h => ?_)⟩
  · obtain ⟨p, y, t, b, u, c, rfl, _⟩ := h
    rfl
  · obtain ⟨p, y, t, b, u, c, rfl, N, o, zt, zb, zu, zc, _, k⟩ := h
    refine ⟨_, (pss_cons (ps_set (i := 2) sc_Number_sub.nd rfl (.inl rfl) (pe_c C_as_number hr (pa_cons (pv 1) pa_nil)))
      (pss_one (ps_ret (pe_num (mkN T) F0 (hr.mono (by decide)) (g_Number T) (b_init2 D0) .nil (pa_cons (pe_op op_sub (pe_op op_mulW (pe_fld (pv 0) rfl) (pe_prop (pv 2) (cl T) (prop_ok (f_prop_bottom T.c)) F2 (hr.mono (by decide)) b2 .nil pass0 rfl)) (pe_op op_mulW (pe_prop (pv 2) (cl T) (prop_ok (f_prop_top T.c)) F1 (hr.mono (by decide)) b1 .nil pass0 rfl) (pe_fld (pv 0) rfl))) (pa_cons (pe_op op_mulW (pe_fld (pv 0) rfl) (pe_prop (pv 2) (cl T) (prop_ok (f_prop_bottom T.c)) F2 (hr.mono (by decide)) b2 .nil pass0 rfl)) pa_nil)))))), ?_⟩
    refine ⟨_, rfl, y, u, c, rfl, o, sm_sz zu, fun H1 q s1 M => ?_⟩
    have N1 := N.same s1
    obtain ⟨dp, hp⟩ := id N1.at_
    obtain ⟨dq, hq⟩ := id M.at_
    refine ⟨_, rfl, p, CN K, dp, _, _, rfl, hp, cl T, nT T, numF_top _ _, _, rfl, q, dq, _, rfl, hq, q, u, c, rfl, M, sm_sz zu, sm_sz zc, _, _, rfl, rfl, cm zt zc, _, rfl, q, dq, _, rfl, hq, q, u, c, rfl, M, sm_sz zu, sm_sz zc, _, rfl, p, CN K, dp, _, _, rfl, hp, cl T, nB T, numF_bot _ _, _, _, rfl, rfl, cm zu zb, _, _, rfl, rfl, _, rfl, p, CN K, dp, _, _, rfl, hp, cl T, nB T, numF_bot _ _, _, rfl, q, dq, _, rfl, hq, q, u, c, rfl, M, sm_sz zu, sm_sz zc, _, _, rfl, rfl, cm zb zc, ?_⟩
    exact ⟨_, _, rfl, (Int.mul_ne_zero (by have := N.pos; omega) (by have := M.pos; omega)), sz_mulS zb zc, fun H2 r s2 nr R => k H2 r (s1.trans s2) R⟩
theorem f_mul (T : Tx K mg) : ∃ fd, DAt K d_Number_mul fd ∧ FnOk P w K mg base CX0 5 (d_Number_mul.ad K) fd ["self", "other"] (spBin (CN K) (fun t b u c => t * u) (fun t b u c => b * c) (fun _ _ _ _ => True)) := by
  obtain ⟨fd, D⟩ := a_Number_mul T.c
  have C_as_number := c_asnum (P := P) (w := w) (base := base) T
  obtain ⟨f0, D0, F0⟩ := f_init (P := P) (w := w) (base := base) T
  obtain ⟨f1, D1, F1⟩ := f_top (P := P) (w := w) (base := base) T
  obtain ⟨f2, D2, F2⟩ := f_bottom (P := P) (w := w) (base := base) T
  have b1 : Binds K f1 ["self"] [] := FunD.bindsN D1 fun _ _ _ _ _ _ us hl => match us, hl with | [_], _ => rfl
  have b2 : Binds K f2 ["self"] [] := FunD.bindsN D2 fun _ _ _ _ _ _ us hl => match us, hl with | [_], _ => rfl
  refine ⟨fd, D, ok_of (N := ["self", "other", "right"]) D sc_Number_mul (fun vs H Q E h => ?_) (fun cdv A outer s H vs Q E hr h => ?_)⟩
  · obtain ⟨p, y, t, b, u, c, rfl, _⟩ := h
    rfl
  · obtain ⟨p, y, t, b, u, c, rfl, N, o, zt, zb, zu, zc, _, k⟩ := h
    refine ⟨_, (pss_cons (ps_set (i := 2) sc_Number_mul.nd rfl (.inl rfl) (pe_c C_as_number hr (pa_cons (pv 1) pa_nil)))
      (pss_one (ps_ret (pe_num (mkN T) F0 (hr.mono (by decide)) (g_Number T) (b_init2 D0) .nil (pa_cons (pe_op op_mulW (pe_fld (pv 0) rfl) (pe_prop (pv 2) (cl T) (prop_ok (f_prop_top T.c)) F1 (hr.mono (by decide)) b1 .nil pass0 rfl)) (pa_cons (pe_op op_mulW (pe_fld (pv 0) rfl) (pe_prop (pv 2) (cl T) (prop_ok (f_prop_bottom T.c)) F2 (hr.mono (by decide)) b2 .nil pass0 rfl)) pa_nil)))))), ?_⟩
    refine ⟨_, rfl, y, u, c, rfl, o, sm_sz zu, fun H1 q s1 M => ?_⟩
    have N1 := N.same s1
    obtain ⟨dp, hp⟩ := id N1.at_
    obtain ⟨dq, hq⟩ := id M.at_
    refine ⟨_, rfl, p, CN K, dp, _, _, rfl, hp, cl T, nT T, numF_top _ _, _, rfl, q, dq, _, rfl, hq, q, u, c, rfl, M, sm_sz zu, sm_sz zc, _, _, rfl, rfl, cm zt zu, _, rfl, p, CN K, dp, _, _, rfl, hp, cl T, nB T, numF_bot _ _, _, rfl, q, dq, _, rfl, hq, q, u, c, rfl, M, sm_sz zu, sm_sz zc, _, _, rfl, rfl, cm zb zc, ?_⟩
    exact ⟨_, _, rfl, (Int.mul_ne_zero (by have := N.pos; omega) (by have := M.pos; omega)), sz_mulS zb zc, fun H2 r s2 nr R => k H2 r (s1.trans s2) R⟩
end
end K54

namespace K54
open PySem PySem.Spec PyProof.Rows L2 Hk NumM NumT SX
open TL (numL)
section
variable {P : Program} {w : World} {K : Fr} {mg : Str → Option Value} {base : Heap}
theorem f_sign (T : Tx K mg) : ∃ fd, DAt K d_Number_sign fd ∧ FnOk P w K mg base CX0 1 (d_Number_sign.ad K) fd ["self"] (spGet (CN K) fun t _ => .int (sgn t)) := by
  obtain ⟨fd, D⟩ := a_Number_sign T.c
  refine ⟨fd, D, ok_of (N := ["self"]) D sc_Number_sign (fun vs H Q E h => ?_) (fun cdv A outer s H vs Q E hr h => ?_)⟩
  · obtain ⟨p, t, b, rfl, _⟩ := h
    rfl
  · obtain ⟨p, t, b, rfl, ⟨⟨dx, hp⟩, _, _⟩, _, _, k⟩ := h
    refine ⟨_, (pss_cons (ps_if (pt_cmpR op_eq (pe_fld (pv 0) rfl) pe_int (nomark _)) (pss_one (ps_ret pe_int)) pss_nil)
      (pss_one (ps_ret (pe_ifExp (pt_cmpR op_gt (pe_fld (pv 0) rfl) pe_int (nomark _)) pe_int (pe_un un_neg pe_int))))), ?_⟩
    refine ⟨_, rfl, p, CN K, dx, _, _, rfl, hp, cl T, nT T, numF_top _ _, rfl, _, rfl, ?_⟩
    refine ite2 (fun z => ?_) (fun z => ?_)
    · have e : t = 0 := V.int.inj (of_decide_eq_true z)
      subst e
      exact k
    · have e : ¬ t = 0 := fun q => z (decide_eq_true (by rw [q]))
      refine ⟨_, rfl, p, CN K, dx, _, _, rfl, hp, cl T, nT T, numF_top _ _, _, _, rfl, rfl, _, rfl, ?_⟩
      refine ite2 (fun q => ?_) (fun q => ?_)
      · have q' : 0 < t := of_decide_eq_true q
        have es : sgn t = 1 := by unfold sgn; rw [if_neg e, if_pos q']
        have k' : Q (.int (sgn t)) H := k
        rw [es] at k'
        exact k'
      · have q' : ¬ 0 < t := fun q2 => q (decide_eq_true q2)
        have es : sgn t = -1 := by unfold sgn; rw [if_neg e, if_neg q']
        have k' : Q (.int (sgn t)) H := k
        rw [es] at k'
        exact ⟨_, rfl, k'⟩
end
end K54

namespace K54
open PySem PySem.Spec PyProof.Rows L2 Hk NumM NumT SX
open TL (numL)
section
variable {P : Program} {w : World} {K : Fr} {mg : Str → Option Value} {base : Heap}
/-- two pairs to a new one -/
def spTwo (num den : Int → Int → Int → Int → Int) : Sp := fun vs H Q _ => ∃ (p q : Addr) (t b u c : Int), vs = [.ref p, .ref q] ∧ H p = some (.tup [.int t, .int b]) ∧ H q = some (.tup [.int u, .int c]) ∧ Sm t ∧ Sm b ∧ Sm u ∧ Sm c ∧ den t b u c ≠ 0 ∧
  ∀ r : Addr, H r = none → Q (.ref r) (upd H r (.tup [.int (lowT (num t b u c) (den t b u c)), .int (lowB (num t b u c) (den t b u c))]))
def spMinus : Sp := fun vs H Q _ => ∃ (p : Addr) (t b : Int), vs = [.ref p] ∧ H p = some (.tup [.int t, .int b]) ∧ ∀ r : Addr, H r = none → Q (.ref r) (upd H r (.tup [.int (0 - t), .int b]))
/-- a pair in lowest terms, of a size -/
abbrev Md (n : Int) : Prop := n.natAbs < 2 ^ 110
structure Pr (H : Hp) (p : Addr) (t b : Int) : Prop where
  at_ : H p = some (.tup [.int t, .int b])
  pos : 0 < b
  cop : Nat.gcd t.natAbs b.natAbs = 1
  mt : Md t
  mb : Md b
theorem Pr.same {H H' : Hp} {p : Addr} {t b : Int} (n : Pr H p t b) (s : Same H H') : Pr H' p t b := ⟨s _ _ n.at_, n.pos, n.cop, n.mt, n.mb⟩
theorem Pr.ne {H : Hp} {a p : Addr} {t b : Int} (n : Pr H p t b) (s : SprAt a H) : p ≠ a := by
  obtain ⟨d, e, c, h, _⟩ := s
  exact ne_of n.at_ h (by intro z; exact nomatch z)
theorem Pr.old {H H' : Hp} {a p : Addr} {t b : Int} (n : Pr H p t b) (s : SprAt a H) (o : Old a H H') : Pr H' p t b := ⟨o _ _ n.at_ (n.ne s), n.pos, n.cop, n.mt, n.mb⟩
theorem md_sm {n : Int} (h : Md n) : Sm n := Nat.lt_of_lt_of_le h (by decide +kernel)
theorem md_sz {n : Int} (h : Md n) : Sz n := Nat.lt_of_lt_of_le h (by decide +kernel)
theorem md_low {h b : Int} (hb : b ≠ 0) (mh : Md h) (mb : Md b) : Md (lowT h b) ∧ Md (lowB h b) := ⟨Nat.lt_of_le_of_lt (lowT_le hb) mh, Nat.lt_of_le_of_lt (lowB_le hb) mb⟩
def spPairNew : Sp := fun vs H Q _ => ∃ a : Addr, vs = [.ref a] ∧ SprAt a H ∧ ∀ (H' : Hp) (p : Addr) (t b : Int), Old a H H' → SprAt a H' → Pr H' p t b → Q (.ref p) H'
theorem p30 : ((10 : Int) ^ (30 : Int).toNat) = 1000000000000000000000000000000 := by decide +kernel
theorem p29 : ((10 : Int) ^ (29 : Int).toNat) = 100000000000000000000000000000 := by decide +kernel
end
end K54

/-! math.lcm -/
namespace L2
open PySem PySem.Spec PyProof.Rows
def rLcm : List V → Hp → VK → Prop := fun vs H Q => ∃ a b : Nat, vs = [.int (a : Int), .int (b : Int)] ∧ a < 2 ^ 30 ∧ b < 2 ^ 30 ∧ Q (.int ((Nat.lcm a b : Nat) : Int)) H
theorem cr_lcm {X : Cx} : CallR X (.builtin "math.lcm") rLcm := by
  intro pins s σ H vs us Q I r h
  obtain ⟨a, b, rfl, ha, hb, q⟩ := h
  obtain ⟨t, u, rfl⟩ := Vals.int2 r
  have e1 : Nat.lcm 1 a = a := by simp [Nat.lcm]
  refine PySem.W.mg_lcm (by omega) (by omega) ?_ ?_
  · rw [Int.natAbs_natCast, Int.natAbs_natCast, e1, Int.natAbs_natCast]
    have h1 : a.lcm b ≤ a * b := by
      unfold Nat.lcm
      exact Nat.div_le_self _ _
    have h2 : a * b < 2 ^ 60 := by
      have : a * b ≤ (2 ^ 30 - 1) * (2 ^ 30 - 1) := Nat.mul_le_mul (by omega) (by omega)
      omega
    have h3 : (a.lcm b).log2 ≤ 60 := by
      by_cases h0 : a.lcm b = 0
      · rw [h0]; decide
      · exact Nat.le_of_lt_succ ((Nat.log2_lt h0).mpr (by omega))
    exact Nat.lt_of_le_of_lt h3 (by decide)
  · rw [Int.natAbs_natCast, Int.natAbs_natCast, e1]
    exact ⟨.int _, H, I.tok _, ⟨_, rfl⟩, q⟩
end L2

/-! fractions in lowest terms as rational numbers -/
namespace NumM
theorem low_q {n : Int} {d : Nat} (hd : d ≠ 0) : lowT n (d : Int) = (mkRat n d).num ∧ lowB n (d : Int) = ((mkRat n d).den : Int) := by
  have sg1 : sg (d : Int) = 1 := by
    unfold sg
    split <;> omega
  have g : gd n (d : Int) = ((d.gcd n.natAbs : Nat) : Int) := by
    unfold gd
    rw [Int.natAbs_natCast, Nat.gcd_comm]
  unfold lowT lowB
  rw [sg1, Int.one_mul, Int.one_mul, g, Rat.num_mkRat, Rat.den_mkRat, if_neg hd, if_neg hd]
  exact ⟨rfl, by rw [Int.natCast_ediv]⟩
theorem add_q (p q : Rat) : lowT (p.num * q.den + q.num * p.den) ((p.den : Int) * q.den) = (p + q).num ∧ lowB (p.num * q.den + q.num * p.den) ((p.den : Int) * q.den) = ((p + q).den : Int) := by
  have h := low_q (n := p.num * q.den + q.num * p.den) (d := p.den * q.den) (Nat.mul_ne_zero p.den_nz q.den_nz)
  rw [← Rat.add_def'] at h
  rw [← Int.natCast_mul]
  exact h
theorem mul_q (p q : Rat) : lowT (p.num * q.num) ((p.den : Int) * q.den) = (p * q).num ∧ lowB (p.num * q.num) ((p.den : Int) * q.den) = ((p * q).den : Int) := by
  have h := low_q (n := p.num * q.num) (d := p.den * q.den) (Nat.mul_ne_zero p.den_nz q.den_nz)
  rw [← Rat.mul_def'] at h
  rw [← Int.natCast_mul]
  exact h
/-- a fraction of this denominator -/
def Bnd (d B : Nat) (q : Rat) : Prop := ∃ n : Int, q = mkRat n d ∧ n.natAbs ≤ B
theorem Bnd.le {d B C : Nat} {q : Rat} (h : Bnd d B q) (hb : B ≤ C) : Bnd d C q := by
  obtain ⟨n, e, l⟩ := h
  exact ⟨n, e, Nat.le_trans l hb⟩
theorem Bnd.up {d B : Nat} {q : Rat} (h : Bnd d B q) (k : Nat) (hk : k ≠ 0) (hd : d ≠ 0) : Bnd (d * k) (B * k) q := by
  obtain ⟨n, e, l⟩ := h
  refine ⟨n * k, ?_, ?_⟩
  · rw [e, Rat.mkRat_eq_iff hd (Nat.mul_ne_zero hd hk)]
    push_cast
    grind
  · rw [Int.natAbs_mul, Int.natAbs_natCast]
    exact Nat.mul_le_mul_right _ l
theorem Bnd.add {d B C : Nat} {p q : Rat} (hd : d ≠ 0) (h : Bnd d B p) (g : Bnd d C q) : Bnd d (B + C) (p + q) := by
  obtain ⟨n, e, l⟩ := h
  obtain ⟨m, f, k⟩ := g
  refine ⟨n + m, ?_, ?_⟩
  · rw [e, f, Rat.mkRat_add_mkRat _ _ hd hd, Rat.mkRat_eq_iff (Nat.mul_ne_zero hd hd) hd]
    push_cast
    grind
  · have := Int.natAbs_add_le n m
    omega
theorem Bnd.mul {d e B C : Nat} {p q : Rat} (h : Bnd d B p) (g : Bnd e C q) : Bnd (d * e) (B * C) (p * q) := by
  obtain ⟨n, e1, l⟩ := h
  obtain ⟨m, f, k⟩ := g
  refine ⟨n * m, ?_, ?_⟩
  · rw [e1, f, Rat.mkRat_mul_mkRat]
  · rw [Int.natAbs_mul]
    exact Nat.mul_le_mul l k
theorem Bnd.zero (d : Nat) : Bnd d 0 0 := ⟨0, by simp, by decide⟩
theorem Bnd.num {d B : Nat} {q : Rat} (hd : d ≠ 0) (h : Bnd d B q) : q.num.natAbs ≤ B ∧ q.den ≤ d := by
  obtain ⟨n, e, l⟩ := h
  rw [e, Rat.num_mkRat, Rat.den_mkRat, if_neg hd, if_neg hd]
  refine ⟨?_, Nat.div_le_self _ _⟩
  refine Nat.le_trans ?_ l
  exact Int.natAbs_ediv_le_natAbs _ _
end NumM
namespace Hk
open PySem PySem.Spec PyProof.Rows L2 NumM NumT SX
/-- a Number of this value -/
abbrev NumQ (C : Addr) (H : Hp) (p : Addr) (q : Rat) : Prop := NumAt C H p q.num (q.den : Int)
theorem numQ_of {C : Addr} {H : Hp} {p : Addr} {t b : Int} (h : NumAt C H p t b) : ∃ q : Rat, q.num = t ∧ (q.den : Int) = b ∧ NumQ C H p q := by
  have hb := h.pos
  have e : ((b.toNat : Nat) : Int) = b := by omega
  refine ⟨⟨t, b.toNat, by omega, ?_⟩, rfl, e, ?_⟩
  · have := h.cop
    rw [show b.natAbs = b.toNat by omega] at this
    exact this
  · show NumAt C H p t ((b.toNat : Nat) : Int)
    rw [e]
    exact h
end Hk

/-! comprehensions over tuples; rows of values alike -/
namespace Hk
open PySem PySem.Spec PyProof.Rows L2 SX
theorem sqT_same {K : Fr} {a : Addr} {xs : List V} {H H' : Hp} (s : Same H H') (h : SqT K H a xs) : SqT K H' a xs := by
  rcases h with (z | ⟨o1, z⟩) | z
  · exact .inl (.inl (s _ _ z))
  · exact .inl (.inr ⟨o1, s _ _ z⟩)
  · exact .inr z
/-- a comprehension that makes ys of xs, item by item -/
theorem lc_idxT {K : Fr} {a : Addr} {xs : List V} {i : Nat} {te : TE} {σ : L2.St} {H1 : Hp} {D : Addr} {Qd : Hp → Prop} (ys : List V) (hlen : xs.length = ys.length) (nD : H1 D = none) (hl : SqT K H1 a xs) (hz : xs.length ≤ 100000)
    (hs : ∀ (j : Nat) (x y : V), xs[j]? = some x → ys[j]? = some y → ∀ (H : Hp) (R : VK), Same H1 H → (∀ H', Same H H' → R y H') → te ((σ.set i none).set i (some x)) H R)
    (hd : ∀ H, Same H1 H → H D = some (.lst ys) → Qd H) :
    ∃ W : Nat → Nat → Hp → Prop, (∃ m, W 0 m (upd H1 D (.lst []))) ∧ ∀ j m H, W j m H →
      ((Itt K a).stop j H ∧ Qd H) ∨ ((Itt K a).go j H ∧ ∃ Nx : Hp → Prop, (∀ H', Nx H' → ∃ m', m' < m ∧ W (j + 1) m' H') ∧ ∀ x H', (Itt K a).yld j H x H' → gName i x (wipe σ [i]) H' fun σ2 H2 => wipe σ2 [i] = wipe σ [i] ∧ tYes σ2 H2 fun b H3 =>
        if b = true then te σ2 H3 fun y H4 => ∃ acc, H4 D = some (.lst acc) ∧ acc.length < sizeLine ∧ Nx (upd H4 D (.lst (acc ++ [y]))) else Nx H3) := by
  refine lc_tup (xs := xs) (fun j H' => Same H1 H' ∧ H' D = some (.lst (ys.take j))) ⟨same_upd nD, upd_same⟩ (fun j H' _ h => sqT_same h.1 hl) ?_ ?_
  · rintro j x H hx ⟨s1, hD⟩
    have hj := (List.getElem?_eq_some_iff.mp hx).1
    have hy : ys[j]? = some (ys[j]'(by omega)) := List.getElem?_eq_getElem _
    refine ⟨by show ((σ.set i none).set i (some x)).set i none = σ.set i none; rw [List.set_set, List.set_set], ?_⟩
    unfold tYes
    dsimp only
    rw [if_pos rfl]
    refine hs j x _ hx hy H _ s1 fun H' s2 => ⟨_, s2 _ _ hD, ?_, same_upd' (s1.trans s2) nD, ?_⟩
    · rw [List.length_take]
      have : (100000 : Nat) < sizeLine := by decide
      omega
    · rw [upd_same, List.take_add_one, hy]
      rfl
  · rintro H ⟨s1, hD⟩
    rw [hlen, List.take_length] at hD
    exact hd H s1 hD
theorem lc_trueT {K : Fr} {a : Addr} {xs : List V} {i : Nat} {te : TE} {σ : L2.St} {H1 : Hp} {D : Addr} {Qd : Hp → Prop} (nD : H1 D = none) (hl : SqT K H1 a xs) (hz : xs.length ≤ 100000)
    (hs : ∀ (j : Nat) (x : V), xs[j]? = some x → ∀ (H : Hp) (R : VK), Same H1 H → (∀ H', Same H H' → R (.bl true) H') → te ((σ.set i none).set i (some x)) H R)
    (hd : ∀ H, Same H1 H → H D = some (.lst ((List.replicate xs.length true).map V.bl)) → Qd H) :
    ∃ W : Nat → Nat → Hp → Prop, (∃ m, W 0 m (upd H1 D (.lst []))) ∧ ∀ j m H, W j m H →
      ((Itt K a).stop j H ∧ Qd H) ∨ ((Itt K a).go j H ∧ ∃ Nx : Hp → Prop, (∀ H', Nx H' → ∃ m', m' < m ∧ W (j + 1) m' H') ∧ ∀ x H', (Itt K a).yld j H x H' → gName i x (wipe σ [i]) H' fun σ2 H2 => wipe σ2 [i] = wipe σ [i] ∧ tYes σ2 H2 fun b H3 =>
        if b = true then te σ2 H3 fun y H4 => ∃ acc, H4 D = some (.lst acc) ∧ acc.length < sizeLine ∧ Nx (upd H4 D (.lst (acc ++ [y]))) else Nx H3) := by
  refine lc_idxT ((List.replicate xs.length true).map V.bl) (by simp) nD hl hz (fun j x y hx hy H R s q => hs j x hx H R s fun H' s2 => ?_) hd
  rw [List.map_replicate, List.getElem?_replicate] at hy
  split at hy
  · rw [← Option.some.inj hy] at q
    exact q H' s2
  · cases hy
theorem all_rep (n : Nat) : (List.replicate n true).all id = true := by
  induction n with
  | zero => rfl
  | succ n ih => rw [List.replicate_succ, List.all_cons, ih]; rfl
/-- two rows, alike item by item -/
def All2 {α β : Type} (R : α → β → Prop) (xs : List α) (ys : List β) : Prop := xs.length = ys.length ∧ ∀ (i : Nat) (x : α) (y : β), xs[i]? = some x → ys[i]? = some y → R x y
theorem All2.mono {α β : Type} {R S : α → β → Prop} {xs : List α} {ys : List β} (h : All2 R xs ys) (f : ∀ x y, R x y → S x y) : All2 S xs ys := ⟨h.1, fun i x y h1 h2 => f _ _ (h.2 i x y h1 h2)⟩
theorem All2.at {α β : Type} {R : α → β → Prop} {xs : List α} {ys : List β} (h : All2 R xs ys) {i : Nat} {x : α} (hx : xs[i]? = some x) : ∃ y, ys[i]? = some y ∧ R x y := by
  have hlt := (List.getElem?_eq_some_iff.mp hx).1
  have hy : ys[i]? = some (ys[i]'(by rw [← h.1]; exact hlt)) := List.getElem?_eq_getElem _
  exact ⟨_, hy, h.2 i _ _ hx hy⟩
theorem All2.at2 {α β : Type} {R : α → β → Prop} {xs : List α} {ys : List β} (h : All2 R xs ys) {i : Nat} {y : β} (hy : ys[i]? = some y) : ∃ x, xs[i]? = some x ∧ R x y := by
  have hlt := (List.getElem?_eq_some_iff.mp hy).1
  have hx : xs[i]? = some (xs[i]'(by rw [h.1]; exact hlt)) := List.getElem?_eq_getElem _
  exact ⟨_, hx, h.2 i _ _ hx hy⟩
theorem All2.nil {α β : Type} {R : α → β → Prop} : All2 R ([] : List α) ([] : List β) := ⟨rfl, fun i x y h => by simp at h⟩
theorem All2.cons {α β : Type} {R : α → β → Prop} {x : α} {y : β} {xs : List α} {ys : List β} (h : R x y) (r : All2 R xs ys) : All2 R (x :: xs) (y :: ys) := ⟨by rw [List.length_cons, List.length_cons, r.1], fun i a b h1 h2 => by
  cases i with
  | zero =>
    cases h1
    cases h2
    exact h
  | succ i => exact r.2 i a b h1 h2⟩
theorem All2.app {α β : Type} {R : α → β → Prop} {xs xs' : List α} {ys ys' : List β} (h : All2 R xs ys) (g : All2 R xs' ys') : All2 R (xs ++ xs') (ys ++ ys') := ⟨by rw [List.length_append, List.length_append, h.1, g.1], fun i a b h1 h2 => by
  by_cases c : i < xs.length
  · rw [List.getElem?_append_left c] at h1
    rw [List.getElem?_append_left (by rw [← h.1]; exact c)] at h2
    exact h.2 i a b h1 h2
  · rw [List.getElem?_append_right (by omega)] at h1
    rw [List.getElem?_append_right (by have := h.1; omega), ← h.1] at h2
    exact g.2 _ a b h1 h2⟩
end Hk

namespace K54
open PySem PySem.Spec PyProof.Rows L2 Hk NumM NumT SX
/-! rates -/
abbrev Rts := List (Nat × Nat)
/-- a row of pairs -/
def RateAt (H : Hp) (x : V) (r : Nat × Nat) : Prop := ∃ p, x = .ref p ∧ H p = some (.tup [.int (r.1 : Int), .int (r.2 : Int)])
def RtT (H : Hp) (xs : List V) (rs : Rts) : Prop := All2 (RateAt H) xs rs
theorem RtT.same {H H' : Hp} {xs : List V} {rs : Rts} (h : RtT H xs rs) (s : Same H H') : RtT H' xs rs := ⟨h.1, fun i x r h1 h2 => by
  obtain ⟨p, e, hp⟩ := h.2 i x r h1 h2
  exact ⟨p, e, s _ _ hp⟩⟩
/-- a rate as the document has it -/
structure ROk (r : Nat × Nat) : Prop where
  t1 : 1 ≤ r.1
  t2 : r.1 ≤ 12
  b1 : 1 ≤ r.2
  b2 : r.2 ≤ 12
  cop : Nat.gcd r.1 r.2 = 1
def lcmL (l : List Nat) : Nat := l.foldl Nat.lcm 1
theorem lcm_dvd_foldl (l : List Nat) : ∀ (a n : Nat), a ∣ n → (∀ x ∈ l, x ∣ n) → l.foldl Nat.lcm a ∣ n := by
  induction l with
  | nil => exact fun a n h _ => h
  | cons x r ih => exact fun a n h g => ih _ _ (Nat.lcm_dvd h (g x List.mem_cons_self)) fun y hy => g y (List.mem_cons_of_mem _ hy)
theorem lcmL_dvd {l : List Nat} {n : Nat} (g : ∀ x ∈ l, x ∣ n) : lcmL l ∣ n := lcm_dvd_foldl l 1 n (Nat.one_dvd n) g
theorem dvd_foldl (l : List Nat) : ∀ a : Nat, a ∣ l.foldl Nat.lcm a ∧ ∀ x ∈ l, x ∣ l.foldl Nat.lcm a := by
  induction l with
  | nil => exact fun a => ⟨Nat.dvd_refl a, fun x hx => nomatch hx⟩
  | cons y r ih =>
    intro a
    obtain ⟨h1, h2⟩ := ih (Nat.lcm a y)
    refine ⟨Nat.dvd_trans (Nat.dvd_lcm_left a y) h1, fun x hx => ?_⟩
    rcases List.mem_cons.mp hx with rfl | hx
    · exact Nat.dvd_trans (Nat.dvd_lcm_right a x) h1
    · exact h2 x hx
theorem dvd_lcmL {l : List Nat} {x : Nat} (h : x ∈ l) : x ∣ lcmL l := (dvd_foldl l 1).2 x h
theorem d12 : ∀ x : Nat, 1 ≤ x → x ≤ 12 → x ∣ 27720 := by
  intro x h1 h2
  have : x = 1 ∨ x = 2 ∨ x = 3 ∨ x = 4 ∨ x = 5 ∨ x = 6 ∨ x = 7 ∨ x = 8 ∨ x = 9 ∨ x = 10 ∨ x = 11 ∨ x = 12 := by omega
  rcases this with rfl | rfl | rfl | rfl | rfl | rfl | rfl | rfl | rfl | rfl | rfl | rfl <;> decide
theorem lcmL_le {l : List Nat} (h : ∀ x ∈ l, 1 ≤ x ∧ x ≤ 12) : lcmL l ≤ 27720 := Nat.le_of_dvd (by decide) (lcmL_dvd fun x hx => d12 x (h x hx).1 (h x hx).2)
theorem lcmL_pos {l : List Nat} (h : ∀ x ∈ l, 1 ≤ x ∧ x ≤ 12) : 1 ≤ lcmL l := by
  rcases Nat.eq_zero_or_pos (lcmL l) with e | e
  · have := lcmL_dvd (n := 27720) fun x hx => d12 x (h x hx).1 (h x hx).2
    rw [e] at this
    exact absurd (Nat.eq_zero_of_zero_dvd this) (by decide)
  · exact e
theorem lcmL_take {l : List Nat} {i x : Nat} (h : l[i]? = some x) : lcmL (l.take (i + 1)) = Nat.lcm (lcmL (l.take i)) x := by
  unfold lcmL
  rw [List.take_add_one, h, List.foldl_append]
  rfl
section
variable {P : Program} {w : World} {K : Fr} {mg : Str → Option Value} {base : Heap}
def spTpu (K : Fr) : Sp := fun vs H Q _ => ∃ (a : Addr) (xs : List V) (rs : Rts), vs = [.ref a] ∧ SqT K H a xs ∧ RtT H xs rs ∧ (∀ r ∈ rs, ROk r) ∧ Q (.int ((lcmL (rs.map (·.1)) : Nat) : Int)) H
theorem c_tpu (T : Tx K mg) : Cal P w K mg base 1 "ticks_per_unit" (gAd "ticks_per_unit" K) ["rates"] (spTpu K) := by
  refine cal_of (d := d_ticks_per_unit) (N := ["rates", "ticks", "top", "_"]) (a_ticks_per_unit T.c) rfl sc_ticks_per_unit (g_ticks_per_unit T) (fun _ _ _ _ _ _ us hl => match us, hl with | [_], _ => rfl) (fun vs H Q E h => ?_) (fun cdv A outer s H vs Q E hr h => ?_)
  · obtain ⟨a, xs, rs, rfl, _⟩ := h
    rfl
  · obtain ⟨a, xs, rs, rfl, hx, ht, ok, k⟩ := h
    refine ⟨_, (pss_cons (ps_set (i := 1) sc_ticks_per_unit.nd rfl (.inl rfl) pe_int)
 (pss_cons (ps_for PassesOwn.never rfl (pi_tup (pv 0)) (pg_tup (by rfl) (pgs_cons (pg_name (i := 2) sc_ticks_per_unit.nd rfl (.inl rfl)) (pgs_cons (pg_name (i := 3) sc_ticks_per_unit.nd rfl (.inl rfl)) pgs_nil)))
 (pss_one (ps_set (i := 1) sc_ticks_per_unit.nd rfl (.inl rfl) (pe_callBfun cr_lcm (by rfl) (m_lcm T) (pa_cons (pv 1) (pa_cons (pv 2) pa_nil))))))
 (pss_one (ps_ret (pv 1))))), ?_⟩
    refine ⟨_, rfl, a, rfl, ⟨_, hx⟩, ?_⟩
    have ok1 : ∀ x ∈ rs.map (·.1), 1 ≤ x ∧ x ≤ 12 := fun x hx => by
      obtain ⟨r, hr, rfl⟩ := List.mem_map.mp hx
      exact ⟨(ok r hr).t1, (ok r hr).t2⟩
    refine for_tup (a := a) (xs := xs) (fun i σ H' => H' = H ∧ ∃ x2 x3 : Option V, σ = [some (.ref a), some (.int ((lcmL ((rs.map (·.1)).take i) : Nat) : Int)), x2, x3]) ⟨rfl, none, none, rfl⟩ (fun i σ H' _ h => by rw [h.1]; exact hx) ?_ ?_
    · rintro i x σ H' hi ⟨rfl, x2, x3, rfl⟩
      have hlt := (List.getElem?_eq_some_iff.mp hi).1
      have hri : rs[i]? = some (rs[i]'(by rw [← ht.1]; exact hlt)) := List.getElem?_eq_getElem _
      obtain ⟨p, rfl, hp⟩ := ht.2 i x _ hi hri
      have o := ok _ (List.mem_of_getElem? hri)
      have o2 := o.t2
      have tk : ∀ x ∈ (rs.map (·.1)).take i, 1 ≤ x ∧ x ≤ 12 := fun x hx => ok1 x (List.mem_of_mem_take hx)
      have lb := lcmL_le tk
      refine ⟨p, _, rfl, .inl (.inl hp), rfl, _, _, rfl, _, _, rfl, rfl, ?_⟩
      refine ⟨_, rfl, _, rfl, _, _, rfl, by omega, by omega, rfl, some (.int ((rs[i]'(by rw [← ht.1]; exact hlt)).1 : Int)), some (.int ((rs[i]'(by rw [← ht.1]; exact hlt)).2 : Int)), ?_⟩
      rw [lcmL_take (x := (rs[i]'(by rw [← ht.1]; exact hlt)).1) (by rw [List.getElem?_map, hri]; rfl)]
      rfl
    · rintro σ H' ⟨rfl, x2, x3, rfl⟩
      refine ⟨_, rfl, ?_⟩
      rw [ht.1, List.take_of_length_le (by rw [List.length_map]; exact Nat.le_refl _)]
      exact k
end
end K54

namespace K54
open PySem PySem.Spec PyProof.Rows L2 Hk NumM NumT SX
/-- how many samples stand below a time -/
def cnt (r : Nat × Nat) (u : Nat) : Nat := (u * r.1 + r.2 - 1) / r.2
theorem cnt_eq (u t b : Nat) (hb : 1 ≤ b) : -((-(u : Int) * (t : Int)).fdiv (b : Int)) = ((cnt (t, b) u : Nat) : Int) := by
  unfold cnt
  dsimp only
  rw [Int.fdiv_eq_ediv_of_nonneg _ (by omega)]
  have h1 := Nat.div_add_mod (u * t + b - 1) b
  have h2 := Nat.mod_lt (u * t + b - 1) (show 0 < b by omega)
  generalize hq : (u * t + b - 1) / b = q at h1 ⊢
  generalize hr : (u * t + b - 1) % b = r at h1 h2
  have e : (-(u : Int) * (t : Int)) = ((b : Int) - 1 - r) + (-(q : Int)) * b := by
    have h3 : b * q + r + 1 = u * t + b := by omega
    have h4 : (b : Int) * q + r + 1 = u * t + b := by exact_mod_cast h3
    rw [Int.neg_mul, Int.neg_mul, Int.mul_comm (q : Int) b]
    omega
  rw [e, Int.add_mul_ediv_right _ _ (by omega), Int.ediv_eq_zero_of_lt (by omega) (by omega)]
  omega
section
variable {P : Program} {w : World} {K : Fr} {mg : Str → Option Value} {base : Heap}
def spBelow : Sp := fun vs H Q _ => ∃ (x : V) (r : Nat × Nat) (u : Nat), vs = [x, .int (u : Int)] ∧ RateAt H x r ∧ ROk r ∧ u ≤ 1000 ∧ Q (.int ((cnt r u : Nat) : Int)) H
theorem c_below (T : Tx K mg) : Cal P w K mg base 1 "samples_below" (gAd "samples_below" K) ["rate", "until"] spBelow := by
  refine cal_of (d := d_samples_below) (N := ["rate", "until", "top", "bottom"]) (a_samples_below T.c) rfl sc_samples_below (g_samples_below T) (fun _ _ _ _ _ _ us hl => match us, hl with | [_, _], _ => rfl) (fun vs H Q E h => ?_) (fun cdv A outer s H vs Q E hr h => ?_)
  · obtain ⟨x, r, u, rfl, _⟩ := h
    rfl
  · obtain ⟨x, r, u, rfl, ⟨p, rfl, hp⟩, ok, hu, k⟩ := h
    refine ⟨_, (pss_cons (ps_asg (pv 0) (pg_tup (by rfl) (pgs_cons (pg_name (i := 2) sc_samples_below.nd rfl (.inl rfl)) (pgs_cons (pg_name (i := 3) sc_samples_below.nd rfl (.inl rfl)) pgs_nil))))
 (pss_one (ps_ret (pe_un un_neg (pe_op op_fdivG (pe_op op_mulW (pe_un un_neg (pv 1)) (pv 2)) (pv 3)))))), ?_⟩
    have b1 := ok.b1
    have b2 := ok.b2
    have t2 := ok.t2
    refine ⟨_, rfl, p, _, rfl, .inl (.inl hp), rfl, _, _, rfl, _, _, rfl, rfl, ?_⟩
    have hc : (-(u : Int) * (r.1 : Int)) = -((u * r.1 : Nat) : Int) := by push_cast; rw [Int.neg_mul]
    refine ⟨_, rfl, _, rfl, _, rfl, _, _, rfl, rfl, ?_, _, rfl, _, _, rfl, rfl, ⟨by omega, ?_⟩, _, rfl, ?_⟩
    · unfold CMulW
      have h1 := Nat.log2_le_self (-(u : Int)).natAbs
      have h2 := Nat.log2_le_self (r.1 : Int).natAbs
      omega
    · have : ((r.2 : Int)).natAbs = r.2 := by omega
      rw [this]
      exact Nat.lt_of_le_of_lt (Nat.log2_le_self _) (by omega)
    · show Q (.int (-((-(u : Int) * (r.1 : Int)).fdiv (r.2 : Int)))) H
      rw [cnt_eq u r.1 r.2 b1]
      exact k
def spNumB (K : Fr) : Sp := fun vs H Q _ => ∃ (y : V) (q : Rat), vs = [y] ∧ Opd (CN K) H y q.num q.den ∧ Q (.bl true) H
theorem c_isnum (T : Tx K mg) : Cal P w K mg base 2 "is_number" (gAd "is_number" K) ["value"] (spNumB K) := by
  have C_is_integer := c_isint (P := P) (w := w) (base := base) T
  refine cal_of (d := d_is_number) (N := ["value"]) (a_is_number T.c) rfl sc_is_number (g_is_number T) (fun _ _ _ _ _ _ us hl => match us, hl with | [_], _ => rfl) (fun vs H Q E h => ?_) (fun cdv A outer s H vs Q E hr h => ?_)
  · obtain ⟨y, q, rfl, _⟩ := h
    rfl
  · obtain ⟨y, q, rfl, o, k⟩ := h
    refine ⟨_, (pss_one (ps_ret (pe_or (pe_callB call_isi (by rfl) (n_isinstance T) bo_isinstance (pa_cons (pv 0) (pa_cons (pe_glob (v := .ref (gAd "Number" K)) rfl (g_Number T) rfl) pa_nil))) (pe_one (pe_c C_is_integer (hr.mono (by decide)) (pa_cons (pv 0) pa_nil)))))), ?_⟩
    rcases o with ⟨p, rfl, N⟩ | ⟨rfl, hc⟩
    · obtain ⟨dx, hp⟩ := id N.at_
      exact ⟨_, rfl, _, _, _, _, true, rfl, .own _, .base (ins_ok (f_ins T.c) hp (cl T)), of_decide_eq_true (f_kitO T.c), true, rfl, iteT k⟩
    · exact ⟨_, rfl, _, _, _, _, false, rfl, .own _, .base (.int _), of_decide_eq_true (f_kit_int T.c), false, rfl, iteF ⟨_, rfl, q.num, rfl, k⟩⟩
end
end K54

namespace K54
open PySem PySem.Spec PyProof.Rows L2 Hk NumM NumT SX
theorem ty_tup {K : Fr} {H : Hp} {p : Addr} {xs : List V} (h : H p = some (.tup xs)) : TyX K H (.ref p) (.type "tuple") := .base (.tup h)
/-- a value that is a Number or an int, of this value -/
def OpdQ (K : Fr) (H : Hp) (x : V) (q : Rat) : Prop := Opd (CN K) H x q.num q.den
theorem OpdQ.same {K : Fr} {H H' : Hp} {x : V} {q : Rat} (h : OpdQ K H x q) (s : Same H H') : OpdQ K H' x q := Opd.same h s
def RowAt (K : Fr) (H : Hp) (x : V) (qs : List Rat) : Prop := ∃ p xs, x = .ref p ∧ H p = some (.tup xs) ∧ All2 (OpdQ K H) xs qs
theorem RowAt.same {K : Fr} {H H' : Hp} {x : V} {qs : List Rat} (h : RowAt K H x qs) (s : Same H H') : RowAt K H' x qs := by
  obtain ⟨p, xs, rfl, hp, a⟩ := h
  exact ⟨p, xs, rfl, s _ _ hp, a.mono fun _ _ o => o.same s⟩
abbrev Table := List (List Rat)
def TabAt (K : Fr) (H : Hp) (x : V) (t : Table) : Prop := ∃ p xs, x = .ref p ∧ H p = some (.tup xs) ∧ All2 (RowAt K H) xs t
theorem TabAt.same {K : Fr} {H H' : Hp} {x : V} {t : Table} (h : TabAt K H x t) (s : Same H H') : TabAt K H' x t := by
  obtain ⟨p, xs, rfl, hp, a⟩ := h
  exact ⟨p, xs, rfl, s _ _ hp, a.mono fun _ _ o => o.same s⟩
def StepAt (K : Fr) (H : Hp) (x : V) (t : List Table) : Prop := ∃ p xs, x = .ref p ∧ H p = some (.tup xs) ∧ All2 (TabAt K H) xs t
theorem StepAt.same {K : Fr} {H H' : Hp} {x : V} {t : List Table} (h : StepAt K H x t) (s : Same H H') : StepAt K H' x t := by
  obtain ⟨p, xs, rfl, hp, a⟩ := h
  exact ⟨p, xs, rfl, s _ _ hp, a.mono fun _ _ o => o.same s⟩
section
variable {P : Program} {w : World} {K : Fr} {mg : Str → Option Value} {base : Heap}
def spIsRow (K : Fr) : Sp := fun vs H Q _ => ∃ (x : V) (qs : List Rat), vs = [x] ∧ RowAt K H x qs ∧ qs.length ≤ 1000 ∧ ∀ H', Same H H' → Q (.bl true) H'
theorem c_isrow (T : Tx K mg) : Cal P w K mg base 3 "_is_row" (gAd "_is_row" K) ["value"] (spIsRow K) := by
  have C_is_number := c_isnum (P := P) (w := w) (base := base) T
  refine cal_of (d := d_is_row) (N := ["value", "number"]) (a_is_row T.c) rfl sc_is_row (g_is_row T) (fun _ _ _ _ _ _ us hl => match us, hl with | [_], _ => rfl) (fun vs H Q E h => ?_) (fun cdv A outer s H vs Q E hr h => ?_)
  · obtain ⟨x, qs, rfl, _⟩ := h
    rfl
  · obtain ⟨x, qs, rfl, ⟨p, xs, rfl, hp, al⟩, hz, k⟩ := h
    refine ⟨_, (pss_one (ps_ret (pe_and (pe_callB call_isi (by rfl) (n_isinstance T) bo_isinstance (pa_cons (pv 0) (pa_cons (pe_bltn (v := .ty "tuple") (by rfl) (n_tuple T) (by decide +kernel) rfl) pa_nil))) (pe_one (pe_callB (cr_all rfl) (by rfl) (n_all T) bo_all (pa_cons (pe_lc (own := [("number", 1)]) (g := gName 1) (tt := tYes) rfl sc_is_row.nd (pi_tup (pv 0)) (blkOk_by (N := ["value", "number"]) (sc := defScope s_is_row) (by decide +kernel)) (fun _ _ _ _ _ => pg_name (i := 1) sc_is_row.nd rfl (.inl rfl)) (fun _ _ _ _ _ => pts_nil) (fun _ _ _ _ _ => (pe_c C_is_number (hr.mono (by decide)) (pa_cons (pv 1) pa_nil)))) pa_nil)))))), ?_⟩
    refine ⟨_, rfl, _, _, _, _, true, rfl, .ty _, ty_tup hp, kit_ty (by decide +kernel), true, rfl, iteT ?_⟩
    refine ⟨_, rfl, p, rfl, ⟨_, .inl (.inl hp)⟩, fun D nD => ?_⟩
    refine lc_trueT nD (.inl (.inl hp)) (by have := al.1; omega) (fun j x hx H1 R s1 q => ?_) (fun H1 s1 hD => ?_)
    · obtain ⟨r, _, o⟩ := al.at hx
      exact ⟨_, rfl, x, r, rfl, o.same s1, q H1 (Same.refl _)⟩
    · refine ⟨D, _, rfl, .inl (.inl hD), ?_⟩
      rw [all_rep]
      exact k H1 s1
def spIsTable (K : Fr) : Sp := fun vs H Q _ => ∃ (x : V) (t : Table), vs = [x] ∧ TabAt K H x t ∧ t.length ≤ 1000 ∧ (∀ r ∈ t, r.length ≤ 1000) ∧ ∀ H', Same H H' → Q (.bl true) H'
theorem c_istable (T : Tx K mg) : Cal P w K mg base 4 "_is_table" (gAd "_is_table" K) ["value"] (spIsTable K) := by
  have C_is_row := c_isrow (P := P) (w := w) (base := base) T
  refine cal_of (d := d_is_table) (N := ["value", "row"]) (a_is_table T.c) rfl sc_is_table (g_is_table T) (fun _ _ _ _ _ _ us hl => match us, hl with | [_], _ => rfl) (fun vs H Q E h => ?_) (fun cdv A outer s H vs Q E hr h => ?_)
  · obtain ⟨x, qs, rfl, _⟩ := h
    rfl
  · obtain ⟨x, t, rfl, ⟨p, xs, rfl, hp, al⟩, hz, hzr, k⟩ := h
    refine ⟨_, (pss_one (ps_ret (pe_and (pe_callB call_isi (by rfl) (n_isinstance T) bo_isinstance (pa_cons (pv 0) (pa_cons (pe_bltn (v := .ty "tuple") (by rfl) (n_tuple T) (by decide +kernel) rfl) pa_nil))) (pe_one (pe_callB (cr_all rfl) (by rfl) (n_all T) bo_all (pa_cons (pe_lc (own := [("row", 1)]) (g := gName 1) (tt := tYes) rfl sc_is_table.nd (pi_tup (pv 0)) (blkOk_by (N := ["value", "row"]) (sc := defScope s_is_table) (by decide +kernel)) (fun _ _ _ _ _ => pg_name (i := 1) sc_is_table.nd rfl (.inl rfl)) (fun _ _ _ _ _ => pts_nil) (fun _ _ _ _ _ => (pe_c C_is_row (hr.mono (by decide)) (pa_cons (pv 1) pa_nil)))) pa_nil)))))), ?_⟩
    refine ⟨_, rfl, _, _, _, _, true, rfl, .ty _, ty_tup hp, kit_ty (by decide +kernel), true, rfl, iteT ?_⟩
    refine ⟨_, rfl, p, rfl, ⟨_, .inl (.inl hp)⟩, fun D nD => ?_⟩
    refine lc_trueT nD (.inl (.inl hp)) (by have := al.1; omega) (fun j x hx H1 R s1 q => ?_) (fun H1 s1 hD => ?_)
    · obtain ⟨r, hr', o⟩ := al.at hx
      exact ⟨_, rfl, x, r, rfl, o.same s1, hzr r (List.mem_of_getElem? hr'), q⟩
    · refine ⟨D, _, rfl, .inl (.inl hD), ?_⟩
      rw [all_rep]
      exact k H1 s1
def spIsStep (K : Fr) : Sp := fun vs H Q _ => ∃ (x : V) (t : List Table), vs = [x] ∧ StepAt K H x t ∧ t.length = 4 ∧ (∀ u ∈ t, u.length ≤ 1000 ∧ ∀ r ∈ u, r.length ≤ 1000) ∧ ∀ H', Same H H' → Q (.bl true) H'
theorem c_isstep (T : Tx K mg) : Cal P w K mg base 5 "_is_step" (gAd "_is_step" K) ["value"] (spIsStep K) := by
  have C_is_table := c_istable (P := P) (w := w) (base := base) T
  obtain ⟨kT, iT⟩ := i_TABLES T
  refine cal_of (d := d_is_step) (N := ["value", "table"]) (a_is_step T.c) rfl sc_is_step (g_is_step T) (fun _ _ _ _ _ _ us hl => match us, hl with | [_], _ => rfl) (fun vs H Q E h => ?_) (fun cdv A outer s H vs Q E hr h => ?_)
  · obtain ⟨x, qs, rfl, _⟩ := h
    rfl
  · obtain ⟨x, t, rfl, ⟨p, xs, rfl, hp, al⟩, h4, hzr, k⟩ := h
    refine ⟨_, (pss_one (ps_ret (pe_and (pe_callB call_isi (by rfl) (n_isinstance T) bo_isinstance (pa_cons (pv 0) (pa_cons (pe_bltn (v := .ty "tuple") (by rfl) (n_tuple T) (by decide +kernel) rfl) pa_nil))) (pe_and (pe_cmpR op_eq (pe_callB call_len_seq (by rfl) (n_len T) bo_len (pa_cons (pv 0) pa_nil)) (pe_glob (v := .int 4) rfl iT ⟨_, rfl⟩) (nomark _)) (pe_one (pe_callB (cr_all rfl) (by rfl) (n_all T) bo_all (pa_cons (pe_lc (own := [("table", 1)]) (g := gName 1) (tt := tYes) rfl sc_is_step.nd (pi_tup (pv 0)) (blkOk_by (N := ["value", "table"]) (sc := defScope s_is_step) (by decide +kernel)) (fun _ _ _ _ _ => pg_name (i := 1) sc_is_step.nd rfl (.inl rfl)) (fun _ _ _ _ _ => pts_nil) (fun _ _ _ _ _ => (pe_c C_is_table (hr.mono (by decide)) (pa_cons (pv 1) pa_nil)))) pa_nil))))))), ?_⟩
    refine ⟨_, rfl, _, _, _, _, true, rfl, .ty _, ty_tup hp, kit_ty (by decide +kernel), true, rfl, iteT ?_⟩
    have e4 : ((xs.length : Nat) : Int) = 4 := by have := al.1; omega
    refine ⟨_, rfl, p, _, rfl, .inr (.inl (.inl hp)), rfl, true, ?_, iteT ?_⟩
    · rw [e4]
      rfl
    refine ⟨_, rfl, p, rfl, ⟨_, .inl (.inl hp)⟩, fun D nD => ?_⟩
    refine lc_trueT nD (.inl (.inl hp)) (by have := al.1; omega) (fun j x hx H1 R s1 q => ?_) (fun H1 s1 hD => ?_)
    · obtain ⟨r, hr', o⟩ := al.at hx
      obtain ⟨z1, z2⟩ := hzr r (List.mem_of_getElem? hr')
      exact ⟨_, rfl, x, r, rfl, o.same s1, z1, z2, q⟩
    · refine ⟨D, _, rfl, .inl (.inl hD), ?_⟩
      rw [all_rep]
      exact k H1 s1
end
end K54

namespace K54
open PySem PySem.Spec PyProof.Rows L2 Hk NumM NumT SX
theorem RateAt.same {H H' : Hp} {x : V} {r : Nat × Nat} (h : RateAt H x r) (s : Same H H') : RateAt H' x r := by
  obtain ⟨p, rfl, hp⟩ := h
  exact ⟨p, rfl, s _ _ hp⟩
section
variable {P : Program} {w : World} {K : Fr} {mg : Str → Option Value} {base : Heap}
def spIsRate : Sp := fun vs H Q _ => ∃ (x : V) (r : Nat × Nat), vs = [x] ∧ RateAt H x r ∧ ROk r ∧ ∀ H', Same H H' → Q (.bl true) H'
theorem c_israte (T : Tx K mg) : Cal P w K mg base 2 "_is_rate" (gAd "_is_rate" K) ["value"] spIsRate := by
  have C_is_integer := c_isint (P := P) (w := w) (base := base) T
  obtain ⟨kT, iT⟩ := i_MAX_MACHINE_RATE T
  refine cal_of (d := d_is_rate) (N := ["value", "part"]) (a_is_rate T.c) rfl sc_is_rate (g_is_rate T) (fun _ _ _ _ _ _ us hl => match us, hl with | [_], _ => rfl) (fun vs H Q E h => ?_) (fun cdv A outer s H vs Q E hr h => ?_)
  · obtain ⟨x, qs, rfl, _⟩ := h
    rfl
  · obtain ⟨x, r, rfl, ⟨p, rfl, hp⟩, ok, k⟩ := h
    refine ⟨_, (pss_cons (ps_if (PW.pt (pw_or (pt_not (pt_val (pe_callB call_isi (by rfl) (n_isinstance T) bo_isinstance (pa_cons (pv 0) (pa_cons (pe_bltn (v := .ty "tuple") (by rfl) (n_tuple T) (by decide +kernel) rfl) pa_nil))))) (pw_or (pt_cmpR op_ne (pe_callB call_len_seq (by rfl) (n_len T) bo_len (pa_cons (pv 0) pa_nil)) pe_int (nomark _)) (pw_or1 (pt_not (pt_val (pe_callB (cr_all rfl) (by rfl) (n_all T) bo_all (pa_cons (pe_lc (own := [("part", 1)]) (g := gName 1) (tt := tYes) rfl sc_is_rate.nd (pi_tup (pv 0)) (blkOk_by (N := ["value", "part"]) (sc := defScope s_is_rate) (by decide +kernel)) (fun _ _ _ _ _ => pg_name (i := 1) sc_is_rate.nd rfl (.inl rfl)) (fun _ _ _ _ _ => pts_nil) (fun _ _ _ _ _ => (pe_c C_is_integer hr (pa_cons (pv 1) pa_nil)))) pa_nil))))))))
 (pss_one (ps_ret pe_bl))
 pss_nil)
 (pss_one (ps_ret (pe_and (pe_callB (cr_all rfl) (by rfl) (n_all T) bo_all (pa_cons (pe_lc (own := [("part", 1)]) (g := gName 1) (tt := tYes) rfl sc_is_rate.nd (pi_tup (pv 0)) (blkOk_by (N := ["value", "part"]) (sc := defScope s_is_rate) (by decide +kernel)) (fun _ _ _ _ _ => pg_name (i := 1) sc_is_rate.nd rfl (.inl rfl)) (fun _ _ _ _ _ => pts_nil) (fun _ _ _ _ _ => (pe_chain op_le op_le pe_int (pv 1) (pe_glob (v := .int 12) rfl iT ⟨_, rfl⟩)))) pa_nil)) (pe_one (pe_cmpR op_eq (pe_callBfun cr_gcd (by rfl) (m_gcd T) (pa_cons (pe_ix ix_tup (pv 0) pe_int (fun _ _ => rfl)) (pa_cons (pe_ix ix_tup (pv 0) pe_int (fun _ _ => rfl)) pa_nil))) pe_int (nomark _))))))), ?_⟩
    have two : ∀ {j : Nat} {x : V}, ([V.int (r.1 : Int), .int (r.2 : Int)] : List V)[j]? = some x → ∃ i : Int, x = .int i ∧ 1 ≤ i ∧ i ≤ 12 := fun {j x} hx => by
      have := ok.t1; have := ok.t2; have := ok.b1; have := ok.b2
      match j, hx with
      | 0, hx => exact ⟨_, (Option.some.inj hx).symm, by omega, by omega⟩
      | 1, hx => exact ⟨_, (Option.some.inj hx).symm, by omega, by omega⟩
      | j + 2, hx => simp at hx
    refine ⟨_, rfl, _, _, _, _, true, rfl, .ty _, ty_tup hp, kit_ty (by decide +kernel), true, rfl, iteF ?_⟩
    refine ⟨_, rfl, p, _, rfl, .inr (.inl (.inl hp)), rfl, false, by rfl, iteF ?_⟩
    refine ⟨_, rfl, p, rfl, ⟨_, .inl (.inl hp)⟩, fun D nD => ?_⟩
    refine lc_trueT nD (.inl (.inl hp)) (by show 2 ≤ 100000; decide) (fun j x hx H1 R s1 q => ?_) (fun H1 s1 hD => ?_)
    · obtain ⟨i, rfl, _⟩ := two hx
      exact ⟨_, rfl, i, rfl, q H1 (Same.refl _)⟩
    refine ⟨D, _, rfl, .inl (.inl hD), ?_⟩
    rw [all_rep]
    refine ⟨true, rfl, iteF ?_⟩
    have hp1 := s1 _ _ hp
    refine ⟨_, rfl, p, rfl, ⟨_, .inl (.inl hp1)⟩, fun D2 nD2 => ?_⟩
    refine lc_trueT nD2 (.inl (.inl hp1)) (by show 2 ≤ 100000; decide) (fun j x hx H2 R s2 q => ?_) (fun H2 s2 hD2 => ?_)
    · obtain ⟨i, rfl, i1, i2⟩ := two hx
      refine ⟨_, rfl, _, _, rfl, rfl, _, rfl, ?_⟩
      rw [decide_eq_true i1]
      refine iteT ⟨_, _, rfl, rfl, ?_⟩
      show R (.bl (decide (i ≤ 12))) H2
      rw [decide_eq_true i2]
      exact q H2 (Same.refl _)
    refine ⟨D2, _, rfl, .inl (.inl hD2), ?_⟩
    rw [all_rep]
    have hp2 := s2 _ _ hp1
    refine ⟨true, rfl, iteT ?_⟩
    refine ⟨_, rfl, p, _, _, _, rfl, rfl, .inl (.inl hp2), rfl, _, rfl, p, _, _, _, rfl, rfl, .inl (.inl hp2), rfl, _, _, rfl, rfl, ?_⟩
    have e1 : ((Nat.gcd ((r.1 : Int)).natAbs ((r.2 : Int)).natAbs : Nat) : Int) = 1 := by
      rw [Int.natAbs_natCast, Int.natAbs_natCast, ok.cop]
      rfl
    show Q (.bl (decide (V.int _ = V.int 1))) H2
    rw [e1, decide_eq_true rfl]
    exact k H2 (s1.trans s2)
def spAreRates (K : Fr) : Sp := fun vs H Q _ => ∃ (a : Addr) (xs : List V) (rs : Rts), vs = [.ref a] ∧ H a = some (.tup xs) ∧ RtT H xs rs ∧ (∀ r ∈ rs, ROk r) ∧ 1 ≤ rs.length ∧ rs.length ≤ 6 ∧ ∀ H', Same H H' → Q (.bl true) H'
theorem c_arerates (T : Tx K mg) : Cal P w K mg base 3 "_are_rates" (gAd "_are_rates" K) ["value"] (spAreRates K) := by
  have C_is_rate := c_israte (P := P) (w := w) (base := base) T
  obtain ⟨kT, iT⟩ := i_MAX_ROWS T
  refine cal_of (d := d_are_rates) (N := ["value", "rate"]) (a_are_rates T.c) rfl sc_are_rates (g_are_rates T) (fun _ _ _ _ _ _ us hl => match us, hl with | [_], _ => rfl) (fun vs H Q E h => ?_) (fun cdv A outer s H vs Q E hr h => ?_)
  · obtain ⟨a, xs, rs, rfl, _⟩ := h
    rfl
  · obtain ⟨a, xs, rs, rfl, hp, al, ok, n1, n6, k⟩ := h
    refine ⟨_, (pss_one (ps_ret (pe_and (pe_callB call_isi (by rfl) (n_isinstance T) bo_isinstance (pa_cons (pv 0) (pa_cons (pe_bltn (v := .ty "tuple") (by rfl) (n_tuple T) (by decide +kernel) rfl) pa_nil))) (pe_and (pe_chain op_le op_le pe_int (pe_callB call_len_seq (by rfl) (n_len T) bo_len (pa_cons (pv 0) pa_nil)) (pe_glob (v := .int 6) rfl iT ⟨_, rfl⟩)) (pe_one (pe_callB (cr_all rfl) (by rfl) (n_all T) bo_all (pa_cons (pe_lc (own := [("rate", 1)]) (g := gName 1) (tt := tYes) rfl sc_are_rates.nd (pi_tup (pv 0)) (blkOk_by (N := ["value", "rate"]) (sc := defScope s_are_rates) (by decide +kernel)) (fun _ _ _ _ _ => pg_name (i := 1) sc_are_rates.nd rfl (.inl rfl)) (fun _ _ _ _ _ => pts_nil) (fun _ _ _ _ _ => (pe_c C_is_rate (hr.mono (by decide)) (pa_cons (pv 1) pa_nil)))) pa_nil))))))), ?_⟩
    have hl := al.1
    refine ⟨_, rfl, _, _, _, _, true, rfl, .ty _, ty_tup hp, kit_ty (by decide +kernel), true, rfl, iteT ?_⟩
    refine ⟨_, rfl, a, _, rfl, .inr (.inl (.inl hp)), _, _, rfl, rfl, _, rfl, ?_⟩
    rw [decide_eq_true (show (1 : Int) ≤ ((xs.length : Nat) : Int) by omega)]
    refine iteT ⟨_, _, rfl, rfl, true, congrArg V.bl (decide_eq_true (show ((xs.length : Nat) : Int) ≤ 6 by omega)), iteT ?_⟩
    refine ⟨_, rfl, a, rfl, ⟨_, .inl (.inl hp)⟩, fun D nD => ?_⟩
    refine lc_trueT nD (.inl (.inl hp)) (by omega) (fun j x hx H1 R s1 q => ?_) (fun H1 s1 hD => ?_)
    · obtain ⟨r, hr', o⟩ := al.at hx
      exact ⟨_, rfl, x, r, rfl, o.same s1, ok r (List.mem_of_getElem? hr'), q⟩
    · refine ⟨D, _, rfl, .inl (.inl hD), ?_⟩
      rw [all_rep]
      exact k H1 s1
/-- the shortest turn -/
def shortest (rs : Rts) : Nat := lcmL (rs.map (·.2))
def spTurn (K : Fr) : Sp := fun vs H Q _ => ∃ (m P : Nat) (a : Addr) (xs : List V) (rs : Rts), vs = [.int (m : Int), .int (P : Int), .ref a] ∧ SqT K H a xs ∧ RtT H xs rs ∧ (∀ r ∈ rs, ROk r) ∧ 1 ≤ m ∧ m ≤ 1000 ∧ 1 ≤ P ∧ P ≤ 27720 ∧ P * shortest rs ∣ m ∧ Q (.bl true) H
theorem c_turn (T : Tx K mg) : Cal P w K mg base 1 "_is_turn" (gAd "_is_turn" K) ["many", "per_unit", "rates"] (spTurn K) := by
  refine cal_of (d := d_is_turn) (N := ["many", "per_unit", "rates", "shortest", "_", "bottom"]) (a_is_turn T.c) rfl sc_is_turn (g_is_turn T) (fun _ _ _ _ _ _ us hl => match us, hl with | [_, _, _], _ => rfl) (fun vs H Q E h => ?_) (fun cdv A outer s H vs Q E hr h => ?_)
  · obtain ⟨m, P, a, xs, rs, rfl, _⟩ := h
    rfl
  · obtain ⟨m, P, a, xs, rs, rfl, hx, ht, ok, m1, m2, p1, p2, dv, k⟩ := h
    refine ⟨_, (pss_cons (ps_set (i := 3) sc_is_turn.nd rfl (.inl rfl) pe_int)
 (pss_cons (ps_for PassesOwn.never rfl (pi_tup (pv 2)) (pg_tup (by rfl) (pgs_cons (pg_name (i := 4) sc_is_turn.nd rfl (.inl rfl)) (pgs_cons (pg_name (i := 5) sc_is_turn.nd rfl (.inl rfl)) pgs_nil)))
 (pss_one (ps_set (i := 3) sc_is_turn.nd rfl (.inl rfl) (pe_callBfun cr_lcm (by rfl) (m_lcm T) (pa_cons (pv 3) (pa_cons (pv 5) pa_nil))))))
 (pss_one (ps_ret (pe_and (pe_cmpR op_gt (pv 0) pe_int (nomark _)) (pe_one (pe_cmpR op_eq (pe_op op_modN (pv 0) (pe_op op_mulW (pv 1) (pv 3))) pe_int (nomark _)))))))), ?_⟩
    refine ⟨_, rfl, a, rfl, ⟨_, hx⟩, ?_⟩
    have ok1 : ∀ x ∈ rs.map (·.2), 1 ≤ x ∧ x ≤ 12 := fun x hx => by
      obtain ⟨r, hr, rfl⟩ := List.mem_map.mp hx
      exact ⟨(ok r hr).b1, (ok r hr).b2⟩
    refine for_tup (a := a) (xs := xs) (fun i σ H' => H' = H ∧ ∃ x2 x3 : Option V, σ = [some (.int (m : Int)), some (.int (P : Int)), some (.ref a), some (.int ((lcmL ((rs.map (·.2)).take i) : Nat) : Int)), x2, x3]) ⟨rfl, none, none, rfl⟩ (fun i σ H' _ h => by rw [h.1]; exact hx) ?_ ?_
    · rintro i x σ H' hi ⟨rfl, x2, x3, rfl⟩
      have hlt := (List.getElem?_eq_some_iff.mp hi).1
      have hri : rs[i]? = some (rs[i]'(by rw [← ht.1]; exact hlt)) := List.getElem?_eq_getElem _
      obtain ⟨p, rfl, hp⟩ := ht.2 i x _ hi hri
      have o := ok _ (List.mem_of_getElem? hri)
      have o2 := o.b2
      have tk : ∀ x ∈ (rs.map (·.2)).take i, 1 ≤ x ∧ x ≤ 12 := fun x hx => ok1 x (List.mem_of_mem_take hx)
      have lb := lcmL_le tk
      refine ⟨p, _, rfl, .inl (.inl hp), rfl, _, _, rfl, _, _, rfl, rfl, ?_⟩
      refine ⟨_, rfl, _, rfl, _, _, rfl, by omega, by omega, rfl, some (.int ((rs[i]'(by rw [← ht.1]; exact hlt)).1 : Int)), some (.int ((rs[i]'(by rw [← ht.1]; exact hlt)).2 : Int)), ?_⟩
      rw [lcmL_take (x := (rs[i]'(by rw [← ht.1]; exact hlt)).2) (by rw [List.getElem?_map, hri]; rfl)]
      rfl
    · rintro σ H' ⟨rfl, x2, x3, rfl⟩
      rw [ht.1, List.take_of_length_le (by rw [List.length_map]; exact Nat.le_refl _)]
      have l1 := lcmL_pos ok1
      have l2 := lcmL_le ok1
      change P * lcmL (rs.map (·.2)) ∣ m at dv
      generalize lcmL (rs.map (·.2)) = L at l1 l2 dv ⊢
      refine ⟨_, rfl, _, _, rfl, rfl, true, congrArg V.bl (decide_eq_true (show (0 : Int) < (m : Int) by omega)), iteT ?_⟩
      refine ⟨_, rfl, _, rfl, _, rfl, _, _, rfl, rfl, ?_, _, _, rfl, rfl, ?_, rfl, ?_⟩
      · unfold CMulW
        have h1 := Nat.log2_le_self (P : Int).natAbs
        have h2 := Nat.log2_le_self (L : Int).natAbs
        omega
      · have : 0 < P * L := Nat.mul_pos p1 l1
        rw [← Int.natCast_mul]
        omega
      · have e : ((m : Int)).fmod ((P : Int) * (L : Int)) = 0 := by
          rw [← Int.natCast_mul, Int.fmod_eq_emod_of_nonneg _ (by omega), ← Int.natCast_emod, Nat.mod_eq_zero_of_dvd dv]
          rfl
        show Q (.bl (decide (V.int ((m : Int).fmod ((P : Int) * (L : Int))) = V.int 0))) H'
        rw [e, decide_eq_true rfl]
        exact k
end
end K54

/-! for i, x in enumerate(t), t a tuple. -/
namespace Hen
open PySem PySem.Spec PyProof.Rows L2
open AutoSeq1 (wpAny_loadPart')
theorem meets_newT (l : Addr) (items : Array Value) (n : Nat) (dct : Option Addr) (sl : Array (Option Value)) :
    Meets (Builtin.«enumerate.__new__» ⟨[.type "enumerate", .ref l], []⟩) (fun _ R s => s.heap.get? l = some { cls := .type "tuple", dict := dct, data := .seq items n, slots := sl } ∧
      R (.ok (.ret (.ref (s.heap.push { cls := .type "tuple_iterator", data := .fields #[.ref l, .int 0 0] }).objs.size)))
        { s with heap := (s.heap.push { cls := .type "tuple_iterator", data := .fields #[.ref l, .int 0 0] }).push { cls := .type "enumerate", data := .fields #[.none, .bool false, .ref s.heap.objs.size, rawInt 0, .none, .none] } }) :=
  .of_wp fun prog w A R s h => by
    obtain ⟨hp, g, d, tk, os⟩ := s
    obtain ⟨hl, h⟩ := h
    have hsub := sub_enumerate
    have hL : Heap.IsTuple (Shared.heap ⟨hp, g, d, tk, os⟩) l items := ⟨_, hl, rfl, n, rfl⟩
    wp_walk using wpAny_loadPart' hl
    refine wpAny_stack_any fun st => wpAny_pure ?_
    split
    · rename_i c _ _ _ _ _
      cases (c == Value.type "enumerate")
      · wp_walk using wpAny_loadPart' hl, wpAny_pyIter_tuple hL
        exact ⟨_, rfl, h⟩
      · wp_walk using wpAny_loadPart' hl, wpAny_pyIter_tuple hL
        exact ⟨_, rfl, h⟩
    · wp_walk using wpAny_loadPart' hl, wpAny_pyIter_tuple hL
      exact ⟨_, rfl, h⟩
theorem call_enumT {prog : Program} {w : World} {A : Around} {E : Value → Shared → Prop} {s : Shared} {l : Addr} {items : Array Value} {Q : Value → Shared → Prop} (hL : s.heap.IsTuple l items)
    (h : ∀ h', IsEnum h' (s.heap.objs.size + 1) s.heap.objs.size 0 .none → h'.IsTupleIter s.heap.objs.size l 0 → (∀ b o, s.heap.get? b = some o → h'.get? b = some o) → Q (.ref (s.heap.objs.size + 1)) { s with heap := h' }) :
    wpAny (model prog w) A (call (.type "enumerate") [.ref l]) Q E s := by
  obtain ⟨⟨c, dct, dt, sl⟩, hl, hc, n, hd⟩ := hL
  replace hc : c = .type "tuple" := hc
  replace hd : dt = .seq items n := hd
  subst hc hd
  refine callType_new PySem.F.called_enumerate (by decide) (PySem.F.typeCall_enumerate_1 _) (PySem.F.newCall_enumerate_1 _) (fun obj => PySem.F.args_object_init_2 obj _) PySem.F.entry_enumerate_new (meets_newT l items n dct sl) ⟨hl, ?_⟩
  have hz : (s.heap.push { cls := .type "tuple_iterator", data := .fields #[.ref l, .int 0 0] }).objs.size = s.heap.objs.size + 1 := Heap.size_push ..
  show _ ∧ _
  rw [hz]
  have he := Heap.get?_push_size (s.heap.push { cls := .type "tuple_iterator", data := .fields #[.ref l, .int 0 0] }) (o := { cls := .type "enumerate", data := .fields #[.none, .bool false, .ref s.heap.objs.size, rawInt 0, .none, .none] }) rfl
  rw [hz] at he
  exact ⟨⟨_, he, rfl⟩, h _ he ⟨_, Heap.get?_push_of_some _ (Heap.get?_push_size _ rfl), rfl, rfl⟩ fun b o x => Heap.get?_push_of_some _ (Heap.get?_push_of_some _ x)⟩
/-- the items of the tuple at a, each in a new pair with its index -/
def IteT (K : PySem.W.Frag) (a : Addr) : It :=
  ⟨fun i H => ∃ (xs : List V) (x : V), SqT K H a xs ∧ xs[i]? = some x, fun i H v H' => ∃ T x, v = .ref T ∧ H T = none ∧ H' = upd H T (.tup [.int (i : Nat), x]) ∧ ∀ xs, SqT K H a xs → xs[i]? = some x, fun i H => ∃ xs : List V, SqT K H a xs ∧ xs.length = i⟩
theorem turn_enumT {P : Program} {w : World} {K : PySem.W.Frag} {elts : List Expr} {kk : Nat} {tpos : Pos} (a e it : Addr) :
    Turn P w K (.Tuple elts kk tpos) (IteT K a) [e, it] e (fun i h => (∃ old, IsEnum h e it ((i : Nat) : Int) old) ∧ h.IsTupleIter it a i ∧ e ≠ it) where
  mem := by simp
  obj := fun i h st b hb => by
    obtain ⟨⟨old, he⟩, ⟨o, ho, hc, hd⟩, _⟩ := st
    have e' : b = e ∨ b = it := by simpa using hb
    rcases e' with z | z
    · rw [z]; exact ⟨_, he, fun v q => nomatch q⟩
    · rw [z]; exact ⟨o, ho, fun v q => by rw [hd] at q; cases q⟩
  keep := fun i h h' st k => let ⟨⟨old, he⟩, hi, hne⟩ := st; ⟨⟨old, k e (by simp) _ he⟩, hi.at fun o q => k it (by simp) o q, hne⟩
  item := by
    intro X hP hw hK hc i pins s σ H E I hf st hg
    subst hP hw hK
    obtain ⟨⟨old, he⟩, hit, hne⟩ := st
    obtain ⟨xs, x, hq, hx⟩ := hg
    obtain ⟨its, rv, p, hz⟩ := I.tuple hq
    obtain ⟨u, hu, ru⟩ := rv.get hx
    have hel : e < s.heap.objs.size := Heap.lt_size he
    have hil : it < s.heap.objs.size := by obtain ⟨_, q, _⟩ := hit; exact Heap.lt_size q
    have hae : e ≠ a := by
      rintro rfl
      obtain ⟨o, ho, hc, _⟩ := p
      rw [he] at ho
      rw [← Option.some.inj ho] at hc
      have z : Value.type "enumerate" = Value.type "tuple" := hc
      injection z with z
      exact absurd z (by decide)
    have hai : a ≠ it := by
      rintro rfl
      obtain ⟨o, ho, hc, _⟩ := p
      obtain ⟨o2, ho2, hc2, _⟩ := hit
      rw [ho] at ho2
      rw [Option.some.inj ho2, hc2] at hc
      injection hc with z
      exact absurd z (by decide)
    have hlt : i < its.toArray.size := by
      have := (List.getElem?_eq_some_iff.mp hu).1
      simpa using this
    refine wpAny_pyNext_enum_itemD (Draws.tuple (A := X.A.in1) (I.ok.hd hc) it a hai its.toArray) he ⟨hit, p⟩ hlt hne (by simp [hne, hae]) fun v h' tk hv ho hst hT hsz hk => ?_
    have ev : v = u := by
      have : its[i]? = some v := by simpa using hv
      rw [hu] at this
      exact (Option.some.inj this).symm
    subst ev
    refine ⟨_, rfl, wpAny_letOwnedTupleGo_enum (s := { s with heap := h', toks := tk + 1 }) ho fun h'' he' sb => ?_⟩
    have hT2 : h''.get? s.heap.objs.size = some { cls := .type "tuple", data := .seq #[.int i tk, v] } := (sb.2 _ (Nat.ne_of_gt hel)).trans hT
    have new : ObjOk X.prog X.w (upd H s.heap.objs.size (.tup [.int (i : Nat), x])) h'' s.heap.objs.size (.tup [.int (i : Nat), x]) :=
      ⟨by show 2 ≤ sizeLine; decide, [.int i tk, v], .cons ⟨_, rfl⟩ (.cons ru .nil), ⟨_, hT2, rfl, _, rfl⟩⟩
    have I1 : Inv X pins σ (upd H s.heap.objs.size (.tup [.int (i : Nat), x])) { s with heap := h'', toks := tk + 1 } :=
      I.turnedNew (ch := [e, it]) (fun b ob hb q => (sb.2 b (fun z => hb (by simp [z]))).trans (hk b ob (fun z => hb (by simp [z])) (fun z => hb (by simp [z])) q)) hf (Nat.le_refl _) new
    refine ⟨.ref s.heap.objs.size, _, I1, rfl, ⟨_, x, rfl, I.hok.fresh (Nat.le_refl _), rfl, fun ys hy => by rw [I.tuple_inj hy hq]; exact hx⟩, ⟨⟨v, ?_⟩, hst.1.at fun o q => (sb.2 it (Ne.symm hne)).trans q, hne⟩, fun b hb => ?_⟩
    · have e1 : ((i + 1 : Nat) : Int) = (i : Int) + 1 := by omega
      rw [e1]; exact he'
    · have hb' : b < s.heap.objs.size := by
        have e' : b = e ∨ b = it := by simpa using hb
        rcases e' with z | z
        · rw [z]; exact hel
        · rw [z]; exact hil
      rw [upd_ne (Nat.ne_of_lt hb')]
      exact (hf b hb).1
  done := by
    intro X hP hw hK hc i pins s σ H E I hf st hg
    subst hP hw hK
    obtain ⟨⟨old, he⟩, hit, hne⟩ := st
    obtain ⟨xs, hq, hx⟩ := hg
    obtain ⟨its, rv, p, hz⟩ := I.tuple hq
    obtain ⟨f0, f1, f2, f3, f4, f5⟩ := hf it (by simp)
    have hl := rv.length
    have hai : a ≠ it := by
      rintro rfl
      obtain ⟨o, ho, hc, _⟩ := p
      obtain ⟨o2, ho2, hc2, _⟩ := hit
      rw [ho] at ho2
      rw [Option.some.inj ho2, hc2] at hc
      injection hc with z
      exact absurd z (by decide)
    have hin : i = its.toArray.size := by
      rw [List.size_toArray, ← hl]
      exact hx.symm
    subst hin
    exact wpAny_pyNext_enum_endD (Draws.tuple (A := X.A.in1) (I.ok.hd hc) it a hai its.toArray) he ⟨hit, p⟩ fun h' eb => ⟨rfl, I.turned (t' := s.toks) (fun b o hb q => eb b o hb q) f0 f1 f3 f4 f5⟩
  self := fun A i s Q E st h => let ⟨⟨_, he⟩, _⟩ := st; wpAny_pyIter_enum he h
end Hen
namespace Hk
open PySem PySem.Spec PyProof.Rows L2 Hen
def iEnumT (K : Fr) (ta : TA) : TI := fun σ H R => ta σ H fun vs H1 => ∃ a xs, vs = [.ref a] ∧ SqT K H1 a xs ∧ R (IteT K a) H1
theorem pi_enumT {X : Cx} {e : Expr} {ta : TA} {p pos tpos : Pos} {elts : List Expr} {kk : Nat} (hg : Gl X "enumerate") (hm : X.mg "enumerate" = none) (ha : PA X [e] ta) (hs : starEach [e] X.env = [(false, eval e X.env)] := by rfl) :
    PI X (.Tuple elts kk tpos) (.Call (.Name "enumerate" p) [e] [] pos) (iEnumT X.K ta) := by
  refine ⟨fun pins s σ H R I h => ?_⟩
  refine Call_ (ld_blt I hg hm boot_enumerate (PyProof.Rows.callWith_type1 (thn (ha.run pos pins s σ H _ I h) fun us s1 ⟨vs, H1, I1, r1, q1⟩ => ?_) hs rfl))
  obtain ⟨a, xs, ex, hq, q⟩ := q1
  subst ex
  rw [Vals.ref1 r1]
  obtain ⟨its, rv, p', hz⟩ := I1.tuple hq
  refine call_enumT (show s1.heap.IsTuple a its.toArray from p') fun h' he hit hk => wpAny_pyIter_enum he ?_
  have I2 : Inv X pins σ H1 { s1 with heap := h' } := I1.kept (t' := s1.toks) hk
  refine ⟨s1.heap.objs.size + 1, [s1.heap.objs.size + 1, s1.heap.objs.size], _, _, H1, rfl, I2, turn_enumT a (s1.heap.objs.size + 1) s1.heap.objs.size, ⟨⟨.none, he⟩, hit, Nat.succ_ne_self _⟩, fun b hb => ?_, q⟩
  have e' : b = s1.heap.objs.size + 1 ∨ b = s1.heap.objs.size := by simpa using hb
  have hle : s1.heap.objs.size ≤ b := by
    rcases e' with z | z
    · rw [z]; exact Nat.le_add_right _ _
    · rw [z]; exact Nat.le_refl _
  exact I1.fpOk hle (I1.hok.fresh hle)
end Hk

namespace K54
open PySem PySem.Spec PyProof.Rows L2 Hk NumM NumT SX
theorem walk_enumT {K : PySem.W.Frag} {a : Addr} {xs : List V} : Walk (Hen.IteT K a) xs.length (fun H => SqT K H a xs) (YPair (fun i => some (.int (i : Nat))) (fun i => xs[i]?)) := by
  refine ⟨fun i _ hi q => ⟨xs, xs[i], q, by simp [hi]⟩, fun _ q => ⟨xs, q, rfl⟩, fun i H v H' _ q y => ?_⟩
  obtain ⟨T, x, h1, h2, h3, h4⟩ := y
  exact ⟨T, .int (i : Nat), x, h1, h2, h3, rfl, h4 xs q⟩
/-- whether a sample stands at a tick -/
def stand (r : Nat × Nat) (per tick : Nat) : Bool := decide (tick * r.1 % (per * r.2) = 0)
/-- the places of the rates that stand, of the first n -/
def dueN (rs : Rts) (per tick : Nat) : Nat → List Nat
  | 0 => []
  | n + 1 => dueN rs per tick n ++ (match rs[n]? with | some r => if stand r per tick = true then [n] else [] | none => [])
abbrev dueL (rs : Rts) (per tick : Nat) : List Nat := dueN rs per tick rs.length
theorem dueN_t {rs : Rts} {per tick n : Nat} {r : Nat × Nat} (hr : rs[n]? = some r) (hs : stand r per tick = true) : dueN rs per tick (n + 1) = dueN rs per tick n ++ [n] := by
  rw [dueN, hr]
  dsimp only
  rw [if_pos hs]
theorem dueN_f {rs : Rts} {per tick n : Nat} {r : Nat × Nat} (hr : rs[n]? = some r) (hs : stand r per tick = false) : dueN rs per tick (n + 1) = dueN rs per tick n := by
  rw [dueN, hr]
  dsimp only
  rw [if_neg (by rw [hs]; decide), List.append_nil]
theorem dueN_le (rs : Rts) (per tick : Nat) : ∀ n, (dueN rs per tick n).length ≤ n
  | 0 => Nat.le_refl 0
  | n + 1 => by
    have := dueN_le rs per tick n
    unfold dueN
    rw [List.length_append]
    split
    · split <;> simp <;> omega
    · simp; omega
theorem dueN_lt (rs : Rts) (per tick : Nat) : ∀ n, ∀ i ∈ dueN rs per tick n, i < n ∧ ∃ r, rs[i]? = some r ∧ stand r per tick = true
  | 0 => fun i h => nomatch h
  | n + 1 => fun i h => by
    unfold dueN at h
    rcases List.mem_append.mp h with h | h
    · obtain ⟨h1, h2⟩ := dueN_lt rs per tick n i h
      exact ⟨by omega, h2⟩
    · split at h
      · rename_i r hr
        split at h
        · rename_i hs
          rw [List.mem_singleton.mp h]
          exact ⟨by omega, r, hr, hs⟩
        · cases h
      · cases h
section
variable {P : Program} {w : World} {K : Fr} {mg : Str → Option Value} {base : Heap}
def spDue (K : Fr) : Sp := fun vs H Q _ => ∃ (a : Addr) (xs : List V) (rs : Rts) (per tick : Nat), vs = [.ref a, .int (per : Int), .int (tick : Int)] ∧ SqT K H a xs ∧ RtT H xs rs ∧ (∀ r ∈ rs, ROk r) ∧ rs.length ≤ 12 ∧ 1 ≤ per ∧ per ≤ 27720 ∧ tick ≤ 10000 ∧ ∀ (D : Addr) (H' : Hp), Same H H' → H D = none → H' D = some (.lst ((dueL rs per tick).map fun i => V.int (i : Nat))) → Q (.ref D) H'
theorem c_due (T : Tx K mg) : Cal P w K mg base 1 "due_at" (gAd "due_at" K) ["rates", "per_unit", "tick"] (spDue K) := by
  refine cal_of (d := d_due_at) (N := ["rates", "per_unit", "tick", "at", "top", "bottom"]) (a_due_at T.c) rfl sc_due_at (g_due_at T) (fun _ _ _ _ _ _ us hl => match us, hl with | [_, _, _], _ => rfl) (fun vs H Q E h => ?_) (fun cdv A outer s H vs Q E hr h => ?_)
  · obtain ⟨a, xs, rs, per, tick, rfl, _⟩ := h
    rfl
  · obtain ⟨a, xs, rs, per, tick, rfl, hx, al, ok, n12, p1, p2, t2, k⟩ := h
    refine ⟨_, (pss_one (ps_ret (pe_lc (own := [("at", 3), ("top", 4), ("bottom", 5)]) (g := gTup K 2 (gCons (gName 3) (gCons (gTup K 2 (gCons (gName 4) (gCons (gName 5) gNil))) gNil))) rfl sc_due_at.nd (Hk.pi_enumT rfl (n_enumerate T) (pa_cons (pv 0) pa_nil)) (blkOk_by (N := ["rates", "per_unit", "tick", "at", "top", "bottom"]) (sc := defScope s_due_at) (by decide +kernel)) (fun _ _ _ _ _ => pg_tup (by rfl) (pgs_cons (pg_name (i := 3) sc_due_at.nd rfl (.inl rfl)) (pgs_cons (pg_tup (by rfl) (pgs_cons (pg_name (i := 4) sc_due_at.nd rfl (.inl rfl)) (pgs_cons (pg_name (i := 5) sc_due_at.nd rfl (.inl rfl)) pgs_nil))) pgs_nil))) (fun _ _ _ _ _ => (pts_one (pt_cmpR op_eq (pe_op op_modN (pe_op op_mulW (pv 2) (pv 4)) (pe_op op_mulW (pv 1) (pv 5))) pe_int (nomark _)))) (fun _ _ _ _ _ => (pv 3))))), ?_⟩
    refine ⟨_, rfl, a, _, rfl, hx, fun D nD => ?_⟩
    refine lc_it walk_enumT (fun i H' => Same H H' ∧ H' D = some (.lst ((dueN rs per tick i).map fun i => V.int (i : Nat)))) ⟨same_upd nD, upd_same⟩ (fun i H' _ h => sqT_same h.1 hx) ?_ ?_
    · rintro i x H1 H2 hi ⟨s1, hD⟩ y
      obtain ⟨TT, v1, y1, rfl, nT, rfl, e1, e2⟩ := y
      cases e1
      obtain ⟨r, hr', p, rfl, hp⟩ := al.at e2
      have o := ok r (List.mem_of_getElem? hr')
      have o1 := o.b1
      have o2 := o.t2
      have o3 := o.b2
      have sT := same_upd nT (o := HO.tup [V.int (i : Nat), .ref p])
      have hpT := sT _ _ (s1 _ _ hp)
      have hDT := sT _ _ hD
      refine ⟨TT, _, rfl, .inl (.inl upd_same), rfl, _, _, rfl, _, _, rfl, ⟨p, _, rfl, .inl (.inl hpT), rfl, _, _, rfl, _, _, rfl, rfl, ?_⟩⟩
      refine ⟨rfl, rfl, ?_⟩
      have c1 : CMulW (tick : Int) (r.1 : Int) := by
        unfold CMulW
        have h1 := Nat.log2_le_self (r.1 : Int).natAbs
        have h2 := Nat.log2_le_self (tick : Int).natAbs
        omega
      have c2 : CMulW (per : Int) (r.2 : Int) := by
        unfold CMulW
        have h1 := Nat.log2_le_self (r.2 : Int).natAbs
        have h2 := Nat.log2_le_self (per : Int).natAbs
        omega
      have pos : 0 < per * r.2 := Nat.mul_pos p1 o1
      refine ⟨_, rfl, _, rfl, _, _, rfl, rfl, c1, _, rfl, _, rfl, _, _, rfl, rfl, c2, _, _, rfl, rfl, ?_, rfl, _, rfl, ?_⟩
      · rw [← Int.natCast_mul]
        omega
      have ev : (decide ((fun i j => V.int (i.fmod j)) ((tick : Int) * (r.1 : Int)) ((per : Int) * (r.2 : Int)) = V.int 0)) = stand r per tick := by
        show decide (V.int (((tick : Int) * (r.1 : Int)).fmod ((per : Int) * (r.2 : Int))) = V.int 0) = _
        rw [← Int.natCast_mul, ← Int.natCast_mul, Int.fmod_eq_emod_of_nonneg _ (by omega), ← Int.natCast_emod]
        unfold stand
        by_cases h : tick * r.1 % (per * r.2) = 0
        · rw [decide_eq_true h]
          exact decide_eq_true (by rw [h]; rfl)
        · rw [decide_eq_false h, decide_eq_false (fun z => h (by have := V.int.inj z; omega))]
      rw [ev]
      cases hs : stand r per tick with
      | true =>
        refine iteT ⟨_, rfl, _, hDT, ?_, same_upd' (s1.trans sT) nD, ?_⟩
        · rw [List.length_map]
          have := dueN_le rs per tick i
          have := al.1
          exact Nat.lt_of_lt_of_le (show _ < 13 by omega) (by decide)
        · rw [upd_same]
          rw [dueN_t hr' hs, List.map_append]
          rfl
      | false =>
        refine iteF ⟨s1.trans sT, ?_⟩
        rw [dueN_f hr' hs]
        exact hDT
    · rintro H1 ⟨s1, hD⟩
      rw [al.1] at hD
      exact k D H1 s1 nD hD
end
end K54

namespace K54
open PySem PySem.Spec PyProof.Rows L2 Hk NumM NumT SX
theorem cat_tup {K : Fr} {H : Hp} {Q : VK} {a b : Addr} {xs ys : List V} (ha : H a = some (.tup xs)) (hb : H b = some (.tup ys)) (hz : xs.length + ys.length ≤ 10000) (q : ∀ p H', Same H H' → H' p = some (.tup (xs ++ ys)) → Q (.ref p) H') : rCatA K (.ref a) (.ref b) H Q := by
  refine ⟨a, b, xs, ys, rfl, rfl, .inl (.inl ha), .inl (.inl hb), Nat.le_trans hz (by decide), fun h => ?_, fun h1 h2 => ?_, fun h1 h2 p np => q p _ (same_upd np) upd_same⟩
  · exact q b H (Same.refl H) (by rw [h, List.nil_append]; exact hb)
  · exact q a H (Same.refl H) (by rw [h2, List.append_nil]; exact ha)
section
variable {P : Program} {w : World} {K : Fr} {mg : Str → Option Value} {base : Heap}
def spFits (K : Fr) : Sp := fun vs H Q _ => ∃ (x : V) (lead take show_ give : Table) (size reads written : Nat), vs = [x, .int (size : Int), .int (reads : Int), .int (written : Int)] ∧ StepAt K H x [lead, take, show_, give] ∧
  take.length = lead.length ∧ show_.length = written ∧ give.length = written ∧ lead.length ≤ 1000 ∧ written ≤ 1000 ∧ (∀ r ∈ lead ++ show_, r.length = size) ∧ (∀ r ∈ take ++ give, r.length = reads) ∧ ∀ H', Same H H' → Q (.bl true) H'
abbrev N_fits : List Str := ["step", "size", "reads", "written", "lead", "take", "show", "give", "row"]
theorem c_fits (T : Tx K mg) : Cal P w K mg base 1 "_fits" (gAd "_fits" K) ["step", "size", "reads", "written"] (spFits K) := by
  refine cal_of (d := d_fits) (N := N_fits) (a_fits T.c) rfl sc_fits (g_fits T) (fun _ _ _ _ _ _ us hl => match us, hl with | [_, _, _, _], _ => rfl) (fun vs H Q E h => ?_) (fun cdv A outer s H vs Q E hr h => ?_)
  · obtain ⟨x, l1, l2, l3, l4, n1, n2, n3, rfl, _⟩ := h
    rfl
  · obtain ⟨x, lead, take, show_, give, size, reads, written, rfl, ⟨p, xs, rfl, hp, al⟩, e1, e2, e3, z1, z2, rs1, rs2, k⟩ := h
    obtain ⟨v1, v2, v3, v4, rfl⟩ : ∃ v1 v2 v3 v4, xs = [v1, v2, v3, v4] := by
      have := al.1
      match xs, this with
      | [v1, v2, v3, v4], _ => exact ⟨_, _, _, _, rfl⟩
    obtain ⟨p1, x1, rfl, h1, a1⟩ := al.2 0 v1 lead rfl rfl
    obtain ⟨p2, x2, rfl, h2, a2⟩ := al.2 1 v2 take rfl rfl
    obtain ⟨p3, x3, rfl, h3, a3⟩ := al.2 2 v3 show_ rfl rfl
    obtain ⟨p4, x4, rfl, h4, a4⟩ := al.2 3 v4 give rfl rfl
    have l1 := a1.1; have l2 := a2.1; have l3 := a3.1; have l4 := a4.1
    refine ⟨_, (pss_cons (ps_asg (pv 0) (pg_tup (by rfl) (pgs_cons (pg_name (i := 4) sc_fits.nd rfl (.inl rfl)) (pgs_cons (pg_name (i := 5) sc_fits.nd rfl (.inl rfl)) (pgs_cons (pg_name (i := 6) sc_fits.nd rfl (.inl rfl)) (pgs_cons (pg_name (i := 7) sc_fits.nd rfl (.inl rfl)) pgs_nil))))))
 (pss_cons (ps_if (PW.pt (pw_or (pt_cmpR op_ne (pe_callB call_len_seq (by rfl) (n_len T) bo_len (pa_cons (pv 5) pa_nil)) (pe_callB call_len_seq (by rfl) (n_len T) bo_len (pa_cons (pv 4) pa_nil)) (nomark _)) (pw_or (pt_cmpR op_ne (pe_callB call_len_seq (by rfl) (n_len T) bo_len (pa_cons (pv 6) pa_nil)) (pv 3) (nomark _)) (pw_or1 (pt_cmpR op_ne (pe_callB call_len_seq (by rfl) (n_len T) bo_len (pa_cons (pv 7) pa_nil)) (pv 3) (nomark _))))))
 (pss_one (ps_ret pe_bl))
 pss_nil)
 (pss_one (ps_ret (pe_and (pe_callB (cr_all rfl) (by rfl) (n_all T) bo_all (pa_cons (pe_lc (own := [("row", 8)]) (g := gName 8) (tt := tYes) rfl sc_fits.nd (pi_tup (pe_op op_catA (pv 4) (pv 6))) (blkOk_by (N := N_fits) (sc := defScope s_fits) (by decide +kernel)) (fun _ _ _ _ _ => pg_name (i := 8) sc_fits.nd rfl (.inl rfl)) (fun _ _ _ _ _ => pts_nil) (fun _ _ _ _ _ => (pe_cmpR op_eq (pe_callB (call_len_seq : CallR _ _ (fun xs H Q => ∃ p ys, xs = [.ref p] ∧ (SqL K H p ys ∨ SqT K H p ys) ∧ Q (.int ys.length) H)) (by rfl) (n_len T) bo_len (pa_cons (pv 8) pa_nil)) (pv 1) (nomark _)))) pa_nil)) (pe_one (pe_callB (cr_all rfl) (by rfl) (n_all T) bo_all (pa_cons (pe_lc (own := [("row", 8)]) (g := gName 8) (tt := tYes) rfl sc_fits.nd (pi_tup (pe_op op_catA (pv 5) (pv 7))) (blkOk_by (N := N_fits) (sc := defScope s_fits) (by decide +kernel)) (fun _ _ _ _ _ => pg_name (i := 8) sc_fits.nd rfl (.inl rfl)) (fun _ _ _ _ _ => pts_nil) (fun _ _ _ _ _ => (pe_cmpR op_eq (pe_callB (call_len_seq : CallR _ _ (fun xs H Q => ∃ p ys, xs = [.ref p] ∧ (SqL K H p ys ∨ SqT K H p ys) ∧ Q (.int ys.length) H)) (by rfl) (n_len T) bo_len (pa_cons (pv 8) pa_nil)) (pv 2) (nomark _)))) pa_nil)))))))), ?_⟩
    refine ⟨_, rfl, p, _, rfl, .inl (.inl hp), rfl, _, _, rfl, _, _, rfl, _, _, rfl, _, _, rfl, rfl, ?_⟩
    have ne : ∀ m n : Nat, m = n → (!decide (V.int (m : Int) = V.int (n : Int))) = false := fun m n h => by rw [h]; simp
    refine ⟨_, rfl, p2, _, rfl, .inr (.inl (.inl h2)), _, rfl, p1, _, rfl, .inr (.inl (.inl h1)), rfl, _, rfl, ?_⟩
    rw [ne _ _ (show x2.length = x1.length by omega)]
    refine iteF ⟨_, rfl, p3, _, rfl, .inr (.inl (.inl h3)), _, rfl, rfl, _, rfl, ?_⟩
    rw [ne _ _ (show x3.length = written by omega)]
    refine iteF ⟨_, rfl, p4, _, rfl, .inr (.inl (.inl h4)), _, rfl, rfl, _, rfl, ?_⟩
    rw [ne _ _ (show x4.length = written by omega)]
    refine iteF ?_
    have a13 := a1.app a3
    have a24 := a2.app a4
    refine ⟨_, rfl, _, rfl, cat_tup h1 h3 (by omega) fun q1 G1 s1 hq1 => ⟨_, rfl, ⟨_, .inl (.inl hq1)⟩, fun D nD => ?_⟩⟩
    refine lc_trueT nD (.inl (.inl hq1)) (by rw [List.length_append]; omega) (fun j x hx G2 R t1 q => ?_) (fun G2 t1 hD => ?_)
    · obtain ⟨r, hr', pr, xr, rfl, hpr, ar⟩ := a13.at hx
      have hpr2 := t1 _ _ (s1 _ _ hpr)
      refine ⟨_, rfl, pr, _, rfl, .inr (.inl (.inl hpr2)), _, rfl, rfl, ?_⟩
      rw [decide_eq_true (show V.int ((xr.length : Nat) : Int) = V.int (size : Int) by rw [ar.1, rs1 r (List.mem_of_getElem? hr')])]
      exact q G2 (Same.refl _)
    refine ⟨D, _, rfl, .inl (.inl hD), ?_⟩
    rw [all_rep]
    refine ⟨true, rfl, iteT ?_⟩
    have s2 := s1.trans t1
    refine ⟨_, rfl, _, rfl, cat_tup (s2 _ _ h2) (s2 _ _ h4) (by omega) fun q2 G3 s3 hq2 => ⟨_, rfl, ⟨_, .inl (.inl hq2)⟩, fun D2 nD2 => ?_⟩⟩
    refine lc_trueT nD2 (.inl (.inl hq2)) (by rw [List.length_append]; omega) (fun j x hx G4 R t2 q => ?_) (fun G4 t2 hD2 => ?_)
    · obtain ⟨r, hr', pr, xr, rfl, hpr, ar⟩ := a24.at hx
      have hpr2 := t2 _ _ (s3 _ _ (s2 _ _ hpr))
      refine ⟨_, rfl, pr, _, rfl, .inr (.inl (.inl hpr2)), _, rfl, rfl, ?_⟩
      rw [decide_eq_true (show V.int ((xr.length : Nat) : Int) = V.int (reads : Int) by rw [ar.1, rs2 r (List.mem_of_getElem? hr')])]
      exact q G4 (Same.refl _)
    refine ⟨D2, _, rfl, .inl (.inl hD2), ?_⟩
    rw [all_rep]
    exact k G4 ((s2.trans s3).trans t2)
end
end K54

/-! comprehensions whose items stand in a relation to given values -/
namespace Hk
open PySem PySem.Spec PyProof.Rows L2 SX
theorem All2.snoc {α β : Type} {R : α → β → Prop} {xs : List α} {bs : List β} {i : Nat} {x : α} {b : β} (h : All2 R xs (bs.take i)) (hb : bs[i]? = some b) (r : R x b) : All2 R (xs ++ [x]) (bs.take (i + 1)) := by
  rw [List.take_add_one, hb]
  exact h.app (All2.cons r All2.nil)
section
variable {K : Fr} {a : Addr} {β : Type} {xs : List V} {i : Nat} {te : TE} {σ : L2.St} {H1 : Hp} {D : Addr} {Qd : Hp → Prop}
theorem rel_step {Rel : Hp → V → β → Prop} (mono : ∀ H H' v b, Same H H' → Rel H v b → Rel H' v b) {bs : List β} {j : Nat} {b : β} (hb : bs[j]? = some b) (hz : bs.length ≤ 100000) (nD : H1 D = none) {H H' : Hp} {vs : List V} {v : V} (s1 : Same H1 H) (hD : H D = some (.lst vs)) (al : All2 (Rel H) vs (bs.take j)) (s2 : Same H H') (r : Rel H' v b) :
    ∃ acc, H' D = some (.lst acc) ∧ acc.length < sizeLine ∧ Same H1 (upd H' D (.lst (acc ++ [v]))) ∧ ∃ ws, (upd H' D (.lst (acc ++ [v]))) D = some (.lst ws) ∧ All2 (Rel H') ws (bs.take (j + 1)) := by
  refine ⟨vs, s2 _ _ hD, ?_, same_upd' (s1.trans s2) nD, _, upd_same, (al.mono fun x y h => mono _ _ _ _ s2 h).snoc hb r⟩
  have := al.1
  rw [List.length_take] at this
  have : (100000 : Nat) < sizeLine := by decide
  omega
theorem lc_relT {Rel : Hp → V → β → Prop} (mono : ∀ H H' v b, Same H H' → Rel H v b → Rel H' v b) (fr : ∀ H v b us ys, H D = some (.lst us) → Rel H v b → Rel (upd H D (.lst ys)) v b) (bs : List β) (hlen : xs.length = bs.length) (nD : H1 D = none) (hl : SqT K H1 a xs) (hz : bs.length ≤ 100000)
    (hs : ∀ (j : Nat) (x : V) (b : β), xs[j]? = some x → bs[j]? = some b → ∀ (H : Hp) (R : VK), Same H1 H → (∃ l, H D = some (.lst l)) → (∀ H' v, Same H H' → Rel H' v b → R v H') → te ((σ.set i none).set i (some x)) H R)
    (hd : ∀ H vs, Same H1 H → H D = some (.lst vs) → All2 (Rel H) vs bs → Qd H) :
    ∃ W : Nat → Nat → Hp → Prop, (∃ m, W 0 m (upd H1 D (.lst []))) ∧ ∀ j m H, W j m H →
      ((Itt K a).stop j H ∧ Qd H) ∨ ((Itt K a).go j H ∧ ∃ Nx : Hp → Prop, (∀ H', Nx H' → ∃ m', m' < m ∧ W (j + 1) m' H') ∧ ∀ x H', (Itt K a).yld j H x H' → gName i x (wipe σ [i]) H' fun σ2 H2 => wipe σ2 [i] = wipe σ [i] ∧ tYes σ2 H2 fun b H3 =>
        if b = true then te σ2 H3 fun y H4 => ∃ acc, H4 D = some (.lst acc) ∧ acc.length < sizeLine ∧ Nx (upd H4 D (.lst (acc ++ [y]))) else Nx H3) := by
  refine lc_tup (xs := xs) (fun j H' => Same H1 H' ∧ ∃ vs, H' D = some (.lst vs) ∧ All2 (Rel H') vs (bs.take j)) ⟨same_upd nD, [], upd_same, All2.nil⟩ (fun j H' _ h => sqT_same h.1 hl) ?_ ?_
  · rintro j x H hx ⟨s1, vs, hD, al⟩
    have hj := (List.getElem?_eq_some_iff.mp hx).1
    have hy : bs[j]? = some (bs[j]'(by omega)) := List.getElem?_eq_getElem _
    refine ⟨by show ((σ.set i none).set i (some x)).set i none = σ.set i none; rw [List.set_set, List.set_set], ?_⟩
    unfold tYes
    dsimp only
    rw [if_pos rfl]
    refine hs j x _ hx hy H _ s1 ⟨_, hD⟩ fun H' v s2 r => ?_
    obtain ⟨acc, h1, h2, h3, ws, h4, h5⟩ := rel_step mono hy hz nD s1 hD al s2 r
    exact ⟨acc, h1, h2, h3, ws, h4, h5.mono fun x y h => fr _ _ _ _ _ h1 h⟩
  · rintro H ⟨s1, vs, hD, al⟩
    rw [hlen, List.take_length] at al
    exact hd H vs s1 hD al
theorem lc_relL {Rel : Hp → V → β → Prop} (mono : ∀ H H' v b, Same H H' → Rel H v b → Rel H' v b) (fr : ∀ H v b us ys, H D = some (.lst us) → Rel H v b → Rel (upd H D (.lst ys)) v b) (bs : List β) (hlen : xs.length = bs.length) (nD : H1 D = none) (hl : SqL K H1 a xs) (hz : bs.length ≤ 100000)
    (hs : ∀ (j : Nat) (x : V) (b : β), xs[j]? = some x → bs[j]? = some b → ∀ (H : Hp) (R : VK), Same H1 H → (∃ l, H D = some (.lst l)) → (∀ H' v, Same H H' → Rel H' v b → R v H') → te ((σ.set i none).set i (some x)) H R)
    (hd : ∀ H vs, Same H1 H → H D = some (.lst vs) → All2 (Rel H) vs bs → Qd H) :
    ∃ W : Nat → Nat → Hp → Prop, (∃ m, W 0 m (upd H1 D (.lst []))) ∧ ∀ j m H, W j m H →
      ((Itl K a).stop j H ∧ Qd H) ∨ ((Itl K a).go j H ∧ ∃ Nx : Hp → Prop, (∀ H', Nx H' → ∃ m', m' < m ∧ W (j + 1) m' H') ∧ ∀ x H', (Itl K a).yld j H x H' → gName i x (wipe σ [i]) H' fun σ2 H2 => wipe σ2 [i] = wipe σ [i] ∧ tYes σ2 H2 fun b H3 =>
        if b = true then te σ2 H3 fun y H4 => ∃ acc, H4 D = some (.lst acc) ∧ acc.length < sizeLine ∧ Nx (upd H4 D (.lst (acc ++ [y]))) else Nx H3) := by
  refine lc_list (xs := xs) (fun j H' => Same H1 H' ∧ ∃ vs, H' D = some (.lst vs) ∧ All2 (Rel H') vs (bs.take j)) ⟨same_upd nD, [], upd_same, All2.nil⟩ (fun j H' _ h => h.1.seq hl) ?_ ?_
  · rintro j x H hx ⟨s1, vs, hD, al⟩
    have hj := (List.getElem?_eq_some_iff.mp hx).1
    have hy : bs[j]? = some (bs[j]'(by omega)) := List.getElem?_eq_getElem _
    refine ⟨by show ((σ.set i none).set i (some x)).set i none = σ.set i none; rw [List.set_set, List.set_set], ?_⟩
    unfold tYes
    dsimp only
    rw [if_pos rfl]
    refine hs j x _ hx hy H _ s1 ⟨_, hD⟩ fun H' v s2 r => ?_
    obtain ⟨acc, h1, h2, h3, ws, h4, h5⟩ := rel_step mono hy hz nD s1 hD al s2 r
    exact ⟨acc, h1, h2, h3, ws, h4, h5.mono fun x y h => fr _ _ _ _ _ h1 h⟩
  · rintro H ⟨s1, vs, hD, al⟩
    rw [hlen, List.take_length] at al
    exact hd H vs s1 hD al
end
end Hk

/-! all but some lists stand; rows of values in tuples and lists; comprehensions that may write those lists -/
namespace Hk
open PySem PySem.Spec PyProof.Rows L2 SX
/-- all but what stands at N is as it was -/
def Fm (N : List Addr) (H H' : Hp) : Prop := ∀ x o, x ∉ N → H x = some o → H' x = some o
/-- at each of N stands a list -/
def Ls (N : List Addr) (H : Hp) : Prop := ∀ a ∈ N, ∃ xs, H a = some (.lst xs)
theorem Fm.refl (N : List Addr) (H : Hp) : Fm N H H := fun _ _ _ h => h
theorem Fm.trans {N : List Addr} {H H1 H2 : Hp} (s : Fm N H H1) (t : Fm N H1 H2) : Fm N H H2 := fun x o n h => t x o n (s x o n h)
theorem Fm.same {N : List Addr} {H H1 : Hp} (s : Same H H1) : Fm N H H1 := fun x o _ h => s x o h
theorem Fm.to_same {H H1 : Hp} (s : Fm [] H H1) : Same H H1 := fun x o h => s x o (by simp) h
theorem Fm.old {a : Addr} {H H1 : Hp} (s : Old a H H1) : Fm [a] H H1 := fun x o n h => s x o h (by simpa using n)
theorem Fm.to_old {a : Addr} {H H1 : Hp} (s : Fm [a] H H1) : Old a H H1 := fun x o h n => s x o (by simpa using n) h
theorem Fm.mono {N M : List Addr} {H H1 : Hp} (s : Fm N H H1) (h : ∀ a ∈ N, a ∈ M) : Fm M H H1 := fun x o n e => s x o (fun z => n (h x z)) e
theorem Fm.put {N : List Addr} {H H1 : Hp} {D : Addr} {o : HO} (s : Fm N H H1) (h : D ∈ N) : Fm N H (upd H1 D o) := fun x u n e => by
  rw [upd_ne (fun z => n (by rw [z]; exact h))]
  exact s x u n e
theorem Fm.new {N : List Addr} {H H1 : Hp} {D : Addr} {o : HO} (s : Fm N H H1) (h : H D = none) : Fm N H (upd H1 D o) := fun x u n e => by
  rw [upd_ne (ne_of_none e h)]
  exact s x u n e
theorem Ls.same {N : List Addr} {H H1 : Hp} (l : Ls N H) (s : Same H H1) : Ls N H1 := fun a h => by
  obtain ⟨xs, e⟩ := l a h
  exact ⟨xs, s _ _ e⟩
theorem Ls.put {N : List Addr} {H : Hp} {D : Addr} {ys : List V} (l : Ls N H) : Ls N (upd H D (.lst ys)) := fun a h => by
  by_cases e : a = D
  · subst e
    exact ⟨ys, upd_same⟩
  · obtain ⟨xs, q⟩ := l a h
    exact ⟨xs, by rw [upd_ne e]; exact q⟩
theorem Ls.nil {H : Hp} : Ls [] H := fun a h => nomatch h
theorem Ls.cons {N : List Addr} {H : Hp} {D : Addr} {xs : List V} (h : H D = some (.lst xs)) (l : Ls N H) : Ls (D :: N) H := fun a q => by
  rcases List.mem_cons.mp q with rfl | q
  · exact ⟨xs, h⟩
  · exact l a q
theorem Ls.out {N : List Addr} {H : Hp} {D : Addr} (l : Ls N H) (h : H D = none) : D ∉ N := fun q => by
  obtain ⟨xs, e⟩ := l D q
  rw [h] at e
  cases e
theorem Ls.no {N : List Addr} {H : Hp} {x : Addr} {o : HO} (l : Ls N H) (h : H x = some o) (ho : ∀ xs, o ≠ .lst xs) : x ∉ N := fun q => by
  obtain ⟨xs, e⟩ := l x q
  rw [h] at e
  exact ho xs (Option.some.inj e)
/-- a reading of values that stands while all but N stands -/
def Framed {β : Type} (N : List Addr) (Rel : Hp → V → β → Prop) : Prop := ∀ H H' v b, Ls N H → Fm N H H' → Rel H v b → Rel H' v b
theorem Framed.same {β : Type} {N : List Addr} {Rel : Hp → V → β → Prop} (f : Framed N Rel) {H H' : Hp} {v : V} {b : β} (l : Ls N H) (s : Same H H') (r : Rel H v b) : Rel H' v b := f H H' v b l (Fm.same s) r
/-- a tuple whose items stand so -/
def TupOf {β : Type} (Rel : Hp → V → β → Prop) (H : Hp) (x : V) (bs : List β) : Prop := ∃ p xs, x = .ref p ∧ H p = some (.tup xs) ∧ All2 (Rel H) xs bs
theorem TupOf.same {β : Type} {Rel : Hp → V → β → Prop} (mono : ∀ H H' v b, Same H H' → Rel H v b → Rel H' v b) {H H' : Hp} {x : V} {bs : List β} (h : TupOf Rel H x bs) (s : Same H H') : TupOf Rel H' x bs := by
  obtain ⟨p, xs, rfl, hp, a⟩ := h
  exact ⟨p, xs, rfl, s _ _ hp, a.mono fun _ _ o => mono _ _ _ _ s o⟩
theorem tup_put {H : Hp} {p D : Addr} {xs us ys : List V} (hp : H p = some (.tup xs)) (hD : H D = some (.lst us)) : (upd H D (.lst ys)) p = some (.tup xs) := by
  rw [upd_ne (fun z => by rw [z, hD] at hp; cases hp)]
  exact hp
theorem TupOf.put {β : Type} {Rel : Hp → V → β → Prop} {D : Addr} (fr : ∀ H v b us ys, H D = some (.lst us) → Rel H v b → Rel (upd H D (.lst ys)) v b) {H : Hp} {x : V} {bs : List β} {us ys : List V} (h : TupOf Rel H x bs) (hD : H D = some (.lst us)) : TupOf Rel (upd H D (.lst ys)) x bs := by
  obtain ⟨p, xs, rfl, hp, a⟩ := h
  exact ⟨p, xs, rfl, tup_put hp hD, a.mono fun _ _ o => fr _ _ _ _ _ hD o⟩
theorem Framed.tup {β : Type} {N : List Addr} {Rel : Hp → V → β → Prop} (f : Framed N Rel) : Framed N (TupOf Rel) := fun H H' v b l s ⟨p, xs, e, hp, a⟩ =>
  ⟨p, xs, e, s _ _ (l.no hp fun _ q => nomatch q) hp, a.mono fun _ _ o => f _ _ _ _ l s o⟩
/-- a list, none of N, whose items stand so -/
def LstOf {β : Type} (N : List Addr) (Rel : Hp → V → β → Prop) (H : Hp) (x : V) (bs : List β) : Prop := ∃ p xs, x = .ref p ∧ p ∉ N ∧ H p = some (.lst xs) ∧ All2 (Rel H) xs bs
theorem Framed.lst {β : Type} {N : List Addr} {Rel : Hp → V → β → Prop} (f : Framed N Rel) : Framed N (LstOf N Rel) := fun H H' v b l s ⟨p, xs, e, n, hp, a⟩ =>
  ⟨p, xs, e, n, s _ _ n hp, a.mono fun _ _ o => f _ _ _ _ l s o⟩
theorem LstOf.less {β : Type} {N M : List Addr} {Rel : Hp → V → β → Prop} {H : Hp} {x : V} {bs : List β} (h : LstOf N Rel H x bs) (s : ∀ a ∈ M, a ∈ N) : LstOf M Rel H x bs := by
  obtain ⟨p, xs, e, n, hp, a⟩ := h
  exact ⟨p, xs, e, fun z => n (s p z), hp, a⟩
theorem LstOf.imp {β : Type} {N : List Addr} {Rel Rel' : Hp → V → β → Prop} {H : Hp} {x : V} {bs : List β} (h : LstOf N Rel H x bs) (s : ∀ v b, Rel H v b → Rel' H v b) : LstOf N Rel' H x bs := by
  obtain ⟨p, xs, e, n, hp, a⟩ := h
  exact ⟨p, xs, e, n, hp, a.mono s⟩
theorem TupOf.imp {β : Type} {Rel Rel' : Hp → V → β → Prop} {H : Hp} {x : V} {bs : List β} (h : TupOf Rel H x bs) (s : ∀ v b, Rel H v b → Rel' H v b) : TupOf Rel' H x bs := by
  obtain ⟨p, xs, e, hp, a⟩ := h
  exact ⟨p, xs, e, hp, a.mono s⟩
theorem Framed.less {β : Type} {N M : List Addr} {Rel : Hp → V → β → Prop} (f : Framed N Rel) (s : ∀ a ∈ M, a ∈ N) (H H' : Hp) (v : V) (b : β) (l : Ls N H) (h : Fm M H H') (r : Rel H v b) : Rel H' v b := f H H' v b l (h.mono s) r
/-- a plain value -/
def IntV (H : Hp) (x : V) (n : Nat) : Prop := x = .int (n : Int)
theorem framed_int {N : List Addr} : Framed N IntV := fun _ _ _ _ _ _ h => h
section
variable {β : Type} {J : It} {n : Nat} {G : Hp → Prop} {Y : Nat → Hp → V → Hp → Prop}
/-- a comprehension that may write N; its items stand in Rel to values of which P holds -/
theorem lc_fr (w : Walk J n G Y) {g : TG} {te : TE} {vs : List Nat} {σ : L2.St} {H1 : Hp} {D : Addr} {Qd : Hp → Prop} (N : List Addr) (Rel : Hp → V → β → Prop) (P : Nat → β → Prop) (Iv : Hp → Prop)
    (nD : H1 D = none) (hn : n ≤ 100000) (fr : Framed (D :: N) Rel) (L0 : Ls N H1) (I0 : Iv H1) (hI : ∀ H o, H1 D = none → Iv H → Iv (upd H D o)) (hG : ∀ H, Fm N H1 H → G H)
    (hs : ∀ i x H H', i < n → Fm N H1 H → Ls N H → Iv H → (∃ l, H D = some (.lst l)) → Y i H x H' → ∀ R : VK, (∀ H2 v b, Fm N H H2 → Ls N H2 → Iv H2 → P i b → Rel H2 v b → R v H2) → g x (wipe σ vs) H' fun σ2 H2 => wipe σ2 vs = wipe σ vs ∧ te σ2 H2 R)
    (hd : ∀ H us bs, Fm N H1 H → Ls N H → Iv H → bs.length = n → (∀ i b, bs[i]? = some b → P i b) → All2 (Rel H) us bs → H D = some (.lst us) → Qd H)
    (gm : ∀ x σ H (Q1 Q2 : L2.St → Hp → Prop), (∀ σ H, Q1 σ H → Q2 σ H) → g x σ H Q1 → g x σ H Q2) :
    ∃ W : Nat → Nat → Hp → Prop, (∃ m, W 0 m (upd H1 D (.lst []))) ∧ ∀ i m H, W i m H →
      (J.stop i H ∧ Qd H) ∨ (J.go i H ∧ ∃ Nx : Hp → Prop, (∀ H', Nx H' → ∃ m', m' < m ∧ W (i + 1) m' H') ∧ ∀ x H', J.yld i H x H' → g x (wipe σ vs) H' fun σ2 H2 => wipe σ2 vs = wipe σ vs ∧ tYes σ2 H2 fun b H3 =>
        if b = true then te σ2 H3 fun y H4 => ∃ acc, H4 D = some (.lst acc) ∧ acc.length < sizeLine ∧ Nx (upd H4 D (.lst (acc ++ [y]))) else Nx H3) := by
  have dn := L0.out nD
  refine lc_it w (fun i H' => Fm N H1 H' ∧ Ls N H' ∧ Iv H' ∧ ∃ us bs, H' D = some (.lst us) ∧ bs.length = i ∧ (∀ j b, bs[j]? = some b → P j b) ∧ All2 (Rel H') us bs) ⟨(Fm.refl N H1).new nD, L0.put, hI _ _ nD I0, [], [], upd_same, rfl, fun j b z => by simp at z, All2.nil⟩ (fun i H' _ h => hG H' h.1) ?_ ?_
  · rintro i x H H' hi ⟨s1, l1, iv, us, bs, hD, hl, hp, al⟩ y
    refine gm _ _ _ _ _ ?_ (hs i x H H' hi s1 l1 iv ⟨_, hD⟩ y (fun y H4 => ∃ acc, H4 D = some (.lst acc) ∧ acc.length < sizeLine ∧ (Fm N H1 (upd H4 D (.lst (acc ++ [y]))) ∧ Ls N (upd H4 D (.lst (acc ++ [y]))) ∧ Iv (upd H4 D (.lst (acc ++ [y]))) ∧ ∃ us bs, (upd H4 D (.lst (acc ++ [y]))) D = some (.lst us) ∧ bs.length = i + 1 ∧ (∀ j b, bs[j]? = some b → P j b) ∧ All2 (Rel (upd H4 D (.lst (acc ++ [y])))) us bs)) ?_)
    · rintro σ2 H2 ⟨e, h⟩
      refine ⟨e, ?_⟩
      unfold tYes
      dsimp only
      rw [if_pos rfl]
      exact h
    · intro H2 v b s2 l2 iv2 pb r
      have hD2 := s2 D _ dn hD
      have lc : Ls (D :: N) H2 := l2.cons hD2
      have fd : Fm (D :: N) H2 (upd H2 D (.lst (us ++ [v]))) := (Fm.refl _ H2).put (by simp)
      refine ⟨us, hD2, ?_, (s1.trans s2).new nD, l2.put, hI _ _ nD iv2, us ++ [v], bs ++ [b], upd_same, by rw [List.length_append, hl]; rfl, ?_, ?_⟩
      · have := al.1
        have : (100000 : Nat) < sizeLine := by decide
        omega
      · intro j c hj
        by_cases h : j < bs.length
        · rw [List.getElem?_append_left h] at hj
          exact hp j c hj
        · rw [List.getElem?_append_right (by omega)] at hj
          have : j = bs.length := by
            have := (List.getElem?_eq_some_iff.mp hj).1
            simp at this
            omega
          subst this
          rw [Nat.sub_self] at hj
          cases hj
          rw [hl]
          exact pb
      · refine All2.app ?_ (All2.cons (fr _ _ _ _ lc fd r) All2.nil)
        exact al.mono fun a c h => fr _ _ _ _ lc fd (fr H H2 a c (l1.cons hD) (s2.mono (by simp +contextual)) h)
  · rintro H ⟨s1, l1, iv, us, bs, hD, hl, hp, al⟩
    exact hd H us bs s1 l1 iv hl hp al hD
end
/-! targets tell what follows -/
theorem gName_mono {i : Nat} : ∀ x σ H (Q1 Q2 : L2.St → Hp → Prop), (∀ σ H, Q1 σ H → Q2 σ H) → gName i x σ H Q1 → gName i x σ H Q2 := fun x σ H Q1 Q2 h q => h _ _ q
end Hk

namespace K54
open PySem PySem.Spec PyProof.Rows L2 Hk NumM NumT SX
theorem bo_tuple : bootBuiltins "tuple" = some (.type "tuple") := by decide +kernel
/-! rows and tables of Numbers -/
def NumV (K : Fr) (H : Hp) (x : V) (q : Rat) : Prop := ∃ p, x = .ref p ∧ NumQ (CN K) H p q
theorem NumV.same {K : Fr} {H H' : Hp} {x : V} {q : Rat} (h : NumV K H x q) (s : Same H H') : NumV K H' x q := by
  obtain ⟨p, rfl, n⟩ := h
  exact ⟨p, rfl, n.same s⟩
theorem num_put {C : Addr} {H : Hp} {p D : Addr} {t b : Int} {us ys : List V} (n : NumAt C H p t b) (hD : H D = some (.lst us)) : NumAt C (upd H D (.lst ys)) p t b := by
  obtain ⟨⟨dx, hp⟩, c, d⟩ := n
  refine ⟨⟨dx, ?_⟩, c, d⟩
  rw [upd_ne (fun z => by rw [z, hD] at hp; cases hp)]
  exact hp
theorem NumV.put {K : Fr} {H : Hp} {D : Addr} {x : V} {q : Rat} {us ys : List V} (h : NumV K H x q) (hD : H D = some (.lst us)) : NumV K (upd H D (.lst ys)) x q := by
  obtain ⟨p, rfl, n⟩ := h
  exact ⟨p, rfl, num_put n hD⟩
abbrev NRow (K : Fr) : Hp → V → List Rat → Prop := TupOf (NumV K)
abbrev NTab (K : Fr) : Hp → V → Table → Prop := TupOf (NRow K)
abbrev NStep (K : Fr) : Hp → V → List Table → Prop := TupOf (NTab K)
abbrev NSteps (K : Fr) : Hp → V → List (List Table) → Prop := TupOf (NStep K)
section
variable {K : Fr}
theorem num_mono : ∀ (H H' : Hp) (v : V) (b : Rat), Same H H' → NumV K H v b → NumV K H' v b := fun _ _ _ _ s h => h.same s
theorem row_mono : ∀ (H H' : Hp) (v : V) (b : List Rat), Same H H' → NRow K H v b → NRow K H' v b := fun _ _ _ _ s h => h.same num_mono s
theorem tab_mono : ∀ (H H' : Hp) (v : V) (b : Table), Same H H' → NTab K H v b → NTab K H' v b := fun _ _ _ _ s h => h.same row_mono s
theorem step_mono : ∀ (H H' : Hp) (v : V) (b : List Table), Same H H' → NStep K H v b → NStep K H' v b := fun _ _ _ _ s h => h.same tab_mono s
theorem num_fr {D : Addr} : ∀ (H : Hp) (v : V) (b : Rat) (us ys : List V), H D = some (.lst us) → NumV K H v b → NumV K (upd H D (.lst ys)) v b := fun _ _ _ _ _ h n => n.put h
theorem row_fr {D : Addr} : ∀ (H : Hp) (v : V) (b : List Rat) (us ys : List V), H D = some (.lst us) → NRow K H v b → NRow K (upd H D (.lst ys)) v b := fun _ _ _ _ _ h n => n.put num_fr h
theorem tab_fr {D : Addr} : ∀ (H : Hp) (v : V) (b : Table) (us ys : List V), H D = some (.lst us) → NTab K H v b → NTab K (upd H D (.lst ys)) v b := fun _ _ _ _ _ h n => n.put row_fr h
theorem step_fr {D : Addr} : ∀ (H : Hp) (v : V) (b : List Table) (us ys : List V), H D = some (.lst us) → NStep K H v b → NStep K (upd H D (.lst ys)) v b := fun _ _ _ _ _ h n => n.put tab_fr h
end
section
variable {P : Program} {w : World} {K : Fr} {mg : Str → Option Value} {base : Heap}
def spWith (K : Fr) : Sp := fun vs H Q _ => ∃ (x : V) (t : Table), vs = [x] ∧ TabAt K H x t ∧ t.length ≤ 1000 ∧ (∀ r ∈ t, r.length ≤ 1000 ∧ ∀ q ∈ r, Sz q.num) ∧ ∀ H' v, Same H H' → NTab K H' v t → Q v H'
theorem c_with (T : Tx K mg) : Cal P w K mg base 5 "_with_numbers" (gAd "_with_numbers" K) ["table"] (spWith K) := by
  have C_as_number := c_asnum (P := P) (w := w) (base := base) T
  refine cal_of (d := d_with_numbers) (N := ["table", "number", "row"]) (a_with_numbers T.c) rfl sc_with_numbers (g_with_numbers T) (fun _ _ _ _ _ _ us hl => match us, hl with | [_], _ => rfl) (fun vs H Q E h => ?_) (fun cdv A outer s H vs Q E hr h => ?_)
  · obtain ⟨x, t, rfl, _⟩ := h
    rfl
  · obtain ⟨x, t, rfl, ⟨p, xs, rfl, hp, al⟩, hz, hr', k⟩ := h
    refine ⟨_, (pss_one (ps_ret (pe_callTy call_tuple_of (by rfl) (n_tuple T) bo_tuple (pa_cons (pe_lc (own := [("row", 2)]) (g := gName 2) (tt := tYes) rfl sc_with_numbers.nd (pi_tup (pv 0)) (blkOk_by (N := ["table", "number", "row"]) (sc := defScope s_with_numbers) (by decide +kernel)) (fun _ _ _ _ _ => pg_name (i := 2) sc_with_numbers.nd rfl (.inl rfl)) (fun _ _ _ _ _ => pts_nil) (fun _ _ _ _ _ => (pe_callTy (call_tuple_of : CallR _ _ (fun xs H Q => ∃ p ys, xs = [.ref p] ∧ ((SqL K H p ys ∧ ∀ l, H l = none → Q (.ref l) (upd H l (.tup ys))) ∨ (SqT K H p ys ∧ Q (.ref p) H)))) (by rfl) (n_tuple T) bo_tuple (pa_cons (pe_lc (wi := iTup K (tVar 2)) (own := [("number", 1)]) (g := gName 1) (tt := tYes) rfl sc_with_numbers.nd (pi_tup (pv 2)) (blkOk_by (N := ["table", "number", "row"]) (by rfl)) (fun _ _ _ _ _ => pg_name (i := 1) sc_with_numbers.nd rfl (.inl rfl)) (fun _ _ _ _ _ => pts_nil) (fun _ _ _ _ _ => (pe_c C_as_number (hr.mono (by decide)) (pa_cons (pv 1) pa_nil)))) pa_nil)))) pa_nil)))), ?_⟩
    refine ⟨_, rfl, p, rfl, ⟨_, .inl (.inl hp)⟩, fun D nD => ?_⟩
    refine lc_relT (Rel := NRow K) row_mono row_fr t al.1 nD (.inl (.inl hp)) (by omega) (fun j x r hx hr2 G R s1 hD q => ?_) (fun G vs s1 hD a2 => ?_)
    · obtain ⟨pr, xr, rfl, hpr, ar⟩ := al.2 j x r hx hr2
      obtain ⟨z1, z2⟩ := hr' r (List.mem_of_getElem? hr2)
      have hpr1 := s1 _ _ hpr
      refine ⟨_, rfl, pr, rfl, ⟨_, .inl (.inl hpr1)⟩, fun D2 nD2 => ?_⟩
      refine lc_relT (Rel := NumV K) num_mono num_fr r ar.1 nD2 (.inl (.inl hpr1)) (by omega) (fun j2 y c hy hc G2 R2 s2 hD2 q2 => ?_) (fun G2 us s2 hD2 a3 => ?_)
      · refine ⟨_, rfl, y, c.num, c.den, rfl, ((ar.2 j2 y c hy hc).same s1).same s2, z2 c (List.mem_of_getElem? hc), fun G3 a s3 n => ?_⟩
        exact q2 G3 _ s3 ⟨a, rfl, n⟩
      · refine ⟨D2, us, rfl, .inl ⟨.inl (.inl hD2), fun l nl => ?_⟩⟩
        have sl := same_upd nl (o := HO.tup us)
        exact q _ _ (s2.trans sl) ⟨l, us, rfl, upd_same, a3.mono fun _ _ o => o.same sl⟩
    · refine ⟨D, vs, rfl, .inl ⟨.inl (.inl hD), fun l nl => ?_⟩⟩
      have sl := same_upd nl (o := HO.tup vs)
      exact k _ _ (s1.trans sl) ⟨l, vs, rfl, upd_same, a2.mono fun _ _ o => o.same num_mono sl⟩
end
end K54

namespace K54
open PySem PySem.Spec PyProof.Rows L2 Hk NumM NumT SX
section
variable {P : Program} {w : World} {K : Fr} {mg : Str → Option Value} {base : Heap}
/-- one of a list -/
def spOne : Sp := fun vs H Q _ => ∃ (a b : Addr) (xs : List V), vs = [.ref a, .ref b] ∧ SprAt a H ∧ H b = some (.lst xs) ∧ a ≠ b ∧ 1 ≤ xs.length ∧ xs.length ≤ 1000 ∧ ∀ (i : Nat) (x : V) (H' : Hp), xs[i]? = some x → Old a H H' → SprAt a H' → Q x H'
theorem c_one (T : Tx K mg) : Cal P w K mg base 2 "_law_one" (gAd "_law_one" K) ["_law_spring_here", "_law_things"] spOne := by
  have C_next := c_nextO (P := P) (w := w) (base := base) T
  refine cal_of (d := d_l_one) (N := ["_law_spring_here", "_law_things"]) (a_l_one T.c) rfl sc_l_one (g_l_one T) (fun _ _ _ _ _ _ us hl => match us, hl with | [_, _], _ => rfl) (fun vs H Q E h => ?_) (fun cdv A outer s H vs Q E hr h => ?_)
  · obtain ⟨a, b, xs, rfl, _⟩ := h
    rfl
  · obtain ⟨a, b, xs, rfl, hs, hb, ab, n1, nz, k⟩ := h
    refine ⟨_, (pss_one (ps_ret (pe_ix ix_list (pv 1) (pe_c C_next hr (pa_cons (pv 0) (pa_cons (pe_callB call_len_seq (by rfl) (n_len T) bo_len (pa_cons (pv 1) pa_nil)) pa_nil))) (fun _ _ => rfl)))), ?_⟩
    refine ⟨_, rfl, _, rfl, _, rfl, b, _, rfl, .inl (.inl (.inl hb)), a, _, rfl, hs, by omega, ?_, fun v H' v0 v1 o s => ?_⟩
    · exact Nat.lt_of_le_of_lt (show _ ≤ 1000 by omega) (by decide +kernel)
    obtain ⟨j, rfl⟩ := Int.eq_ofNat_of_zero_le v0
    have hj : j < xs.length := by omega
    have hx : xs[j]? = some (xs[j]) := List.getElem?_eq_getElem hj
    exact ⟨b, _, _, _, rfl, rfl, .inl (.inl (o _ _ hb (Ne.symm ab))), atI_nat hx, k j _ H' hx o s⟩
/-- small numbers multiplied -/
theorem cmul {x y : Nat} (hx : x ≤ 400000) (hy : y ≤ 400000) : CMulW (x : Int) (y : Int) := by
  unfold CMulW
  have h1 := Nat.log2_le_self (x : Int).natAbs
  have h2 := Nat.log2_le_self (y : Int).natAbs
  omega
theorem stand_ev (r : Nat × Nat) (per tick : Nat) (h : 1 ≤ per * r.2) : (decide (V.int (((tick : Int) * (r.1 : Int)).fmod ((per : Int) * (r.2 : Int))) = V.int 0)) = stand r per tick := by
  rw [← Int.natCast_mul, ← Int.natCast_mul, Int.fmod_eq_emod_of_nonneg _ (by omega), ← Int.natCast_emod]
  unfold stand
  by_cases h : tick * r.1 % (per * r.2) = 0
  · rw [decide_eq_true h]
    exact decide_eq_true (by rw [h]; rfl)
  · rw [decide_eq_false h, decide_eq_false (fun z => h (by have := V.int.inj z; omega))]
def spStands : Sp := fun vs H Q _ => ∃ (x : V) (r : Nat × Nat) (per tick : Nat), vs = [x, .int (tick : Int), .int (per : Int)] ∧ RateAt H x r ∧ ROk r ∧ 1 ≤ per ∧ per ≤ 27720 ∧ tick ≤ 10000 ∧ Q (.bl (stand r per tick)) H
theorem c_stands (T : Tx K mg) : Cal P w K mg base 1 "_law_stands" (gAd "_law_stands" K) ["_law_rate", "_law_tick", "_law_ticks_here"] spStands := by
  refine cal_of (d := d_l_stands) (N := ["_law_rate", "_law_tick", "_law_ticks_here"]) (a_l_stands T.c) rfl sc_l_stands (g_l_stands T) (fun _ _ _ _ _ _ us hl => match us, hl with | [_, _, _], _ => rfl) (fun vs H Q E h => ?_) (fun cdv A outer s H vs Q E hr h => ?_)
  · obtain ⟨x, r, per, tick, rfl, _⟩ := h
    rfl
  · obtain ⟨x, r, per, tick, rfl, ⟨p, rfl, hp⟩, o, p1, p2, t2, k⟩ := h
    refine ⟨_, (pss_one (ps_ret (pe_cmpR op_eq (pe_op op_modN (pe_op op_mulW (pv 1) (pe_ix ix_tup (pv 0) pe_int (fun _ _ => rfl))) (pe_op op_mulW (pv 2) (pe_ix ix_tup (pv 0) pe_int (fun _ _ => rfl)))) pe_int (nomark _)))), ?_⟩
    have o1 := o.b1
    have o2 := o.t2
    have o3 := o.b2
    have pos : 1 ≤ per * r.2 := Nat.mul_pos p1 o1
    refine ⟨_, rfl, _, rfl, p, _, _, _, rfl, rfl, .inl (.inl hp), rfl, _, _, rfl, rfl, cmul (by omega) (by omega), _, rfl, _, rfl, p, _, _, _, rfl, rfl, .inl (.inl hp), rfl, _, _, rfl, rfl, cmul (by omega) (by omega), _, _, rfl, rfl, ?_, rfl, ?_⟩
    · rw [← Int.natCast_mul]
      omega
    · show Q (.bl (decide (V.int (((tick : Int) * (r.1 : Int)).fmod ((per : Int) * (r.2 : Int))) = V.int 0))) H
      rw [stand_ev r per tick pos]
      exact k
end
end K54

namespace K54
open PySem PySem.Spec PyProof.Rows L2 Hk NumM NumT SX
theorem cnt_lt {r : Nat × Nat} {u i : Nat} (hb : 1 ≤ r.2) : i * r.2 < u * r.1 ↔ i < cnt r u := by
  unfold cnt
  have h1 := Nat.div_add_mod (u * r.1 + r.2 - 1) r.2
  have h2 := Nat.mod_lt (u * r.1 + r.2 - 1) (show 0 < r.2 by omega)
  generalize (u * r.1 + r.2 - 1) / r.2 = q at h1 ⊢
  generalize (u * r.1 + r.2 - 1) % r.2 = m at h1 h2
  generalize hb2 : r.2 = b at *
  generalize u * r.1 = x at *
  constructor
  · intro h
    by_cases c : i < q
    · exact c
    · have h3 : b * q ≤ b * i := Nat.mul_le_mul_left b (by omega)
      rw [Nat.mul_comm i b] at h
      omega
  · intro h
    have h3 : b * (i + 1) ≤ b * q := Nat.mul_le_mul_left b h
    rw [Nat.mul_add, Nat.mul_one] at h3
    rw [Nat.mul_comm i b]
    omega
theorem cnt_le {r : Nat × Nat} {u : Nat} (hb : 1 ≤ r.2) : cnt r u ≤ u * r.1 := by
  by_cases h : cnt r u ≤ u * r.1
  · exact h
  · have h1 : u * r.1 < cnt r u := by omega
    have h2 := (cnt_lt (r := r) (u := u) (i := u * r.1) hb).mpr h1
    have h3 : u * r.1 * 1 ≤ u * r.1 * r.2 := Nat.mul_le_mul_left _ hb
    omega
section
variable {P : Program} {w : World} {K : Fr} {mg : Str → Option Value} {base : Heap}
def spMany (K : Fr) : Sp := fun vs H Q _ => ∃ (a : Addr) (xs : List V) (rs : Rts) (per tick : Nat), vs = [.ref a, .int (tick : Int), .int (per : Int)] ∧ SqL K H a xs ∧ RtT H xs rs ∧ (∀ r ∈ rs, ROk r) ∧ rs.length ≤ 12 ∧ 1 ≤ per ∧ per ≤ 27720 ∧ tick ≤ 10000 ∧ ∀ H', Same H H' → Q (.int (((dueL rs per tick).length : Nat) : Int)) H'
theorem c_many (T : Tx K mg) : Cal P w K mg base 2 "_law_many" (gAd "_law_many" K) ["_law_rates", "_law_tick", "_law_ticks_here"] (spMany K) := by
  have C_stands := c_stands (P := P) (w := w) (base := base) T
  refine cal_of (d := d_l_many) (N := ["_law_rates", "_law_tick", "_law_ticks_here", "_law_rate"]) (a_l_many T.c) rfl sc_l_many (g_l_many T) (fun _ _ _ _ _ _ us hl => match us, hl with | [_, _, _], _ => rfl) (fun vs H Q E h => ?_) (fun cdv A outer s H vs Q E hr h => ?_)
  · obtain ⟨a, xs, rs, per, tick, rfl, _⟩ := h
    rfl
  · obtain ⟨a, xs, rs, per, tick, rfl, hx, al, ok, n12, p1, p2, t2, k⟩ := h
    refine ⟨_, (pss_one (ps_ret (pe_callB call_len_seq (by rfl) (n_len T) bo_len (pa_cons (pe_lc (own := [("_law_rate", 3)]) (g := gName 3) rfl sc_l_many.nd (pi_list (pv 0)) (blkOk_by (N := ["_law_rates", "_law_tick", "_law_ticks_here", "_law_rate"]) (sc := defScope s_l_many) (by decide +kernel)) (fun _ _ _ _ _ => pg_name (i := 3) sc_l_many.nd rfl (.inl rfl)) (fun _ _ _ _ _ => (pts_one (pt_val (pe_c C_stands (hr.mono (by decide)) (pa_cons (pv 3) (pa_cons (pv 1) (pa_cons (pv 2) pa_nil))))))) (fun _ _ _ _ _ => (pv 3))) pa_nil)))), ?_⟩
    refine ⟨_, rfl, a, rfl, ⟨_, hx⟩, fun D nD => ?_⟩
    refine lc_list (a := a) (xs := xs) (fun i H' => Same H H' ∧ ∃ acc, H' D = some (.lst acc) ∧ acc.length = (dueN rs per tick i).length) ⟨same_upd nD, [], upd_same, rfl⟩ (fun i H' _ h => h.1.seq hx) ?_ ?_
    · rintro i x H1 hi ⟨s1, acc, hD, la⟩
      obtain ⟨r, hr', o⟩ := al.at hi
      refine ⟨rfl, _, rfl, _, rfl, _, rfl, x, r, per, tick, rfl, o.same s1, ok r (List.mem_of_getElem? hr'), p1, p2, t2, _, rfl, ?_⟩
      cases hs : stand r per tick with
      | true =>
        refine iteT ⟨_, rfl, acc, hD, ?_, same_upd' s1 nD, _, upd_same, ?_⟩
        · have := dueN_le rs per tick i
          have := (List.getElem?_eq_some_iff.mp hi).1
          have := al.1
          exact Nat.lt_of_lt_of_le (show acc.length < 13 by omega) (by decide)
        · rw [dueN_t hr' hs, List.length_append, List.length_append, la]
          rfl
      | false =>
        refine iteF ⟨s1, acc, hD, ?_⟩
        rw [dueN_f hr' hs, la]
    · rintro H1 ⟨s1, acc, hD, la⟩
      refine ⟨D, acc, rfl, .inl (.inl (.inl hD)), ?_⟩
      rw [la, al.1]
      exact k H1 s1
def spCount : Sp := fun vs H Q _ => ∃ (x : V) (r : Nat × Nat) (u : Nat), vs = [x, .int (u : Int)] ∧ RateAt H x r ∧ ROk r ∧ u ≤ 1000 ∧ ∀ H', Same H H' → Q (.int ((cnt r u : Nat) : Int)) H'
theorem c_count (T : Tx K mg) : Cal P w K mg base 1 "_law_count" (gAd "_law_count" K) ["_law_rate", "_law_until"] spCount := by
  refine cal_of (d := d_l_count) (N := ["_law_rate", "_law_until", "_law_at"]) (a_l_count T.c) rfl sc_l_count (g_l_count T) (fun _ _ _ _ _ _ us hl => match us, hl with | [_, _], _ => rfl) (fun vs H Q E h => ?_) (fun cdv A outer s H vs Q E hr h => ?_)
  · obtain ⟨x, r, u, rfl, _⟩ := h
    rfl
  · obtain ⟨x, r, u, rfl, ⟨p, rfl, hp⟩, o, hu, k⟩ := h
    refine ⟨_, (pss_one (ps_ret (pe_callB call_len_seq (by rfl) (n_len T) bo_len (pa_cons (pe_lc (own := [("_law_at", 2)]) (g := gName 2) rfl sc_l_count.nd (pi_range1 (by rfl) (n_range T) (pa_cons (pe_op op_add (pe_op op_mulW (pv 1) (pe_ix ix_tup (pv 0) pe_int (fun _ _ => rfl))) pe_int) pa_nil)) (blkOk_by (N := ["_law_rate", "_law_until", "_law_at"]) (sc := defScope s_l_count) (by decide +kernel)) (fun _ _ _ _ _ => pg_name (i := 2) sc_l_count.nd rfl (.inl rfl)) (fun _ _ _ _ _ => (pts_one (pt_cmpR op_lt (pe_op op_mulW (pv 2) (pe_ix (ix_tup : IxR _ (rIxT K)) (pv 0) pe_int (fun _ _ => rfl))) (pe_op op_mulW (pv 1) (pe_ix (ix_tup : IxR _ (rIxT K)) (pv 0) pe_int (fun _ _ => rfl))) (nomark _)))) (fun _ _ _ _ _ => (pv 2))) pa_nil)))), ?_⟩
    have o1 := o.b1
    have o2 := o.t2
    have o3 := o.b2
    have hm : u * r.1 ≤ 12000 := Nat.le_trans (Nat.mul_le_mul hu o2) (by decide)
    refine ⟨_, rfl, _, rfl, p, _, _, _, rfl, rfl, .inl (.inl hp), rfl, _, _, rfl, rfl, cmul (by omega) (by omega), _, _, rfl, rfl, ?_⟩
    have em : ((u : Int) * (r.1 : Int) + 1) = ((u * r.1 + 1 : Nat) : Int) := by push_cast; rfl
    refine ⟨((u * r.1 + 1 : Nat) : Int), congrArg (fun z => [V.int z]) em, ?_, ?_, fun D nD => ?_⟩
    · exact Int.le_trans (by decide) (Int.natCast_nonneg _)
    · exact Int.lt_of_le_of_lt (show ((u * r.1 + 1 : Nat) : Int) ≤ 12001 by omega) (by decide)
    refine lc_range (lo := 0) (n := u * r.1 + 1) (fun i H' => Same H H' ∧ ∃ acc, H' D = some (.lst acc) ∧ acc.length = min i (cnt r u)) ⟨same_upd nD, [], upd_same, by simp⟩ ?_ ?_
    · rintro i H1 hi ⟨s1, acc, hD, la⟩
      have e0 : (0 : Int) + (i : Int) = (i : Int) := by omega
      rw [e0]
      have hp1 := s1 _ _ hp
      refine ⟨rfl, _, rfl, _, rfl, p, _, _, _, rfl, rfl, .inl (.inl hp1), rfl, _, _, rfl, rfl, cmul (by omega) (by omega), _, rfl, _, rfl, p, _, _, _, rfl, rfl, .inl (.inl hp1), rfl, _, _, rfl, rfl, cmul (by omega) (by omega), _, _, rfl, rfl, _, rfl, ?_⟩
      have ev : decide ((i : Int) * (r.2 : Int) < (u : Int) * (r.1 : Int)) = decide (i < cnt r u) := by
        rw [← Int.natCast_mul, ← Int.natCast_mul]
        exact decide_eq_decide.mpr ⟨fun h => (cnt_lt o1).mp (by omega), fun h => by have := (cnt_lt (r := r) (u := u) o1).mpr h; omega⟩
      rw [ev]
      by_cases h : i < cnt r u
      · rw [decide_eq_true h]
        refine iteT ⟨_, rfl, acc, hD, ?_, same_upd' s1 nD, _, upd_same, ?_⟩
        · exact Nat.lt_of_lt_of_le (show acc.length < 20000 by omega) (by decide)
        · rw [List.length_append, la]
          simp only [List.length_singleton]
          omega
      · rw [decide_eq_false h]
        exact iteF ⟨s1, acc, hD, by omega⟩
    · rintro H1 ⟨s1, acc, hD, la⟩
      have := cnt_le (r := r) (u := u) o1
      refine ⟨D, acc, rfl, .inl (.inl (.inl hD)), ?_⟩
      rw [la, Nat.min_eq_right (by omega)]
      exact k H1 s1
end
end K54

namespace K54
open PySem PySem.Spec PyProof.Rows L2 Hk NumM NumT SX
/-- whether all of a kind divide -/
def allDiv (f : Nat × Nat → Nat) (rs : Rts) (m : Nat) : List Bool := rs.map fun r => decide (m % f r = 0)
theorem allDiv_iff (f : Nat × Nat → Nat) (rs : Rts) (m : Nat) : (allDiv f rs m).all id = true ↔ lcmL (rs.map f) ∣ m := by
  unfold allDiv
  rw [List.all_map, List.all_eq_true]
  constructor
  · intro h
    refine lcmL_dvd fun x hx => ?_
    obtain ⟨r, hr, rfl⟩ := List.mem_map.mp hx
    exact Nat.dvd_of_mod_eq_zero (of_decide_eq_true (h r hr))
  · intro h r hr
    exact decide_eq_true (Nat.mod_eq_zero_of_dvd (Nat.dvd_trans (dvd_lcmL (List.mem_map.mpr ⟨r, hr, rfl⟩)) h))
section
variable {P : Program} {w : World} {K : Fr} {mg : Str → Option Value} {base : Heap}
def spTicks (K : Fr) : Sp := fun vs H Q _ => ∃ (a : Addr) (xs : List V) (rs : Rts), vs = [.ref a] ∧ SqL K H a xs ∧ RtT H xs rs ∧ (∀ r ∈ rs, ROk r) ∧ rs.length ≤ 12 ∧ ∀ H', Same H H' → Q (.int ((lcmL (rs.map (·.1)) : Nat) : Int)) H'
theorem c_ticks (T : Tx K mg) : Cal P w K mg base 1 "_law_ticks" (gAd "_law_ticks" K) ["_law_rates"] (spTicks K) := by
  refine cal_of (d := d_l_ticks) (N := ["_law_rates", "_law_found", "_law_top", "_law_bottom"]) (a_l_ticks T.c) rfl sc_l_ticks (g_l_ticks T) (fun _ _ _ _ _ _ us hl => match us, hl with | [_], _ => rfl) (fun vs H Q E h => ?_) (fun cdv A outer s H vs Q E hr h => ?_)
  · obtain ⟨a, xs, rs, rfl, _⟩ := h
    rfl
  · obtain ⟨a, xs, rs, rfl, hx, al, ok, n12, k⟩ := h
    refine ⟨_, (pss_cons (ps_set (i := 1) sc_l_ticks.nd rfl (.inr rfl) pe_int)
 (pss_cons (ps_while PassesOwn.never (pt_not (pt_val (pe_callB (cr_all rfl) (by rfl) (n_all T) bo_all (pa_cons (pe_lc (own := [("_law_top", 2), ("_law_bottom", 3)]) (g := gTup K 2 (gCons (gName 2) (gCons (gName 3) gNil))) (tt := tYes) rfl sc_l_ticks.nd (pi_list (pv 0)) (blkOk_by (N := ["_law_rates", "_law_found", "_law_top", "_law_bottom"]) (sc := defScope s_l_ticks) (by decide +kernel)) (fun _ _ _ _ _ => pg_tup (by rfl) (pgs_cons (pg_name (i := 2) sc_l_ticks.nd rfl (.inl rfl)) (pgs_cons (pg_name (i := 3) sc_l_ticks.nd rfl (.inl rfl)) pgs_nil))) (fun _ _ _ _ _ => pts_nil) (fun _ _ _ _ _ => (pe_cmpR op_eq (pe_op op_modN (pv 1) (pv 2)) pe_int (nomark _)))) pa_nil))))
 (pss_one (ps_set (i := 1) sc_l_ticks.nd rfl (.inr rfl) (pe_op op_add (pv 1) pe_int))))
 (pss_one (ps_ret (pv 1))))), ?_⟩
    have ok1 : ∀ x ∈ rs.map (·.1), 1 ≤ x ∧ x ≤ 12 := fun x hx => by
      obtain ⟨r, hr, rfl⟩ := List.mem_map.mp hx
      exact ⟨(ok r hr).t1, (ok r hr).t2⟩
    have l1 := lcmL_pos ok1
    have l2 := lcmL_le ok1
    obtain ⟨L, hL⟩ : ∃ L, L = lcmL (rs.map (·.1)) := ⟨_, rfl⟩
    rw [← hL] at l1 l2 k
    refine ⟨fun z σ H' => Same H H' ∧ ∃ m : Nat, 1 ≤ m ∧ m ≤ L ∧ z = L - m ∧ ∃ x2 x3 : Option V, σ = [some (.ref a), some (.int (m : Int)), x2, x3], ⟨_, Same.refl H, 1, Nat.le_refl 1, l1, rfl, none, none, rfl⟩, ?_⟩
    rintro z σ H1 ⟨s1, m, m1, m2, rfl, x2, x3, rfl⟩
    have hx1 := s1.seq hx
    refine ⟨_, rfl, a, rfl, ⟨_, hx1⟩, fun D nD => ?_⟩
    refine lc_list (a := a) (xs := xs) (fun i H' => Same H1 H' ∧ H' D = some (.lst ((allDiv (·.1) (rs.take i) m).map V.bl))) ⟨same_upd nD, upd_same⟩ (fun i H' _ h => h.1.seq hx1) ?_ ?_
    · rintro i x H2 hi ⟨s2, hD⟩
      obtain ⟨r, hr', p, rfl, hp⟩ := al.at hi
      have o := ok r (List.mem_of_getElem? hr')
      have o1 := o.t1
      have hp2 := s2 _ _ (s1 _ _ hp)
      refine ⟨p, _, rfl, .inl (.inl hp2), rfl, _, _, rfl, _, _, rfl, rfl, ?_⟩
      refine ⟨rfl, ?_⟩
      unfold tYes
      dsimp only
      rw [if_pos rfl]
      refine ⟨_, rfl, _, rfl, _, _, rfl, rfl, by omega, rfl, _, hD, ?_, same_upd' s2 nD, ?_⟩
      · rw [List.length_map]
        unfold allDiv
        rw [List.length_map, List.length_take]
        exact Nat.lt_of_lt_of_le (show min i rs.length < 13 by omega) (by decide)
      · rw [upd_same]
        unfold allDiv
        rw [List.take_add_one, hr', List.map_append, List.map_append]
        have ev : decide (V.int ((m : Int).fmod (r.1 : Int)) = V.int 0) = decide (m % r.1 = 0) := by
          rw [Int.fmod_eq_emod_of_nonneg _ (by omega), ← Int.natCast_emod]
          exact decide_eq_decide.mpr ⟨fun h => by have := V.int.inj h; omega, fun h => by rw [h]; rfl⟩
        show some (HO.lst (_ ++ [V.bl (decide (V.int ((m : Int).fmod (r.1 : Int)) = V.int 0))])) = _
        rw [ev]
        rfl
    · rintro H2 ⟨s2, hD⟩
      rw [al.1, List.take_length] at hD
      refine ⟨D, _, rfl, .inl (.inl hD), _, rfl, ?_⟩
      cases hv : (allDiv (·.1) rs m).all id with
      | true =>
        have hd := (allDiv_iff (·.1) rs m).mp hv
        rw [← hL] at hd
        have := Nat.le_of_dvd (by omega) hd
        have e : m = L := by omega
        subst e
        exact iteF ⟨_, rfl, k H2 (s1.trans s2)⟩
      | false =>
        have hne : m ≠ L := fun e => by
          have := (allDiv_iff (·.1) rs m).mpr (by rw [← hL, e]; exact Nat.dvd_refl _)
          rw [hv] at this
          cases this
        refine iteT ⟨fun σ' H' => Same H H' ∧ ∃ x2 x3 : Option V, σ' = [some (.ref a), some (.int ((m + 1 : Nat) : Int)), x2, x3], fun σ' H' h => ?_, ?_⟩
        · obtain ⟨h1, x2, x3, rfl⟩ := h
          exact ⟨L - (m + 1), by omega, h1, m + 1, by omega, by omega, rfl, x2, x3, rfl⟩
        · exact ⟨_, rfl, _, _, rfl, rfl, s1.trans s2, x2, x3, rfl⟩
end
end K54

/-! the pure machine -/
namespace K54
open PySem PySem.Spec PyProof.Rows L2 Hk NumM NumT SX
def dotQ : List Rat → List Rat → Rat
  | r :: rs, v :: vs => r * v + dotQ rs vs
  | [], _ => 0
  | _ :: _, [] => 0
theorem dotQ_nil (rs : List Rat) : dotQ rs [] = 0 := by cases rs <;> rfl
theorem dotQ_take (rs : List Rat) : ∀ (vs : List Rat) (i : Nat) (r v : Rat), rs[i]? = some r → vs[i]? = some v → dotQ (rs.take (i + 1)) (vs.take (i + 1)) = dotQ (rs.take i) (vs.take i) + r * v := by
  induction rs with
  | nil => intro vs i r v h; simp at h
  | cons a rs ih =>
    intro vs i r v h g
    cases vs with
    | nil => simp at g
    | cons b vs =>
      cases i with
      | zero =>
        cases h
        cases g
        simp [dotQ]
        grind
      | succ i =>
        have e := ih vs i r v (by simpa using h) (by simpa using g)
        simp only [List.take_succ_cons, dotQ] at e ⊢
        rw [e]
        grind
theorem dotQ_full (rs : List Rat) : ∀ (vs : List Rat), dotQ (rs.take (min rs.length vs.length)) (vs.take (min rs.length vs.length)) = dotQ rs vs := by
  induction rs with
  | nil => intro vs; simp [dotQ]
  | cons a rs ih =>
    intro vs
    cases vs with
    | nil => simp [dotQ]
    | cons b vs =>
      have e : min (a :: rs).length (b :: vs).length = min rs.length vs.length + 1 := by simp only [List.length_cons]; omega
      rw [e]
      simp only [List.take_succ_cons, dotQ]
      rw [ih vs]
/-- the products of two rows, of one denominator -/
def PrB (d B : Nat) (rs vs : List Rat) : Prop := ∀ (i : Nat) (r v : Rat), rs[i]? = some r → vs[i]? = some v → Bnd d B (r * v)
theorem dotQ_bnd {d B : Nat} (hd : d ≠ 0) (rs : List Rat) : ∀ (vs : List Rat), PrB d B rs vs → Bnd d (rs.length * B) (dotQ rs vs) := by
  induction rs with
  | nil => intro vs _; exact (Bnd.zero d).le (Nat.zero_le _)
  | cons a rs ih =>
    intro vs h
    cases vs with
    | nil => exact (Bnd.zero d).le (Nat.zero_le _)
    | cons b vs =>
      have h1 := h 0 a b rfl rfl
      have h2 := ih vs fun i r v e f => h (i + 1) r v (by simpa using e) (by simpa using f)
      refine (h1.add hd h2).le ?_
      rw [List.length_cons, Nat.add_mul, Nat.one_mul]
      omega
theorem dotQ_take_bnd {d B : Nat} (hd : d ≠ 0) (rs vs : List Rat) (h : PrB d B rs vs) (i : Nat) : Bnd d (rs.length * B) (dotQ (rs.take i) (vs.take i)) := by
  refine (dotQ_bnd (B := B) hd (rs.take i) (vs.take i) fun j r v e f => ?_).le ?_
  · rw [List.getElem?_take] at e f
    split at e
    · rename_i hj
      rw [if_pos hj] at f
      exact h j r v e f
    · cases e
  · exact Nat.mul_le_mul_right _ (by rw [List.length_take]; omega)
/-- one row of sums for each row of two tables -/
def stepV (G T : Table) (kept read : List Rat) : List Rat := List.zipWith (fun g h => dotQ g kept + dotQ h read) G T
theorem stepV_len (G T : Table) (kept read : List Rat) : (stepV G T kept read).length = min G.length T.length := by simp [stepV]
theorem stepV_get {G T : Table} {kept read : List Rat} {i : Nat} {g t : List Rat} (h1 : G[i]? = some g) (h2 : T[i]? = some t) : (stepV G T kept read)[i]? = some (dotQ g kept + dotQ t read) := by
  unfold stepV
  rw [List.getElem?_zipWith, h1, h2]
/-- what is shown, at the end of the rows of these numbers -/
def putAll : List (List Rat) → List Nat → List Rat → List (List Rat)
  | o, i :: is, v :: vs => putAll (o.modify i fun l => l ++ [v]) is vs
  | o, [], _ => o
  | o, _ :: _, [] => o
theorem putAll_len (is : List Nat) : ∀ (o : List (List Rat)) (vs : List Rat), (putAll o is vs).length = o.length := by
  induction is with
  | nil => intro o vs; rfl
  | cons i is ih =>
    intro o vs
    cases vs with
    | nil => rfl
    | cons v vs => rw [putAll, ih, List.length_modify]
theorem putAll_snoc (is : List Nat) : ∀ (o : List (List Rat)) (vs : List Rat) (i : Nat) (v : Rat), is.length = vs.length → putAll o (is ++ [i]) (vs ++ [v]) = (putAll o is vs).modify i fun l => l ++ [v] := by
  induction is with
  | nil =>
    intro o vs i v h
    cases vs with
    | nil => rfl
    | cons _ _ => cases h
  | cons j is ih =>
    intro o vs i v h
    cases vs with
    | nil => cases h
    | cons u vs => exact ih _ _ _ _ (by simpa using h)
/-! the run -/
structure Mac where
  ins : Rts
  outs : Rts
  steps : List (List Table)
def Mac.all (m : Mac) : Rts := m.ins ++ m.outs
def Mac.per (m : Mac) : Nat := lcmL (m.all.map (·.1))
def Mac.tab (m : Mac) (t j : Nat) : Table := (m.steps.getD (t % m.steps.length) []).getD j []
/-- how many numbers are kept before the step of this number -/
def Mac.size (m : Mac) (t : Nat) : Nat := ((m.steps.getD ((t + m.steps.length - 1) % m.steps.length) []).getD 0 []).length
def idx (r : Nat × Nat) (per t : Nat) : Nat := t * r.1 / (per * r.2)
def rateAt (R : Rts) (i : Nat) : Nat × Nat := R.getD i (1, 1)
def Mac.rd (m : Mac) (rows : List (List Rat)) (t : Nat) : List Rat := (dueL m.ins m.per t).map fun i => (rows.getD i []).getD (idx (rateAt m.ins i) m.per t) 0
def Mac.kept (m : Mac) (rows : List (List Rat)) : Nat → List Rat
  | 0 => List.replicate (m.size 0) 0
  | t + 1 => stepV (m.tab t 0) (m.tab t 1) (m.kept rows t) (m.rd rows t)
def Mac.vals (m : Mac) (rows : List (List Rat)) (t : Nat) : List Rat := stepV (m.tab t 2) (m.tab t 3) (m.kept rows t) (m.rd rows t)
def Mac.shown (m : Mac) (rows : List (List Rat)) : Nat → List (List Rat)
  | 0 => m.outs.map fun _ => []
  | t + 1 => putAll (m.shown rows t) (dueL m.outs m.per t) (m.vals rows t)
theorem Mac.shown_len (m : Mac) (rows : List (List Rat)) : ∀ t, (m.shown rows t).length = m.outs.length
  | 0 => by simp [Mac.shown]
  | t + 1 => by rw [Mac.shown, putAll_len, Mac.shown_len m rows t]
/-- a machine as the document has it -/
structure Wf (m : Mac) : Prop where
  i1 : 1 ≤ m.ins.length
  i2 : m.ins.length ≤ 6
  o1 : 1 ≤ m.outs.length
  o2 : m.outs.length ≤ 6
  ok : ∀ r ∈ m.all, ROk r
  l1 : 1 ≤ m.steps.length
  l2 : m.steps.length ≤ 1000
  dv : m.per * lcmL (m.all.map (·.2)) ∣ m.steps.length
  four : ∀ s ∈ m.steps, s.length = 4
  hs : ∀ t, t < m.steps.length → m.size t ≤ 6
  h0 : ∀ t, t < m.steps.length → (m.tab t 0).length = m.size (t + 1)
  h1 : ∀ t, t < m.steps.length → (m.tab t 1).length = (m.tab t 0).length
  h2 : ∀ t, t < m.steps.length → (m.tab t 2).length = (dueL m.outs m.per t).length
  h3 : ∀ t, t < m.steps.length → (m.tab t 3).length = (dueL m.outs m.per t).length
  r0 : ∀ t, t < m.steps.length → ∀ r ∈ m.tab t 0 ++ m.tab t 2, r.length = m.size t
  r1 : ∀ t, t < m.steps.length → ∀ r ∈ m.tab t 1 ++ m.tab t 3, r.length = (dueL m.ins m.per t).length
  g : ∀ s ∈ m.steps, ∀ u ∈ s, ∀ r ∈ u, ∀ q ∈ r, Bnd 6 18 q

theorem stand_mod {r : Nat × Nat} {per L t : Nat} (h : per * r.2 ∣ L) : stand r per (t % L) = stand r per t := by
  unfold stand
  have e : t * r.1 % (per * r.2) = (t % L) * r.1 % (per * r.2) := by
    conv => lhs; rw [← Nat.mod_add_div t L]
    rw [Nat.add_mul, Nat.mul_assoc, Nat.add_mod, Nat.mod_eq_zero_of_dvd (Nat.dvd_trans h (Nat.dvd_mul_right L _)), Nat.add_zero, Nat.mod_mod]
  rw [e]
theorem dueN_mod {rs : Rts} {per L t : Nat} (h : ∀ r ∈ rs, per * r.2 ∣ L) : ∀ n, dueN rs per (t % L) n = dueN rs per t n
  | 0 => rfl
  | n + 1 => by
    rw [dueN, dueN, dueN_mod h n]
    cases e : rs[n]? with
    | none => rfl
    | some r =>
      dsimp only
      rw [stand_mod (h r (List.mem_of_getElem? e))]
variable {m : Mac}
theorem Wf.per_dv (w : Wf m) {r : Nat × Nat} (h : r ∈ m.all) : m.per * r.2 ∣ m.steps.length := Nat.dvd_trans (Nat.mul_dvd_mul_left _ (dvd_lcmL (List.mem_map.mpr ⟨r, h, rfl⟩))) w.dv
theorem Wf.top_dv {r : Nat × Nat} (h : r ∈ m.all) : r.1 ∣ m.per := dvd_lcmL (List.mem_map.mpr ⟨r, h, rfl⟩)
theorem Wf.okI (w : Wf m) : ∀ r ∈ m.ins, ROk r := fun r h => w.ok r (List.mem_append_left _ h)
theorem Wf.okO (w : Wf m) : ∀ r ∈ m.outs, ROk r := fun r h => w.ok r (List.mem_append_right _ h)
theorem Wf.tops (w : Wf m) : ∀ x ∈ m.all.map (·.1), 1 ≤ x ∧ x ≤ 12 := fun x hx => by
  obtain ⟨r, hr, rfl⟩ := List.mem_map.mp hx
  exact ⟨(w.ok r hr).t1, (w.ok r hr).t2⟩
theorem Wf.p1 (w : Wf m) : 1 ≤ m.per := lcmL_pos w.tops
theorem Wf.p2 (w : Wf m) : m.per ≤ 27720 := lcmL_le w.tops
theorem Wf.dueI (w : Wf m) (t : Nat) : dueL m.ins m.per (t % m.steps.length) = dueL m.ins m.per t := dueN_mod (fun r h => w.per_dv (List.mem_append_left _ h)) _
theorem Wf.dueO (w : Wf m) (t : Nat) : dueL m.outs m.per (t % m.steps.length) = dueL m.outs m.per t := dueN_mod (fun r h => w.per_dv (List.mem_append_right _ h)) _
theorem Mac.tab_mod (m : Mac) (t j : Nat) : m.tab (t % m.steps.length) j = m.tab t j := by
  unfold Mac.tab
  rw [Nat.mod_mod]
theorem Mac.size_mod (m : Mac) (h : 1 ≤ m.steps.length) (t : Nat) : m.size (t % m.steps.length) = m.size t := by
  unfold Mac.size
  have e : (t % m.steps.length + m.steps.length - 1) % m.steps.length = (t + m.steps.length - 1) % m.steps.length := by
    rw [show t % m.steps.length + m.steps.length - 1 = t % m.steps.length + (m.steps.length - 1) by omega, show t + m.steps.length - 1 = t + (m.steps.length - 1) by omega, Nat.mod_add_mod]
  rw [e]
theorem Wf.lt (w : Wf m) (t : Nat) : t % m.steps.length < m.steps.length := Nat.mod_lt _ w.l1
theorem Mac.size_succ (m : Mac) (h : 1 ≤ m.steps.length) (t : Nat) : m.size (t + 1) = (m.tab t 0).length := by
  unfold Mac.size Mac.tab
  rw [show t + 1 + m.steps.length - 1 = t + m.steps.length by omega, Nat.add_mod_right]
theorem Wf.kept_len (w : Wf m) (rows : List (List Rat)) : ∀ t, (m.kept rows t).length = m.size t
  | 0 => by simp [Mac.kept]
  | t + 1 => by
    rw [Mac.kept, stepV_len, m.size_succ w.l1, ← m.tab_mod t 1, ← m.tab_mod t 0, w.h1 _ (w.lt t), Nat.min_self]
theorem Mac.rd_len (m : Mac) (rows : List (List Rat)) (t : Nat) : (m.rd rows t).length = (dueL m.ins m.per t).length := by simp [Mac.rd]
theorem Wf.tab_in (w : Wf m) {t j : Nat} {r : List Rat} (h : r ∈ m.tab t j) : ∀ q ∈ r, Bnd 6 18 q := by
  unfold Mac.tab at h
  have e1 : m.steps[t % m.steps.length]? = some (m.steps[t % m.steps.length]'(w.lt t)) := List.getElem?_eq_getElem _
  rw [List.getD_eq_getElem?_getD (l := m.steps), e1, Option.getD_some] at h
  generalize hs : m.steps[t % m.steps.length]'(w.lt t) = s at h
  have hm : s ∈ m.steps := by rw [← hs]; exact List.getElem_mem _
  rw [List.getD_eq_getElem?_getD] at h
  cases e : s[j]? with
  | none => rw [e] at h; exact absurd h (by simp)
  | some u =>
    rw [e, Option.getD_some] at h
    exact w.g s hm u (List.mem_of_getElem? e) r h
/-- the sizes of numbers at a tick -/
def bK (t : Nat) : Nat := 1100 * 150 ^ t
def dK (t : Nat) : Nat := 6 ^ (t + 2)
theorem dK_pos (t : Nat) : dK t ≠ 0 := Nat.pos_iff_ne_zero.mp (Nat.pow_pos (by decide))
theorem dK_succ (t : Nat) : 6 * dK t = dK (t + 1) := by
  unfold dK
  rw [show t + 1 + 2 = (t + 2) + 1 by omega, Nat.pow_succ 6 (t + 2), Nat.mul_comm]
theorem bK_big (t : Nat) : 1100 * 6 ^ t ≤ bK t := Nat.mul_le_mul_left _ (Nat.pow_le_pow_left (by decide) t)
theorem bK_sum (t : Nat) : 6 * (18 * bK t) + 6 * (1188 * 6 ^ (t + 1)) ≤ bK (t + 1) := by
  have h := bK_big t
  have e : bK (t + 1) = 150 * bK t := by
    unfold bK
    rw [Nat.pow_succ]
    omega
  rw [e, Nat.pow_succ]
  omega
/-- a product of a gain and a kept number; of a gain and a sample -/
theorem bnd_gk {t : Nat} {g q : Rat} (h : Bnd 6 18 g) (k : Bnd (dK t) (bK t) q) : Bnd (dK (t + 1)) (18 * bK t) (g * q) := by
  have := h.mul k
  rw [dK_succ] at this
  exact this
theorem bnd_gr {t : Nat} {g q : Rat} (h : Bnd 6 18 g) (k : Bnd 6 66 q) : Bnd (dK (t + 1)) (1188 * 6 ^ (t + 1)) (g * q) := by
  have h1 := (h.mul k).up (6 ^ (t + 1)) (Nat.pos_iff_ne_zero.mp (Nat.pow_pos (by decide))) (by decide)
  have e : 6 * 6 * 6 ^ (t + 1) = dK (t + 1) := by
    unfold dK
    rw [show t + 1 + 2 = (t + 1) + 1 + 1 by omega, Nat.pow_succ 6 (t + 1 + 1), Nat.pow_succ 6 (t + 1)]
    omega
  rw [e] at h1
  exact h1
theorem prB_k {t : Nat} {g : List Rat} {kept : List Rat} (hg : ∀ q ∈ g, Bnd 6 18 q) (hk : ∀ q ∈ kept, Bnd (dK t) (bK t) q) : PrB (dK (t + 1)) (18 * bK t) g kept := fun i r v e f => bnd_gk (hg r (List.mem_of_getElem? e)) (hk v (List.mem_of_getElem? f))
theorem prB_r {t : Nat} {g : List Rat} {read : List Rat} (hg : ∀ q ∈ g, Bnd 6 18 q) (hk : ∀ q ∈ read, Bnd 6 66 q) : PrB (dK (t + 1)) (1188 * 6 ^ (t + 1)) g read := fun i r v e f => bnd_gr (hg r (List.mem_of_getElem? e)) (hk v (List.mem_of_getElem? f))
theorem stepV_bnd {t : Nat} {G T : Table} {kept read : List Rat} (hG : ∀ r ∈ G, r.length ≤ 6 ∧ ∀ q ∈ r, Bnd 6 18 q) (hT : ∀ r ∈ T, r.length ≤ 6 ∧ ∀ q ∈ r, Bnd 6 18 q) (hk : ∀ q ∈ kept, Bnd (dK t) (bK t) q) (hr : ∀ q ∈ read, Bnd 6 66 q) : ∀ q ∈ stepV G T kept read, Bnd (dK (t + 1)) (bK (t + 1)) q := by
  intro q hq
  obtain ⟨i, hi⟩ := List.mem_iff_getElem?.mp hq
  unfold stepV at hi
  rw [List.getElem?_zipWith] at hi
  cases e1 : G[i]? with
  | none => rw [e1] at hi; simp at hi
  | some g =>
    cases e2 : T[i]? with
    | none => rw [e1, e2] at hi; simp at hi
    | some u =>
      rw [e1, e2] at hi
      cases hi
      obtain ⟨l1, b1⟩ := hG g (List.mem_of_getElem? e1)
      obtain ⟨l2, b2⟩ := hT u (List.mem_of_getElem? e2)
      have h1 := dotQ_bnd (dK_pos (t + 1)) g kept (prB_k b1 hk)
      have h2 := dotQ_bnd (dK_pos (t + 1)) u read (prB_r b2 hr)
      refine (h1.add (dK_pos _) h2).le (Nat.le_trans ?_ (bK_sum t))
      exact Nat.add_le_add (Nat.mul_le_mul_right _ l1) (Nat.mul_le_mul_right _ l2)
theorem Wf.row_le (w : Wf m) (t : Nat) : (∀ r ∈ m.tab t 0 ++ m.tab t 2, r.length = m.size t ∧ r.length ≤ 6) ∧ (∀ r ∈ m.tab t 1 ++ m.tab t 3, r.length = (dueL m.ins m.per t).length ∧ r.length ≤ 6) := by
  have lt := w.lt t
  constructor
  · intro r hr
    rw [← m.tab_mod t 0, ← m.tab_mod t 2] at hr
    have := w.r0 _ lt r hr
    have h2 := w.hs _ lt
    rw [m.size_mod w.l1] at this h2
    exact ⟨this, by omega⟩
  · intro r hr
    rw [← m.tab_mod t 1, ← m.tab_mod t 3] at hr
    have h1 := w.r1 _ lt r hr
    rw [w.dueI] at h1
    have h2 : (dueL m.ins m.per t).length ≤ m.ins.length := dueN_le m.ins m.per t m.ins.length
    have h3 := w.i2
    exact ⟨h1, by omega⟩
theorem Wf.tabs (w : Wf m) (t : Nat) : (∀ r ∈ m.tab t 0, r.length ≤ 6 ∧ ∀ q ∈ r, Bnd 6 18 q) ∧ (∀ r ∈ m.tab t 1, r.length ≤ 6 ∧ ∀ q ∈ r, Bnd 6 18 q) ∧ (∀ r ∈ m.tab t 2, r.length ≤ 6 ∧ ∀ q ∈ r, Bnd 6 18 q) ∧ (∀ r ∈ m.tab t 3, r.length ≤ 6 ∧ ∀ q ∈ r, Bnd 6 18 q) := by
  obtain ⟨a, b⟩ := w.row_le t
  exact ⟨fun r h => ⟨(a r (List.mem_append_left _ h)).2, w.tab_in h⟩, fun r h => ⟨(b r (List.mem_append_left _ h)).2, w.tab_in h⟩, fun r h => ⟨(a r (List.mem_append_right _ h)).2, w.tab_in h⟩, fun r h => ⟨(b r (List.mem_append_right _ h)).2, w.tab_in h⟩⟩
/-- the samples that are given -/
def RowsB (rows : List (List Rat)) : Prop := ∀ r ∈ rows, ∀ q ∈ r, Bnd 6 66 q
theorem rd_bnd {rows : List (List Rat)} (h : RowsB rows) (t : Nat) : ∀ q ∈ m.rd rows t, Bnd 6 66 q := by
  intro q hq
  unfold Mac.rd at hq
  obtain ⟨i, _, rfl⟩ := List.mem_map.mp hq
  rw [List.getD_eq_getElem?_getD (l := rows)]
  cases e : rows[i]? with
  | none => simp; exact (Bnd.zero 6).le (by decide)
  | some r =>
    rw [Option.getD_some, List.getD_eq_getElem?_getD]
    cases f : r[idx (rateAt m.ins i) m.per t]? with
    | none => exact (Bnd.zero 6).le (by decide)
    | some q => exact h r (List.mem_of_getElem? e) q (List.mem_of_getElem? f)
theorem Wf.kept_bnd (w : Wf m) {rows : List (List Rat)} (h : RowsB rows) : ∀ t, ∀ q ∈ m.kept rows t, Bnd (dK t) (bK t) q
  | 0 => fun q hq => by
    rw [Mac.kept] at hq
    rw [(List.mem_replicate.mp hq).2]
    exact (Bnd.zero _).le (Nat.zero_le _)
  | t + 1 => by
    rw [Mac.kept]
    exact stepV_bnd (w.tabs t).1 (w.tabs t).2.1 (w.kept_bnd h t) (rd_bnd h t)
theorem Wf.vals_bnd (w : Wf m) {rows : List (List Rat)} (h : RowsB rows) (t : Nat) : ∀ q ∈ m.vals rows t, Bnd (dK (t + 1)) (bK (t + 1)) q := stepV_bnd (w.tabs t).2.2.1 (w.tabs t).2.2.2 (w.kept_bnd h t) (rd_bnd h t)
/-- small enough, to the last tick -/
theorem bK_sm {t : Nat} (h : t ≤ 55) : bK t < 2 ^ 450 ∧ dK t < 2 ^ 450 := by
  have h1 : bK t ≤ bK 55 := Nat.mul_le_mul_left _ (Nat.pow_le_pow_right (by decide) h)
  have h2 : dK t ≤ dK 55 := Nat.pow_le_pow_right (by decide) (by omega)
  exact ⟨Nat.lt_of_le_of_lt h1 (by decide +kernel), Nat.lt_of_le_of_lt h2 (by decide +kernel)⟩
end K54

/-! zip of two or three, each a list or a tuple (a Bool tells which: true, a tuple). -/
namespace Hz
open PySem PySem.Spec PyProof.Rows L2
def ItB : Bool → Heap → Addr → Addr → Nat → Prop
  | false, h, it, l, i => h.IsListIter it l i
  | true, h, it, l, i => h.IsTupleIter it l i
def SeB : Bool → Heap → Addr → Array Value → Prop
  | false, h, l, its => h.IsList l its
  | true, h, l, its => h.IsTuple l its
def obB (b : Bool) (l : Addr) : Obj := { cls := .type (if b then "tuple_iterator" else "list_iterator"), data := .fields #[.ref l, .int 0 0] }
def SqB (K : PySem.W.Frag) : Bool → Hp → Addr → List V → Prop
  | false, H, a, xs => SqL K H a xs
  | true, H, a, xs => SqT K H a xs
theorem draws_b {prog : Program} {w : World} {A : Around} (hh : A.handled = none) (b : Bool) (it l : Addr) (hne : l ≠ it) (items : Array Value) :
    Draws prog w A it [it, l] items.size (fun i v => items[i]? = some v) (fun i h => ItB b h it l i ∧ SeB b h l items) := by
  cases b
  · exact Draws.list hh it l hne items
  · exact Draws.tuple hh it l hne items
theorem begins_b (b : Bool) (l : Addr) (items : Array Value) : Begins (.ref l) (obB b l) fun h => SeB b h l items := by
  cases b
  · exact begins_list l items
  · exact begins_tuple l items
theorem ItB.at {b : Bool} {h h' : Heap} {it l : Addr} {i : Nat} (x : ItB b h it l i) (k : ∀ o, h.get? it = some o → h'.get? it = some o) : ItB b h' it l i := by
  cases b
  · exact Heap.IsListIter.at x k
  · exact Heap.IsTupleIter.at x k
theorem ItB.ob {b : Bool} {h : Heap} {it l : Addr} {i : Nat} (x : ItB b h it l i) : ∃ o, h.get? it = some o ∧ ∀ es ep, o.data ≠ .dict es ep := by
  cases b
  · obtain ⟨o, h1, _, h2⟩ := x
    exact ⟨o, h1, fun _ _ q => by rw [h2] at q; cases q⟩
  · obtain ⟨o, h1, _, h2⟩ := x
    exact ⟨o, h1, fun _ _ q => by rw [h2] at q; cases q⟩
theorem ItB.new {b : Bool} {h : Heap} {it l : Addr} (e : h.get? it = some (obB b l)) : ItB b h it l 0 := by
  cases b
  · exact ⟨_, e, rfl, rfl⟩
  · exact ⟨_, e, rfl, rfl⟩
theorem SqB.inj {X : Cx} {pins : List (Addr × Obj)} {σ : L2.St} {H : Hp} {s : Shared} (I : Inv X pins σ H s) {b : Bool} {a : Addr} {xs ys : List V} (h1 : SqB X.K b H a xs) (h2 : SqB X.K b H a ys) : xs = ys := by
  cases b
  · exact I.list_inj h1 h2
  · exact I.tuple_inj h1 h2
theorem SqB.get {X : Cx} {pins : List (Addr × Obj)} {σ : L2.St} {H : Hp} {s : Shared} (I : Inv X pins σ H s) {b : Bool} {a : Addr} {xs : List V} (h : SqB X.K b H a xs) : ∃ its, Vals xs its ∧ SeB b s.heap a its.toArray ∧ a < s.heap.objs.size := by
  cases b
  · obtain ⟨its, rv, p, _⟩ := I.list h
    exact ⟨its, rv, p.isList, p.lt⟩
  · obtain ⟨its, rv, p, _⟩ := I.tuple h
    obtain ⟨o, ho, _⟩ := id p
    exact ⟨its, rv, p, Heap.lt_size ho⟩
end Hz
namespace Hz
open PySem PySem.Spec PyProof.Rows L2
/-! two -/
def Itz2 (K : PySem.W.Frag) (b1 b2 : Bool) (a b : Addr) : It :=
  ⟨fun i H => ∃ (xs ys : List V) (x y : V), SqB K b1 H a xs ∧ SqB K b2 H b ys ∧ xs[i]? = some x ∧ ys[i]? = some y,
    fun i H v H' => ∃ T x y, v = .ref T ∧ H T = none ∧ H' = upd H T (.tup [x, y]) ∧ (∀ xs, SqB K b1 H a xs → xs[i]? = some x) ∧ ∀ ys, SqB K b2 H b ys → ys[i]? = some y,
    fun i H => ∃ xs ys : List V, SqB K b1 H a xs ∧ SqB K b2 H b ys ∧ i ≤ xs.length ∧ i ≤ ys.length ∧ (i = xs.length ∨ i = ys.length)⟩
abbrev tn2 (b1 b2 : Bool) (a b z TI TO i1 i2 : Addr) : Nat → Heap → Prop := fun i h => IsZip h z TI TO .none ∧ IsTupOf2 h TI (.ref i1) (.ref i2) ∧ (∃ x y, IsTupOf2 h TO x y) ∧ ItB b1 h i1 a i ∧ ItB b2 h i2 b i
theorem turn_zip2 {P : Program} {w : World} {K : PySem.W.Frag} {elts : List Expr} {kk : Nat} {tpos : Pos} {b1 b2 : Bool} {a b z TI TO i1 i2 : Addr} (S : ZipSep2 z TI TO i1 i2 [i1, a] [i2, b]) :
    Turn P w K (.Tuple elts kk tpos) (Itz2 K b1 b2 a b) [z, TI, TO, i1, i2] z (tn2 b1 b2 a b z TI TO i1 i2) where
  mem := by simp
  obj := fun i h st c hc => by
    obtain ⟨hz, hTI, ⟨x, y, hTO⟩, h1, h2⟩ := st
    have e' : c = z ∨ c = TI ∨ c = TO ∨ c = i1 ∨ c = i2 := by simpa using hc
    rcases e' with q | q | q | q | q
    · rw [q]; exact ⟨_, hz, fun v q => nomatch q⟩
    · rw [q]; exact ⟨_, hTI, fun v q => nomatch q⟩
    · rw [q]; exact ⟨_, hTO, fun v q => nomatch q⟩
    · rw [q]; cases b1 <;> (obtain ⟨o1, e1, _, d1⟩ := h1; exact ⟨o1, e1, fun v q => by rw [d1] at q; cases q⟩)
    · rw [q]; cases b2 <;> (obtain ⟨o1, e1, _, d1⟩ := h2; exact ⟨o1, e1, fun v q => by rw [d1] at q; cases q⟩)
  keep := fun i h h' st k => by
    obtain ⟨hz, hTI, ⟨x, y, hTO⟩, h1, h2⟩ := st
    exact ⟨k z (by simp) _ hz, k TI (by simp) _ hTI, ⟨x, y, k TO (by simp) _ hTO⟩, h1.at fun o q => k i1 (by simp) o q, h2.at fun o q => k i2 (by simp) o q⟩
  item := by
    intro X hP hw hK hc i pins s σ H E I hf st hg
    subst hP hw hK
    obtain ⟨hz, hTI, ⟨x0, y0, hTO⟩, h1, h2⟩ := st
    obtain ⟨xs, ys, x, y, hqx, hqy, hx, hy⟩ := hg
    obtain ⟨its, rv, p, _⟩ := hqx.get I
    obtain ⟨its2, rv2, p2, _⟩ := hqy.get I
    obtain ⟨u, hu, ru⟩ := rv.get hx
    obtain ⟨u2, hu2, ru2⟩ := rv2.get hy
    have hzl : z < s.heap.objs.size := Heap.lt_size hz
    have ne1 : a ≠ i1 := fun e => by
      subst e
      cases b1 <;> (obtain ⟨o, q1, q2, q3⟩ := h1; obtain ⟨o', r1, r2, r3⟩ := p; rw [q1] at r1; cases r1; rw [q2] at r2; simp at r2)
    have ne2 : b ≠ i2 := fun e => by
      subst e
      cases b2 <;> (obtain ⟨o, q1, q2, q3⟩ := h2; obtain ⟨o', r1, r2, r3⟩ := p2; rw [q1] at r1; cases r1; rw [q2] at r2; simp at r2)
    have l1 := (List.getElem?_eq_some_iff.mp hu).1
    have l2 := (List.getElem?_eq_some_iff.mp hu2).1
    refine wpAny_pyNext_zipD2_item S (draws_b (A := X.A.in1) (I.ok.hd hc) b1 i1 a ne1 its.toArray) (draws_b (A := X.A.in1) (I.ok.hd hc) b2 i2 b ne2 its2.toArray) hz hTI hTO ⟨h1, p⟩ ⟨h2, p2⟩ (by simpa using l1) (by simpa using l2) fun x1 x2 h' tk e1 e2 z' TO' st1' st2' hT hsz hk => ?_
    have ev1 : x1 = u := by
      have : its[i]? = some x1 := by simpa using e1
      rw [hu] at this
      exact (Option.some.inj this).symm
    have ev2 : x2 = u2 := by
      have : its2[i]? = some x2 := by simpa using e2
      rw [hu2] at this
      exact (Option.some.inj this).symm
    subst ev1 ev2
    refine ⟨_, rfl, wpAny_letOwnedTupleGo_zip (s := { s with heap := h', toks := tk }) z' fun h'' z'' sb => ?_⟩
    have hT2 : h''.get? s.heap.objs.size = some { cls := .type "tuple", data := .seq #[x1, x2] } := (sb.2 _ (Nat.ne_of_gt hzl)).trans hT
    have new : ObjOk X.prog X.w (upd H s.heap.objs.size (.tup [x, y])) h'' s.heap.objs.size (.tup [x, y]) :=
      ⟨by show 2 ≤ sizeLine; decide, [x1, x2], .cons ru (.cons ru2 .nil), ⟨_, hT2, rfl, _, rfl⟩⟩
    have I1 : Inv X pins σ (upd H s.heap.objs.size (.tup [x, y])) { s with heap := h'', toks := tk } :=
      I.turnedNew (t' := tk) (ch := [z, TI, TO, i1, i2]) (fun c o hb q => (sb.2 c (fun q' => hb (by simp [q']))).trans (hk c o (fun q' => hb (by simp [q'])) (fun q' => hb (by simp [q'])) (fun q' => hb (by simp [q'])) (fun q' => hb (by simp [q'])) q)) hf (Nat.le_refl _) new
    have i1z : i1 ≠ z := S.zi1.symm
    have i2z : i2 ≠ z := S.zi2.symm
    refine ⟨.ref s.heap.objs.size, _, I1, rfl, ⟨_, x, y, rfl, I.hok.fresh (Nat.le_refl _), rfl, fun l hl => by rw [SqB.inj I hl hqx]; exact hx, fun l hl => by rw [SqB.inj I hl hqy]; exact hy⟩, ⟨z'', ?_, ⟨x1, x2, ?_⟩, ?_, ?_⟩, fun c hcm => ?_⟩
    · exact (sb.2 _ S.TIz).trans (hk _ _ S.TIz S.TITO S.TIi1 S.TIi2 hTI)
    · exact (sb.2 _ S.TOz).trans TO'
    · exact st1'.1.at fun o q => (sb.2 _ i1z).trans q
    · exact st2'.1.at fun o q => (sb.2 _ i2z).trans q
    · have hlt : c < s.heap.objs.size := by
        have e' : c = z ∨ c = TI ∨ c = TO ∨ c = i1 ∨ c = i2 := by simpa using hcm
        rcases e' with q | q | q | q | q
        · rw [q]; exact hzl
        · rw [q]; exact Heap.lt_size hTI
        · rw [q]; exact Heap.lt_size hTO
        · rw [q]; obtain ⟨_, e1, _⟩ := h1.ob; exact Heap.lt_size e1
        · rw [q]; obtain ⟨_, e1, _⟩ := h2.ob; exact Heap.lt_size e1
      rw [upd_ne (Nat.ne_of_lt hlt)]
      exact (hf c hcm).1
  done := by
    intro X hP hw hK hc i pins s σ H E I hf st hg
    subst hP hw hK
    obtain ⟨hz, hTI, ⟨x0, y0, hTO⟩, h1, h2⟩ := st
    obtain ⟨xs, ys, hqx, hqy, le1, le2, hend⟩ := hg
    obtain ⟨its, rv, p, _⟩ := hqx.get I
    obtain ⟨its2, rv2, p2, _⟩ := hqy.get I
    have l1 := rv.length
    have l2 := rv2.length
    have ne1 : a ≠ i1 := fun e => by
      subst e
      cases b1 <;> (obtain ⟨o, q1, q2, q3⟩ := h1; obtain ⟨o', r1, r2, r3⟩ := p; rw [q1] at r1; cases r1; rw [q2] at r2; simp at r2)
    have ne2 : b ≠ i2 := fun e => by
      subst e
      cases b2 <;> (obtain ⟨o, q1, q2, q3⟩ := h2; obtain ⟨o', r1, r2, r3⟩ := p2; rw [q1] at r1; cases r1; rw [q2] at r2; simp at r2)
    refine wpAny_pyNext_zipD2_end S (draws_b (A := X.A.in1) (I.ok.hd hc) b1 i1 a ne1 its.toArray) (draws_b (A := X.A.in1) (I.ok.hd hc) b2 i2 b ne2 its2.toArray) hz hTI hTO ⟨h1, p⟩ ⟨h2, p2⟩ (by simp; omega) (by simp; omega) (by simp; omega) fun h' tk hk => ⟨rfl, I.turnedL (t' := tk) (ch := [z, TI, TO, i1, i2]) (fun c o hb q =>
      hk c o (fun q' => hb (by simp [q'])) (fun q' => hb (by simp [q'])) (fun q' => hb (by simp [q'])) (fun q' => hb (by simp [q'])) q) hf⟩
  self := fun A i s Q E st h => wpAny_pyIter_zip st.1 h
def iZip2 (K : PySem.W.Frag) (b1 b2 : Bool) (ta : TA) : TI := fun σ H R => ta σ H fun vs H1 => ∃ a b xs ys, vs = [.ref a, .ref b] ∧ SqB K b1 H1 a xs ∧ SqB K b2 H1 b ys ∧ R (Itz2 K b1 b2 a b) H1
theorem pi_zip2 (b1 b2 : Bool) {X : Cx} {e e2 : Expr} {ta : TA} {p pos tpos : Pos} {elts : List Expr} {kk : Nat} (hg : Gl X "zip") (hm : X.mg "zip" = none) (ha : PA X [e, e2] ta)
    (hs : starEach [e, e2] X.env = (false, eval e X.env) :: starEach [e2] X.env := by rfl) (hpl : (backTo pos (starEach [e2] X.env)).any (·.1) = false := by rfl) :
    PI X (.Tuple elts kk tpos) (.Call (.Name "zip" p) [e, e2] [] pos) (iZip2 X.K b1 b2 ta) := by
  refine ⟨fun pins s σ H R I h => ?_⟩
  refine Call_ (ld_blt I hg hm PyProof.Rows.boot_zip (PyProof.Rows.callWith_type1 (thn (ha.run pos pins s σ H _ I h) fun us s1 ⟨vs, H1, I1, r1, q1⟩ => ?_) hs hpl))
  obtain ⟨a, b, xs, ys, ex, hqx, hqy, q⟩ := q1
  subst ex
  cases r1 with
  | cons r rr =>
    cases rr with
    | cons r' rr =>
      cases rr
      cases r
      cases r'
      have fresh5 : ∀ c, c ∈ [s1.heap.objs.size + 4, s1.heap.objs.size + 2, s1.heap.objs.size + 3, s1.heap.objs.size, s1.heap.objs.size + 1] → FpOk X pins H1 c := fun c hcm => by
        have e' : c = s1.heap.objs.size + 4 ∨ c = s1.heap.objs.size + 2 ∨ c = s1.heap.objs.size + 3 ∨ c = s1.heap.objs.size ∨ c = s1.heap.objs.size + 1 := by simpa using hcm
        have hle : s1.heap.objs.size ≤ c := by
          rcases e' with z | z | z | z | z
          · rw [z]; exact Nat.le_add_right _ _
          · rw [z]; exact Nat.le_add_right _ _
          · rw [z]; exact Nat.le_add_right _ _
          · rw [z]; exact Nat.le_refl _
          · rw [z]; exact Nat.le_add_right _ _
        exact I1.fpOk hle (I1.hok.fresh hle)
      obtain ⟨its, rv, p1, lt1⟩ := hqx.get I1
      obtain ⟨its2, rv2, p2, lt2⟩ := hqy.get I1
      refine zip_begins2 (begins_b b1 a its.toArray) (begins_b b2 b its2.toArray) p1 p2 fun h' hz hTI hTO h1 h2 hsz hk => wpAny_pyIter_zip hz ?_
      have I2 : Inv X pins σ H1 { s1 with heap := h' } := I1.kept (t' := s1.toks) hk
      exact ⟨s1.heap.objs.size + 4, [s1.heap.objs.size + 4, s1.heap.objs.size + 2, s1.heap.objs.size + 3, s1.heap.objs.size, s1.heap.objs.size + 1], _, _, H1, rfl, I2, turn_zip2 (zip_sep2 (fp1 := [a]) (fp2 := [b]) (by simpa using lt1) (by simpa using lt2)), ⟨hz, hTI, ⟨_, _, hTO⟩, ItB.new h1, ItB.new h2⟩, fresh5, q⟩
theorem walk_zip2 {K : PySem.W.Frag} {b1 b2 : Bool} {a b : Addr} {xs ys : List V} : Walk (Itz2 K b1 b2 a b) (min xs.length ys.length) (fun H => SqB K b1 H a xs ∧ SqB K b2 H b ys) (YPair (fun i => xs[i]?) (fun i => ys[i]?)) := by
  refine ⟨fun i _ hi q => ?_, fun _ q => ⟨xs, ys, q.1, q.2, by omega, by omega, by omega⟩, fun i H v H' _ q y => ?_⟩
  · have h1 : i < xs.length := by omega
    have h2 : i < ys.length := by omega
    exact ⟨xs, ys, xs[i], ys[i], q.1, q.2, by simp [h1], by simp [h2]⟩
  · obtain ⟨T, x, z, h1, h2, h3, h4, h5⟩ := y
    exact ⟨T, x, z, h1, h2, h3, h4 xs q.1, h5 ys q.2⟩
end Hz

namespace Hz
open PySem PySem.Spec PyProof.Rows L2
/-! three -/
def YTrip (xs ys zs : Nat → Option V) : Nat → Hp → V → Hp → Prop := fun i H v H' => ∃ T x y z, v = .ref T ∧ H T = none ∧ H' = upd H T (.tup [x, y, z]) ∧ xs i = some x ∧ ys i = some y ∧ zs i = some z
def Itz3 (K : PySem.W.Frag) (b1 b2 b3 : Bool) (a b c : Addr) : It :=
  ⟨fun i H => ∃ (xs ys zs : List V) (x y z : V), SqB K b1 H a xs ∧ SqB K b2 H b ys ∧ SqB K b3 H c zs ∧ xs[i]? = some x ∧ ys[i]? = some y ∧ zs[i]? = some z,
    fun i H v H' => ∃ T x y z, v = .ref T ∧ H T = none ∧ H' = upd H T (.tup [x, y, z]) ∧ (∀ xs, SqB K b1 H a xs → xs[i]? = some x) ∧ (∀ ys, SqB K b2 H b ys → ys[i]? = some y) ∧ ∀ zs, SqB K b3 H c zs → zs[i]? = some z,
    fun i H => ∃ xs ys zs : List V, SqB K b1 H a xs ∧ SqB K b2 H b ys ∧ SqB K b3 H c zs ∧ i ≤ xs.length ∧ i ≤ ys.length ∧ i ≤ zs.length ∧ (i = xs.length ∨ i = ys.length ∨ i = zs.length)⟩
abbrev tn3 (b1 b2 b3 : Bool) (a b c z TI TO i1 i2 i3 : Addr) : Nat → Heap → Prop := fun i h => IsZip h z TI TO .none ∧ IsTupOf3 h TI (.ref i1) (.ref i2) (.ref i3) ∧ (∃ x y u, IsTupOf3 h TO x y u) ∧ ItB b1 h i1 a i ∧ ItB b2 h i2 b i ∧ ItB b3 h i3 c i
theorem turn_zip3 {P : Program} {w : World} {K : PySem.W.Frag} {elts : List Expr} {kk : Nat} {tpos : Pos} {b1 b2 b3 : Bool} {a b d z TI TO i1 i2 i3 : Addr} (S : ZipSep3 z TI TO i1 i2 i3 [i1, a] [i2, b] [i3, d]) :
    Turn P w K (.Tuple elts kk tpos) (Itz3 K b1 b2 b3 a b d) [z, TI, TO, i1, i2, i3] z (tn3 b1 b2 b3 a b d z TI TO i1 i2 i3) where
  mem := by simp
  obj := fun i h st c hc => by
    obtain ⟨hz, hTI, ⟨x, y, u, hTO⟩, h1, h2, h3⟩ := st
    have e' : c = z ∨ c = TI ∨ c = TO ∨ c = i1 ∨ c = i2 ∨ c = i3 := by simpa using hc
    rcases e' with q | q | q | q | q | q
    · rw [q]; exact ⟨_, hz, fun v q => nomatch q⟩
    · rw [q]; exact ⟨_, hTI, fun v q => nomatch q⟩
    · rw [q]; exact ⟨_, hTO, fun v q => nomatch q⟩
    · rw [q]; cases b1 <;> (obtain ⟨o1, e1, _, d1⟩ := h1; exact ⟨o1, e1, fun v q => by rw [d1] at q; cases q⟩)
    · rw [q]; cases b2 <;> (obtain ⟨o1, e1, _, d1⟩ := h2; exact ⟨o1, e1, fun v q => by rw [d1] at q; cases q⟩)
    · rw [q]; cases b3 <;> (obtain ⟨o1, e1, _, d1⟩ := h3; exact ⟨o1, e1, fun v q => by rw [d1] at q; cases q⟩)
  keep := fun i h h' st k => by
    obtain ⟨hz, hTI, ⟨x, y, u, hTO⟩, h1, h2, h3⟩ := st
    exact ⟨k z (by simp) _ hz, k TI (by simp) _ hTI, ⟨x, y, u, k TO (by simp) _ hTO⟩, h1.at fun o q => k i1 (by simp) o q, h2.at fun o q => k i2 (by simp) o q, h3.at fun o q => k i3 (by simp) o q⟩
  item := by
    intro X hP hw hK hc i pins s σ H E I hf st hg
    subst hP hw hK
    obtain ⟨hz, hTI, ⟨x0, y0, z0, hTO⟩, h1, h2, h3⟩ := st
    obtain ⟨xs, ys, zs, x, y, v, hqx, hqy, hqz, hx, hy, hv⟩ := hg
    obtain ⟨its, rv, p, _⟩ := hqx.get I
    obtain ⟨its2, rv2, p2, _⟩ := hqy.get I
    obtain ⟨its3, rv3, p3, _⟩ := hqz.get I
    obtain ⟨u, hu, ru⟩ := rv.get hx
    obtain ⟨u2, hu2, ru2⟩ := rv2.get hy
    obtain ⟨u3, hu3, ru3⟩ := rv3.get hv
    have hzl : z < s.heap.objs.size := Heap.lt_size hz
    have ne1 : a ≠ i1 := fun e => by
      subst e
      cases b1 <;> (obtain ⟨o, q1, q2, q3⟩ := h1; obtain ⟨o', r1, r2, r3⟩ := p; rw [q1] at r1; cases r1; rw [q2] at r2; simp at r2)
    have ne2 : b ≠ i2 := fun e => by
      subst e
      cases b2 <;> (obtain ⟨o, q1, q2, q3⟩ := h2; obtain ⟨o', r1, r2, r3⟩ := p2; rw [q1] at r1; cases r1; rw [q2] at r2; simp at r2)
    have ne3 : d ≠ i3 := fun e => by
      subst e
      cases b3 <;> (obtain ⟨o, q1, q2, q3⟩ := h3; obtain ⟨o', r1, r2, r3⟩ := p3; rw [q1] at r1; cases r1; rw [q2] at r2; simp at r2)
    have l1 := (List.getElem?_eq_some_iff.mp hu).1
    have l2 := (List.getElem?_eq_some_iff.mp hu2).1
    have l3 := (List.getElem?_eq_some_iff.mp hu3).1
    refine wpAny_pyNext_zipD3_item S (draws_b (A := X.A.in1) (I.ok.hd hc) b1 i1 a ne1 its.toArray) (draws_b (A := X.A.in1) (I.ok.hd hc) b2 i2 b ne2 its2.toArray) (draws_b (A := X.A.in1) (I.ok.hd hc) b3 i3 d ne3 its3.toArray) hz hTI hTO ⟨h1, p⟩ ⟨h2, p2⟩ ⟨h3, p3⟩ (by simpa using l1) (by simpa using l2) (by simpa using l3) fun x1 x2 x3 h' tk e1 e2 e3 z' TO' st1' st2' st3' hT hsz hk => ?_
    have ev1 : x1 = u := by
      have : its[i]? = some x1 := by simpa using e1
      rw [hu] at this
      exact (Option.some.inj this).symm
    have ev2 : x2 = u2 := by
      have : its2[i]? = some x2 := by simpa using e2
      rw [hu2] at this
      exact (Option.some.inj this).symm
    have ev3 : x3 = u3 := by
      have : its3[i]? = some x3 := by simpa using e3
      rw [hu3] at this
      exact (Option.some.inj this).symm
    subst ev1 ev2 ev3
    refine ⟨_, rfl, wpAny_letOwnedTupleGo_zip (s := { s with heap := h', toks := tk }) z' fun h'' z'' sb => ?_⟩
    have hT2 : h''.get? s.heap.objs.size = some { cls := .type "tuple", data := .seq #[x1, x2, x3] } := (sb.2 _ (Nat.ne_of_gt hzl)).trans hT
    have new : ObjOk X.prog X.w (upd H s.heap.objs.size (.tup [x, y, v])) h'' s.heap.objs.size (.tup [x, y, v]) :=
      ⟨by show 3 ≤ sizeLine; decide, [x1, x2, x3], .cons ru (.cons ru2 (.cons ru3 .nil)), ⟨_, hT2, rfl, _, rfl⟩⟩
    have I1 : Inv X pins σ (upd H s.heap.objs.size (.tup [x, y, v])) { s with heap := h'', toks := tk } :=
      I.turnedNew (t' := tk) (ch := [z, TI, TO, i1, i2, i3]) (fun c o hb q => (sb.2 c (fun q' => hb (by simp [q']))).trans (hk c o (fun q' => hb (by simp [q'])) (fun q' => hb (by simp [q'])) (fun q' => hb (by simp [q'])) (fun q' => hb (by simp [q'])) (fun q' => hb (by simp [q'])) q)) hf (Nat.le_refl _) new
    have i1z : i1 ≠ z := S.zi1.symm
    have i2z : i2 ≠ z := S.zi2.symm
    have i3z : i3 ≠ z := S.zi3.symm
    refine ⟨.ref s.heap.objs.size, _, I1, rfl, ⟨_, x, y, v, rfl, I.hok.fresh (Nat.le_refl _), rfl, fun l hl => by rw [SqB.inj I hl hqx]; exact hx, fun l hl => by rw [SqB.inj I hl hqy]; exact hy, fun l hl => by rw [SqB.inj I hl hqz]; exact hv⟩, ⟨z'', ?_, ⟨x1, x2, x3, ?_⟩, ?_, ?_, ?_⟩, fun c hcm => ?_⟩
    · exact (sb.2 _ S.TIz).trans (hk _ _ S.TIz S.TITO S.TIi1 S.TIi2 S.TIi3 hTI)
    · exact (sb.2 _ S.TOz).trans TO'
    · exact st1'.1.at fun o q => (sb.2 _ i1z).trans q
    · exact st2'.1.at fun o q => (sb.2 _ i2z).trans q
    · exact st3'.1.at fun o q => (sb.2 _ i3z).trans q
    · have hlt : c < s.heap.objs.size := by
        have e' : c = z ∨ c = TI ∨ c = TO ∨ c = i1 ∨ c = i2 ∨ c = i3 := by simpa using hcm
        rcases e' with q | q | q | q | q | q
        · rw [q]; exact hzl
        · rw [q]; exact Heap.lt_size hTI
        · rw [q]; exact Heap.lt_size hTO
        · rw [q]; obtain ⟨_, e1, _⟩ := h1.ob; exact Heap.lt_size e1
        · rw [q]; obtain ⟨_, e1, _⟩ := h2.ob; exact Heap.lt_size e1
        · rw [q]; obtain ⟨_, e1, _⟩ := h3.ob; exact Heap.lt_size e1
      rw [upd_ne (Nat.ne_of_lt hlt)]
      exact (hf c hcm).1
  done := by
    intro X hP hw hK hc i pins s σ H E I hf st hg
    subst hP hw hK
    obtain ⟨hz, hTI, ⟨x0, y0, z0, hTO⟩, h1, h2, h3⟩ := st
    obtain ⟨xs, ys, zs, hqx, hqy, hqz, le1, le2, le3, hend⟩ := hg
    obtain ⟨its, rv, p, _⟩ := hqx.get I
    obtain ⟨its2, rv2, p2, _⟩ := hqy.get I
    obtain ⟨its3, rv3, p3, _⟩ := hqz.get I
    have l1 := rv.length
    have l2 := rv2.length
    have l3 := rv3.length
    have ne1 : a ≠ i1 := fun e => by
      subst e
      cases b1 <;> (obtain ⟨o, q1, q2, q3⟩ := h1; obtain ⟨o', r1, r2, r3⟩ := p; rw [q1] at r1; cases r1; rw [q2] at r2; simp at r2)
    have ne2 : b ≠ i2 := fun e => by
      subst e
      cases b2 <;> (obtain ⟨o, q1, q2, q3⟩ := h2; obtain ⟨o', r1, r2, r3⟩ := p2; rw [q1] at r1; cases r1; rw [q2] at r2; simp at r2)
    have ne3 : d ≠ i3 := fun e => by
      subst e
      cases b3 <;> (obtain ⟨o, q1, q2, q3⟩ := h3; obtain ⟨o', r1, r2, r3⟩ := p3; rw [q1] at r1; cases r1; rw [q2] at r2; simp at r2)
    refine wpAny_pyNext_zipD3_end S (draws_b (A := X.A.in1) (I.ok.hd hc) b1 i1 a ne1 its.toArray) (draws_b (A := X.A.in1) (I.ok.hd hc) b2 i2 b ne2 its2.toArray) (draws_b (A := X.A.in1) (I.ok.hd hc) b3 i3 d ne3 its3.toArray) hz hTI hTO ⟨h1, p⟩ ⟨h2, p2⟩ ⟨h3, p3⟩ (by simp; omega) (by simp; omega) (by simp; omega) (by simp; omega) fun h' tk hk => ⟨rfl, I.turnedL (t' := tk) (ch := [z, TI, TO, i1, i2, i3]) (fun c o hb q =>
      hk c o (fun q' => hb (by simp [q'])) (fun q' => hb (by simp [q'])) (fun q' => hb (by simp [q'])) (fun q' => hb (by simp [q'])) (fun q' => hb (by simp [q'])) q) hf⟩
  self := fun A i s Q E st h => wpAny_pyIter_zip st.1 h
def iZip3 (K : PySem.W.Frag) (b1 b2 b3 : Bool) (ta : TA) : TI := fun σ H R => ta σ H fun vs H1 => ∃ a b c xs ys zs, vs = [.ref a, .ref b, .ref c] ∧ SqB K b1 H1 a xs ∧ SqB K b2 H1 b ys ∧ SqB K b3 H1 c zs ∧ R (Itz3 K b1 b2 b3 a b c) H1
theorem pi_zip3 (b1 b2 b3 : Bool) {X : Cx} {e e2 e3 : Expr} {ta : TA} {p pos tpos : Pos} {elts : List Expr} {kk : Nat} (hg : Gl X "zip") (hm : X.mg "zip" = none) (ha : PA X [e, e2, e3] ta)
    (hs : starEach [e, e2, e3] X.env = (false, eval e X.env) :: starEach [e2, e3] X.env := by rfl) (hpl : (backTo pos (starEach [e2, e3] X.env)).any (·.1) = false := by rfl) :
    PI X (.Tuple elts kk tpos) (.Call (.Name "zip" p) [e, e2, e3] [] pos) (iZip3 X.K b1 b2 b3 ta) := by
  refine ⟨fun pins s σ H R I h => ?_⟩
  refine Call_ (ld_blt I hg hm PyProof.Rows.boot_zip (PyProof.Rows.callWith_type1 (thn (ha.run pos pins s σ H _ I h) fun us s1 ⟨vs, H1, I1, r1, q1⟩ => ?_) hs hpl))
  obtain ⟨a, b, d, xs, ys, zs, ex, hqx, hqy, hqz, q⟩ := q1
  subst ex
  cases r1 with
  | cons r rr =>
    cases rr with
    | cons r' rr =>
      cases rr with
      | cons r'' rr =>
        cases rr
        cases r
        cases r'
        cases r''
        have fresh6 : ∀ c, c ∈ [s1.heap.objs.size + 5, s1.heap.objs.size + 3, s1.heap.objs.size + 4, s1.heap.objs.size, s1.heap.objs.size + 1, s1.heap.objs.size + 2] → FpOk X pins H1 c := fun c hcm => by
          have e' : c = s1.heap.objs.size + 5 ∨ c = s1.heap.objs.size + 3 ∨ c = s1.heap.objs.size + 4 ∨ c = s1.heap.objs.size ∨ c = s1.heap.objs.size + 1 ∨ c = s1.heap.objs.size + 2 := by simpa using hcm
          have hle : s1.heap.objs.size ≤ c := by
            rcases e' with z | z | z | z | z | z
            · rw [z]; exact Nat.le_add_right _ _
            · rw [z]; exact Nat.le_add_right _ _
            · rw [z]; exact Nat.le_add_right _ _
            · rw [z]; exact Nat.le_refl _
            · rw [z]; exact Nat.le_add_right _ _
            · rw [z]; exact Nat.le_add_right _ _
          exact I1.fpOk hle (I1.hok.fresh hle)
        obtain ⟨its, rv, p1, lt1⟩ := hqx.get I1
        obtain ⟨its2, rv2, p2, lt2⟩ := hqy.get I1
        obtain ⟨its3, rv3, p3, lt3⟩ := hqz.get I1
        refine zip_begins3 (begins_b b1 a its.toArray) (begins_b b2 b its2.toArray) (begins_b b3 d its3.toArray) p1 p2 p3 fun h' hz hTI hTO h1 h2 h3 hsz hk => wpAny_pyIter_zip hz ?_
        have I2 : Inv X pins σ H1 { s1 with heap := h' } := I1.kept (t' := s1.toks) hk
        exact ⟨s1.heap.objs.size + 5, [s1.heap.objs.size + 5, s1.heap.objs.size + 3, s1.heap.objs.size + 4, s1.heap.objs.size, s1.heap.objs.size + 1, s1.heap.objs.size + 2], _, _, H1, rfl, I2, turn_zip3 (zip_sep3 (fp1 := [a]) (fp2 := [b]) (fp3 := [d]) (by simpa using lt1) (by simpa using lt2) (by simpa using lt3)), ⟨hz, hTI, ⟨_, _, _, hTO⟩, ItB.new h1, ItB.new h2, ItB.new h3⟩, fresh6, q⟩
theorem walk_zip3 {K : PySem.W.Frag} {b1 b2 b3 : Bool} {a b c : Addr} {xs ys zs : List V} {n : Nat} (e1 : xs.length = n) (e2 : ys.length = n) (e3 : zs.length = n) : Walk (Itz3 K b1 b2 b3 a b c) n (fun H => SqB K b1 H a xs ∧ SqB K b2 H b ys ∧ SqB K b3 H c zs) (YTrip (fun i => xs[i]?) (fun i => ys[i]?) (fun i => zs[i]?)) := by
  refine ⟨fun i _ hi q => ?_, fun _ q => ⟨xs, ys, zs, q.1, q.2.1, q.2.2, by omega, by omega, by omega, by omega⟩, fun i H v H' _ q y => ?_⟩
  · have h1 : i < xs.length := by omega
    have h2 : i < ys.length := by omega
    have h3 : i < zs.length := by omega
    exact ⟨xs, ys, zs, xs[i], ys[i], zs[i], q.1, q.2.1, q.2.2, by simp [h1], by simp [h2], by simp [h3]⟩
  · obtain ⟨T, x, z, u, h1, h2, h3, h4, h5, h6⟩ := y
    exact ⟨T, x, z, u, h1, h2, h3, h4 xs q.1, h5 ys q.2.1, h6 zs q.2.2⟩
end Hz

namespace K54
open PySem PySem.Spec PyProof.Rows L2 Hk NumM NumT SX Hz
/-- small enough to be added and multiplied -/
def SmQ (q : Rat) : Prop := Sm q.num ∧ Sm (q.den : Int)
theorem Bnd.smq {d B : Nat} {q : Rat} (h : Bnd d B q) (hd : d ≠ 0) (d2 : d < 2 ^ 450) (b2 : B < 2 ^ 450) : SmQ q := by
  obtain ⟨h1, h2⟩ := h.num hd
  exact ⟨Nat.lt_of_le_of_lt h1 b2, Nat.lt_of_le_of_lt (show ((q.den : Int)).natAbs ≤ d by omega) d2⟩
theorem SmQ.sz {q : Rat} (h : SmQ q) : Sz q.num ∧ Sz (q.den : Int) := ⟨sm_sz h.1, sm_sz h.2⟩
theorem sgn_zero {q : Rat} : sgn q.num = 0 ↔ q = 0 := by
  unfold sgn
  constructor
  · intro h
    split at h
    · rename_i e
      exact Rat.num_eq_zero.mp e
    · split at h <;> cases h
  · intro h
    subst h
    rfl
section
variable {P : Program} {w : World} {K : Fr} {mg : Str → Option Value} {base : Heap}
/-- what `_summed` is given -/
structure SumIn (K : Fr) (H : Hp) (x : V) (l p : Addr) (rs qs : List Rat) (t : Rat) (us : List V) (d B C : Nat) : Prop where
  row : NRow K H x rs
  at_ : H l = some (.lst us)
  vals : All2 (NumV K H) us qs
  tot : NumQ (CN K) H p t
  prb : PrB d B rs qs
  tb : Bnd d C t
  d0 : d ≠ 0
  d2 : d < 2 ^ 450
  b2 : C + rs.length * B < 2 ^ 450
  len : rs.length ≤ 1000
  r2 : ∀ r ∈ rs, SmQ r
  q2 : ∀ q ∈ qs, SmQ q
def spSumd (K : Fr) : Sp := fun vs H Q _ => ∃ (x : V) (l p : Addr) (rs qs : List Rat) (t : Rat) (us : List V) (d B C : Nat), vs = [x, .ref l, .ref p] ∧ SumIn K H x l p rs qs t us d B C ∧ ∀ H' v, Same H H' → NumV K H' v (t + dotQ rs qs) → Q v H'
abbrev N_summed : List Str := ["row", "values", "total", "number", "value"]
theorem c_summed (T : Tx K mg) : Cal P w K mg base 6 "_summed" (gAd "_summed" K) ["row", "values", "total"] (spSumd K) := by
  obtain ⟨f0, D0, F0⟩ := f_add (P := P) (w := w) (base := base) T
  obtain ⟨f1, D1, F1⟩ := f_mul (P := P) (w := w) (base := base) T
  obtain ⟨f2, D2, F2⟩ := f_sign (P := P) (w := w) (base := base) T
  have b0 : Binds K f0 ["self", "other"] [] := FunD.bindsN D0 fun _ _ _ _ _ _ us hl => match us, hl with | [_, _], _ => rfl
  have b1 : Binds K f1 ["self", "other"] [] := FunD.bindsN D1 fun _ _ _ _ _ _ us hl => match us, hl with | [_, _], _ => rfl
  have b2 : Binds K f2 ["self"] [] := FunD.bindsN D2 fun _ _ _ _ _ _ us hl => match us, hl with | [_], _ => rfl
  refine cal_of (d := d_summed) (N := N_summed) (a_summed T.c) rfl sc_summed (g_summed T) (fun _ _ _ _ _ _ us hl => match us, hl with | [_, _, _], _ => rfl) (fun vs H Q E h => ?_) (fun cdv A outer s H vs Q E hr h => ?_)
  · obtain ⟨x, l, p, rs, qs, t, us, d, B, C, rfl, _⟩ := h
    rfl
  · obtain ⟨x, l, p, rs, qs, t, us, d, B, C, rfl, S, k⟩ := h
    refine ⟨_, (pss_cons (ps_for PassesOwn.never rfl (pi_zip2 true false (by rfl) (n_zip T) (pa_cons (pv 0) (pa_cons (pv 1) pa_nil))) (pg_tup (by rfl) (pgs_cons (pg_name (i := 3) sc_summed.nd rfl (.inl rfl)) (pgs_cons (pg_name (i := 4) sc_summed.nd rfl (.inl rfl)) pgs_nil)))
 (pss_one (ps_if (pt_cmpR op_ne (pe_prop (pv 3) (cl T) (prop_ok (f_prop_sign T.c)) F2 (hr.mono (by decide)) b2 .nil pass0 rfl) pe_int (nomark _))
 (pss_one (ps_set (i := 2) sc_summed.nd rfl (.inl rfl) (pe_op (op_binO (bin_ok (f_bin_add T.c)) F0 b0 hr) (pv 2) (pe_op (op_binO (bin_ok (f_bin_mul T.c)) F1 b1 hr) (pv 4) (pv 3)))))
 pss_nil)))
 (pss_one (ps_ret (pv 2)))), ?_⟩
    obtain ⟨row, at_, al, tot, prb, tb, d0, d2, b2', len, r2, q2⟩ := S
    obtain ⟨px, xs, rfl, hx, ax⟩ := row
    refine ⟨_, rfl, _, rfl, px, l, xs, us, rfl, .inl (.inl hx), .inl (.inl at_), ?_⟩
    refine for_it walk_zip2 (fun i σ H' => Same H H' ∧ ∃ (r : Addr) (x3 x4 : Option V), σ = [some (.ref px), some (.ref l), some (.ref r), x3, x4] ∧ NumQ (CN K) H' r (t + dotQ (rs.take i) (qs.take i))) ⟨Same.refl H, p, none, none, rfl, by simpa [dotQ, Rat.add_zero] using tot⟩ (fun i σ H' _ h => ⟨.inl (.inl (h.1 _ _ hx)), .inl (.inl (h.1 _ _ at_))⟩) ?_ ?_
    · rintro i y σ H1 H2 hi ⟨s1, r, x3, x4, rfl, nr⟩ ⟨TT, v1, v2, rfl, nT, rfl, e1, e2⟩
      have s2 := same_upd nT (o := HO.tup [v1, v2])
      have s12 := s1.trans s2
      have hr1 : rs[i]? = some (rs[i]'(by have := ax.1; omega)) := List.getElem?_eq_getElem _
      have hq1 : qs[i]? = some (qs[i]'(by have := al.1; omega)) := List.getElem?_eq_getElem _
      generalize rs[i]'(by have := ax.1; omega) = ri at hr1
      generalize qs[i]'(by have := al.1; omega) = qi at hq1
      obtain ⟨pn, rfl, nn⟩ := ax.2 i v1 ri e1 hr1
      obtain ⟨pq, rfl, nq⟩ := al.2 i v2 qi e2 hq1
      have nn := nn.same s12
      have nq := nq.same s12
      have nr := nr.same s2
      have mr := r2 ri (List.mem_of_getElem? hr1)
      have mq := q2 qi (List.mem_of_getElem? hq1)
      obtain ⟨dn, hn⟩ := id nn.at_
      obtain ⟨dq, hq⟩ := id nq.at_
      obtain ⟨dr, hr'⟩ := id nr.at_
      refine ⟨TT, _, rfl, .inl (.inl upd_same), rfl, _, _, rfl, _, _, rfl, rfl, ?_⟩
      refine ⟨_, rfl, pn, dn, _, rfl, hn, pn, _, _, rfl, nn, mr.sz.1, mr.sz.2, rfl, _, rfl, ?_⟩
      have tk := dotQ_take rs qs i ri qi hr1 hq1
      refine ite2 (fun zz => ?_) (fun zz => ?_)
      · refine ⟨_, rfl, _, rfl, _, rfl, pq, dq, _, rfl, hq, .inr ⟨pn, dn, _, rfl, hn⟩, pq, _, _, _, _, _, rfl, nq, .inl ⟨pn, rfl, nn⟩, mq.1, mq.2, mr.1, mr.2, trivial, fun H3 m s3 M => ?_⟩
        rw [(mul_q qi ri).1, (mul_q qi ri).2, Rat.mul_comm qi ri] at M
        have pb := prb i ri qi hr1 hq1
        have n0 : 1 ≤ rs.length := by have := (List.getElem?_eq_some_iff.mp hr1).1; omega
        have bB : B ≤ rs.length * B := Nat.le_mul_of_pos_left B n0
        have mp : SmQ (ri * qi) := Bnd.smq pb d0 d2 (by omega)
        have mt : SmQ (t + dotQ (rs.take i) (qs.take i)) := Bnd.smq (tb.add d0 (dotQ_take_bnd d0 rs qs prb i)) d0 d2 b2'
        have nr3 := nr.same s3
        obtain ⟨dr3, hr3⟩ := id nr3.at_
        obtain ⟨dm, hm⟩ := id M.at_
        refine ⟨r, dr3, _, rfl, hr3, .inr ⟨m, dm, _, rfl, hm⟩, r, _, _, _, _, _, rfl, nr3, .inl ⟨m, rfl, M⟩, mt.1, mt.2, mp.1, mp.2, trivial, fun H4 z s4 Z => ?_⟩
        rw [(add_q _ _).1, (add_q _ _).2, Rat.add_assoc, ← tk] at Z
        exact ⟨(s12.trans s3).trans s4, z, _, _, rfl, Z⟩
      · have z : ri = 0 := sgn_zero.mp (by
          cases h : decide (V.int (sgn ri.num) = V.int 0) with
          | true => exact V.int.inj (of_decide_eq_true h)
          | false => exact absurd (by show (!decide (V.int (sgn ri.num) = V.int 0)) = true; rw [h]; rfl) zz)
        refine ⟨s12, r, _, _, rfl, ?_⟩
        rw [tk, z, Rat.zero_mul, Rat.add_zero]
        exact nr
    · rintro σ H1 ⟨s1, r, x3, x4, rfl, nr⟩
      refine ⟨_, rfl, k H1 _ s1 ⟨r, rfl, ?_⟩⟩
      rw [ax.1, al.1, dotQ_full] at nr
      exact nr
end
end K54

namespace K54
open PySem PySem.Spec PyProof.Rows L2 Hk NumM NumT SX Hz
/-! an object's fields -/
theorem putF_app {f : Str} {v : V} : ∀ {l : List (Str × V)}, (∀ k ∈ l.map Prod.fst, k ≠ f) → putF f v l = l ++ [(f, v)]
  | [], _ => rfl
  | (g, x) :: r, h => by
    show (if g = f then (g, v) :: r else (g, x) :: putF f v r) = _
    rw [if_neg (h g (by simp)), putF_app fun k hk => h k (by simp at hk ⊢; exact .inr hk)]
    rfl
theorem look_app {f : Str} {v : V} : ∀ {l r : List (Str × V)}, (∀ k ∈ l.map Prod.fst, k ≠ f) → (l ++ (f, v) :: r).lookup f = some v
  | [], r, _ => by simp [List.lookup]
  | (g, x) :: t, r, h => by
    have e : (f == g) = false := Bool.eq_false_iff.mpr fun z => h g (by simp) (eq_of_beq z).symm
    show (match f == g with | true => some x | false => (t ++ (f, v) :: r).lookup f) = some v
    rw [e]
    exact look_app fun k hk => h k (by simp at hk ⊢; exact .inr hk)
def fd1 (v1 : V) : List (Str × V) := [("_per_unit", v1)]
def fd2 (v1 v2 : V) : List (Str × V) := [("_per_unit", v1), ("_input_rates", v2)]
def fd3 (v1 v2 v3 : V) : List (Str × V) := [("_per_unit", v1), ("_input_rates", v2), ("_output_rates", v3)]
def fd4 (v1 v2 v3 v4 : V) : List (Str × V) := [("_per_unit", v1), ("_input_rates", v2), ("_output_rates", v3), ("_sizes", v4)]
def fd5 (v1 v2 v3 v4 v5 : V) : List (Str × V) := [("_per_unit", v1), ("_input_rates", v2), ("_output_rates", v3), ("_sizes", v4), ("_reads", v5)]
def fd6 (v1 v2 v3 v4 v5 v6 : V) : List (Str × V) := [("_per_unit", v1), ("_input_rates", v2), ("_output_rates", v3), ("_sizes", v4), ("_reads", v5), ("_steps", v6)]
theorem kd2 : ∀ k ∈ (["_per_unit"] : List Str), k ≠ ("_input_rates" : Str) := by decide +kernel
theorem kd3 : ∀ k ∈ (["_per_unit", "_input_rates"] : List Str), k ≠ ("_output_rates" : Str) := by decide +kernel
theorem kd4 : ∀ k ∈ (["_per_unit", "_input_rates", "_output_rates"] : List Str), k ≠ ("_sizes" : Str) := by decide +kernel
theorem kd5 : ∀ k ∈ (["_per_unit", "_input_rates", "_output_rates", "_sizes"] : List Str), k ≠ ("_reads" : Str) := by decide +kernel
theorem kd6 : ∀ k ∈ (["_per_unit", "_input_rates", "_output_rates", "_sizes", "_reads"] : List Str), k ≠ ("_steps" : Str) := by decide +kernel
section
variable (v1 v2 v3 v4 v5 v6 : V)
theorem put2 : putF "_input_rates" v2 (fd1 v1) = fd2 v1 v2 := putF_app kd2
theorem put3 : putF "_output_rates" v3 (fd2 v1 v2) = fd3 v1 v2 v3 := putF_app kd3
theorem put4 : putF "_sizes" v4 (fd3 v1 v2 v3) = fd4 v1 v2 v3 v4 := putF_app kd4
theorem put5 : putF "_reads" v5 (fd4 v1 v2 v3 v4) = fd5 v1 v2 v3 v4 v5 := putF_app kd5
theorem put6 : putF "_steps" v6 (fd5 v1 v2 v3 v4 v5) = fd6 v1 v2 v3 v4 v5 v6 := putF_app kd6
theorem lk11 : (fd1 v1).lookup ("_per_unit" : Str) = some v1 := look_app (l := []) (fun k h => nomatch h)
theorem lk21 : (fd2 v1 v2).lookup ("_per_unit" : Str) = some v1 := look_app (l := []) (fun k h => nomatch h)
theorem lk22 : (fd2 v1 v2).lookup ("_input_rates" : Str) = some v2 := look_app (l := fd1 v1) kd2
theorem lk31 : (fd3 v1 v2 v3).lookup ("_per_unit" : Str) = some v1 := look_app (l := []) (fun k h => nomatch h)
theorem lk32 : (fd3 v1 v2 v3).lookup ("_input_rates" : Str) = some v2 := look_app (l := fd1 v1) kd2
theorem lk33 : (fd3 v1 v2 v3).lookup ("_output_rates" : Str) = some v3 := look_app (l := fd2 v1 v2) kd3
theorem lk41 : (fd4 v1 v2 v3 v4).lookup ("_per_unit" : Str) = some v1 := look_app (l := []) (fun k h => nomatch h)
theorem lk42 : (fd4 v1 v2 v3 v4).lookup ("_input_rates" : Str) = some v2 := look_app (l := fd1 v1) kd2
theorem lk43 : (fd4 v1 v2 v3 v4).lookup ("_output_rates" : Str) = some v3 := look_app (l := fd2 v1 v2) kd3
theorem lk44 : (fd4 v1 v2 v3 v4).lookup ("_sizes" : Str) = some v4 := look_app (l := fd3 v1 v2 v3) kd4
theorem lk51 : (fd5 v1 v2 v3 v4 v5).lookup ("_per_unit" : Str) = some v1 := look_app (l := []) (fun k h => nomatch h)
theorem lk52 : (fd5 v1 v2 v3 v4 v5).lookup ("_input_rates" : Str) = some v2 := look_app (l := fd1 v1) kd2
theorem lk53 : (fd5 v1 v2 v3 v4 v5).lookup ("_output_rates" : Str) = some v3 := look_app (l := fd2 v1 v2) kd3
theorem lk54 : (fd5 v1 v2 v3 v4 v5).lookup ("_sizes" : Str) = some v4 := look_app (l := fd3 v1 v2 v3) kd4
theorem lk55 : (fd5 v1 v2 v3 v4 v5).lookup ("_reads" : Str) = some v5 := look_app (l := fd4 v1 v2 v3 v4) kd5
theorem lk61 : (fd6 v1 v2 v3 v4 v5 v6).lookup ("_per_unit" : Str) = some v1 := look_app (l := []) (fun k h => nomatch h)
theorem lk62 : (fd6 v1 v2 v3 v4 v5 v6).lookup ("_input_rates" : Str) = some v2 := look_app (l := fd1 v1) kd2
theorem lk63 : (fd6 v1 v2 v3 v4 v5 v6).lookup ("_output_rates" : Str) = some v3 := look_app (l := fd2 v1 v2) kd3
theorem lk64 : (fd6 v1 v2 v3 v4 v5 v6).lookup ("_sizes" : Str) = some v4 := look_app (l := fd3 v1 v2 v3) kd4
theorem lk65 : (fd6 v1 v2 v3 v4 v5 v6).lookup ("_reads" : Str) = some v5 := look_app (l := fd4 v1 v2 v3 v4) kd5
theorem lk66 : (fd6 v1 v2 v3 v4 v5 v6).lookup ("_steps" : Str) = some v6 := look_app (l := fd5 v1 v2 v3 v4 v5) kd6
end
abbrev macF (v1 v2 v3 v4 v5 v6 : V) : List (Str × V) := fd6 v1 v2 v3 v4 v5 v6
abbrev CM (K : Fr) : Addr := He.ga K "Machine"
def sizesL (m : Mac) : List Nat := (List.range m.steps.length).map m.size
def readsL (m : Mac) : List Nat := (List.range m.steps.length).map fun t => (dueL m.ins m.per t).length
theorem RtT.fm {N : List Addr} {H H' : Hp} {xs : List V} {rs : Rts} (l : Ls N H) (s : Fm N H H') (h : RtT H xs rs) : RtT H' xs rs := ⟨h.1, fun i x r h1 h2 => by
  obtain ⟨p, e, hp⟩ := h.2 i x r h1 h2
  exact ⟨p, e, s _ _ (l.no hp fun _ q => nomatch q) hp⟩⟩
theorem framed_num {K : Fr} {N : List Addr} : Framed N (NumV K) := fun H H' v b l s ⟨p, e, ⟨dx, hp⟩, c, d⟩ => ⟨p, e, ⟨dx, s _ _ (l.no hp fun _ q => nomatch q) hp⟩, c, d⟩
theorem framed_nsteps {K : Fr} {N : List Addr} : Framed N (NSteps K) := framed_num.tup.tup.tup.tup
/-- what a machine's fields hold -/
def MacFs (K : Fr) (H : Hp) (m : Mac) (fs : List (Str × V)) : Prop := ∃ (a b e : Addr) (c d : V) (xa xb xe : List V), fs = macF (.int (m.per : Int)) (.ref a) (.ref b) (.ref e) d c ∧ H a = some (.tup xa) ∧ RtT H xa m.ins ∧ H b = some (.tup xb) ∧ RtT H xb m.outs ∧ H e = some (.tup xe) ∧ All2 (IntV H) xe (sizesL m) ∧ NSteps K H c m.steps
/-- a machine's object -/
def MachAt (K : Fr) (H : Hp) (p : Addr) (m : Mac) : Prop := ∃ dx fs, H p = some (.ins (CM K) dx fs) ∧ MacFs K H m fs
theorem MacFs.fm {K : Fr} {H H' : Hp} {m : Mac} {fs : List (Str × V)} {N : List Addr} (h : MacFs K H m fs) (l : Ls N H) (s : Fm N H H') : MacFs K H' m fs := by
  obtain ⟨a, b, e, c, d, xa, xb, xe, rfl, h1, h2, h3, h4, h5, h6, h7⟩ := h
  exact ⟨a, b, e, c, d, xa, xb, xe, rfl, s _ _ (l.no h1 fun _ q => nomatch q) h1, h2.fm l s, s _ _ (l.no h3 fun _ q => nomatch q) h3, h4.fm l s, s _ _ (l.no h5 fun _ q => nomatch q) h5, h6, framed_nsteps H H' _ _ l s h7⟩
theorem MachAt.fm {K : Fr} {H H' : Hp} {p : Addr} {m : Mac} {N : List Addr} (h : MachAt K H p m) (l : Ls N H) (s : Fm N H H') : MachAt K H' p m := by
  obtain ⟨dx, fs, hp, h⟩ := h
  exact ⟨dx, fs, s _ _ (l.no hp fun _ q => nomatch q) hp, h.fm l s⟩
theorem MachAt.same {K : Fr} {H H' : Hp} {p : Addr} {m : Mac} (h : MachAt K H p m) (s : Same H H') : MachAt K H' p m := h.fm Ls.nil (Fm.same s)
theorem MachAt.old {K : Fr} {H H' : Hp} {p a : Addr} {m : Mac} (h : MachAt K H p m) (q : SprAt a H) (s : Old a H H') : MachAt K H' p m := h.fm (N := [a]) (by
  obtain ⟨d, e, c, h1, _⟩ := q
  exact Ls.nil.cons h1) (Fm.old s)
end K54

namespace K54
open PySem PySem.Spec PyProof.Rows L2 Hk NumM NumT SX Hz
theorem clM {K : Fr} {mg : Str → Option Value} (T : Tx K mg) : Cls K (CM K) := He.cls_ok (f_cls_Machine T.c)
/-- a write to an object that is no Number -/
theorem num_ins {K : Fr} {H : Hp} {p C dx : Addr} {fs : List (Str × V)} {o : HO} (hp : H p = some (.ins C dx fs)) (n2 : fs.length ≠ 2) {v : V} {q : Rat} (h : NumV K H v q) : NumV K (upd H p o) v q := by
  obtain ⟨r, e, ⟨dr, hr⟩, c, d⟩ := h
  refine ⟨r, e, ⟨dr, ?_⟩, c, d⟩
  rw [upd_ne (fun z => ?_)]
  · exact hr
  · subst z
    rw [hp] at hr
    cases hr
    exact n2 rfl
theorem tup_ins {H : Hp} {p q C dx : Addr} {fs : List (Str × V)} {o : HO} {xs : List V} (hp : H p = some (.ins C dx fs)) (h : H q = some (.tup xs)) : (upd H p o) q = some (.tup xs) := by
  rw [upd_ne (fun z => by rw [z, hp] at h; cases h)]
  exact h
theorem tupOf_ins {β : Type} {Rel : Hp → V → β → Prop} {H : Hp} {p C dx : Addr} {fs : List (Str × V)} {o : HO} (hp : H p = some (.ins C dx fs)) (f : ∀ v b, Rel H v b → Rel (upd H p o) v b) {v : V} {bs : List β} (h : TupOf Rel H v bs) : TupOf Rel (upd H p o) v bs := by
  obtain ⟨q, xs, e, hq, a⟩ := h
  exact ⟨q, xs, e, tup_ins hp hq, a.mono f⟩
theorem nsteps_ins {K : Fr} {H : Hp} {p C dx : Addr} {fs : List (Str × V)} {o : HO} (hp : H p = some (.ins C dx fs)) (n2 : fs.length ≠ 2) {v : V} {s : List (List Table)} (h : NSteps K H v s) : NSteps K (upd H p o) v s :=
  tupOf_ins hp (fun _ _ => tupOf_ins hp fun _ _ => tupOf_ins hp fun _ _ => tupOf_ins hp fun _ _ => num_ins hp n2) h
abbrev StepsAt (K : Fr) : Hp → V → List (List Table) → Prop := TupOf (StepAt K)
theorem Wf.rowlen {m : Mac} (w : Wf m) {s : List Table} (hs : s ∈ m.steps) : ∀ u ∈ s, u.length ≤ 1000 ∧ ∀ r ∈ u, r.length ≤ 1000 := by
  intro u hu
  obtain ⟨t, ht⟩ := List.mem_iff_getElem?.mp hs
  obtain ⟨j, hj⟩ := List.mem_iff_getElem?.mp hu
  have lt := (List.getElem?_eq_some_iff.mp ht).1
  have lj := (List.getElem?_eq_some_iff.mp hj).1
  rw [w.four s hs] at lj
  have e : m.tab t j = u := by
    unfold Mac.tab
    rw [Nat.mod_eq_of_lt lt, List.getD_eq_getElem?_getD (l := m.steps), ht, Option.getD_some, List.getD_eq_getElem?_getD, hj, Option.getD_some]
  have d1 : (dueL m.outs m.per t).length ≤ m.outs.length := dueN_le m.outs m.per t m.outs.length
  have d2 := w.o2
  have e1 := w.hs ((t + 1) % m.steps.length) (w.lt _)
  rw [m.size_mod w.l1] at e1
  have e0 := w.h0 t lt
  have e2 := w.h1 t lt
  have e3 := w.h2 t lt
  have e4 := w.h3 t lt
  have rl := w.row_le t
  rw [← e]
  have : j = 0 ∨ j = 1 ∨ j = 2 ∨ j = 3 := by omega
  rcases this with rfl | rfl | rfl | rfl
  · exact ⟨by omega, fun r hr => by have := (rl.1 r (List.mem_append_left _ hr)).2; omega⟩
  · exact ⟨by omega, fun r hr => by have := (rl.2 r (List.mem_append_left _ hr)).2; omega⟩
  · exact ⟨by omega, fun r hr => by have := (rl.1 r (List.mem_append_right _ hr)).2; omega⟩
  · exact ⟨by omega, fun r hr => by have := (rl.2 r (List.mem_append_right _ hr)).2; omega⟩
theorem Bnd.sz {d B : Nat} {q : Rat} (h : Bnd d B q) (hd : d ≠ 0) (b2 : B < 2 ^ 450) : Sz q.num := Nat.lt_of_le_of_lt (h.num hd).1 (Nat.lt_trans b2 (by decide +kernel))
theorem step_four {s : List Table} (h : s.length = 4) : s = [s.getD 0 [], s.getD 1 [], s.getD 2 [], s.getD 3 []] := by
  match s, h with
  | [a, b, c, d], _ => rfl
theorem atI_pred {α : Type} {xs : List α} {i : Nat} {v : α} (hi : i < xs.length) (h : xs[(i + xs.length - 1) % xs.length]? = some v) : atI xs ((0 + (i : Int)) - 1) = some v := by
  unfold atI ixN
  cases i with
  | zero =>
    rw [if_neg (by omega), if_pos (by omega)]
    rw [Nat.mod_eq_of_lt (by omega)] at h
    have e : (((0 + ((0 : Nat) : Int)) - 1) + (xs.length : Int)).toNat = 0 + xs.length - 1 := by omega
    show xs[_]? = some v
    rw [e]
    exact h
  | succ i =>
    rw [if_pos (by omega)]
    rw [show i + 1 + xs.length - 1 = i + xs.length by omega, Nat.add_mod_right, Nat.mod_eq_of_lt (by omega)] at h
    rw [if_pos (by omega)]
    have e : ((0 + ((i + 1 : Nat) : Int)) - 1).toNat = i := by omega
    show xs[_]? = some v
    rw [e]
    exact h
theorem list_of {α : Type} {bs : List α} {n : Nat} {f : Nat → α} (h : bs.length = n) (g : ∀ i b, bs[i]? = some b → b = f i) : bs = (List.range n).map f := by
  refine List.ext_getElem? fun i => ?_
  by_cases c : i < n
  · have e : bs[i]? = some (bs[i]'(by omega)) := List.getElem?_eq_getElem _
    rw [List.getElem?_map, List.getElem?_range c, e, g i _ e]
    rfl
  · rw [List.getElem?_eq_none (by omega), List.getElem?_eq_none (by simp; omega)]
/-- a step at its place -/
theorem Mac.step_at {m : Mac} {t : Nat} {s : List Table} (h : m.steps[t]? = some s) (j : Nat) : m.tab t j = s.getD j [] := by
  unfold Mac.tab
  rw [Nat.mod_eq_of_lt (List.getElem?_eq_some_iff.mp h).1, List.getD_eq_getElem?_getD (l := m.steps), h, Option.getD_some]
section
variable {P : Program} {w : World} {K : Fr} {mg : Str → Option Value} {base : Heap}
def spMInit (K : Fr) : Sp := fun vs H Q _ => ∃ (p dx a b : Addr) (c : V) (xa xb : List V) (m : Mac) (Ho : Hp), vs = [.ref p, .ref a, .ref b, c] ∧ H p = some (.ins (CM K) dx []) ∧ Ho p = none ∧ Same Ho H ∧ Wf m ∧
  Ho a = some (.tup xa) ∧ RtT Ho xa m.ins ∧ Ho b = some (.tup xb) ∧ RtT Ho xb m.outs ∧ StepsAt K Ho c m.steps ∧ ∀ H', Same Ho H' → MachAt K H' p m → Q .non H'
abbrev N_Machine_init : List Str := ["self", "input_rates", "output_rates", "steps", "rates", "index", "step", "at", "tick", "written", "table"]
abbrev rLenS (K : Fr) : List V → Hp → VK → Prop := fun xs H Q => ∃ p ys, xs = [.ref p] ∧ (SqL K H p ys ∨ SqT K H p ys) ∧ Q (.int ys.length) H
theorem f_minit (T : Tx K mg) : ∃ fd, DAt K d_Machine_init fd ∧ FnOk P w K mg base CX0 6 (d_Machine_init.ad K) fd ["self", "input_rates", "output_rates", "steps"] (spMInit K) := by
  obtain ⟨fd, D⟩ := a_Machine_init T.c
  have C_are_rates := c_arerates (P := P) (w := w) (base := base) T
  have C_ticks_per_unit := c_tpu (P := P) (w := w) (base := base) T
  have C_is_turn := c_turn (P := P) (w := w) (base := base) T
  have C_is_step := c_isstep (P := P) (w := w) (base := base) T
  have C_due_at := c_due (P := P) (w := w) (base := base) T
  have C_fits := c_fits (P := P) (w := w) (base := base) T
  have C_with_numbers := c_with (P := P) (w := w) (base := base) T
  refine ⟨fd, D, ok_of (k := 5) (N := N_Machine_init) D sc_Machine_init (fun vs H Q E h => ?_) (fun cdv A outer s H vs Q E hr h => ?_)⟩
  · obtain ⟨p, dx, a, b, c, xa, xb, m, Ho, rfl, _⟩ := h
    rfl
  · obtain ⟨p, dx, a, b, c, xa, xb, m, Ho, rfl, hp, np, so, W, ha, ra, hb, rb, hc, k⟩ := h
    refine ⟨_, (pss_cons (ps_if (pt_not (pt_val (pe_c C_are_rates (hr.mono (by decide)) (pa_cons (pv 1) pa_nil))))
 (pss_one ps_never)
 pss_nil)
 (pss_cons (ps_if (pt_not (pt_val (pe_c C_are_rates (hr.mono (by decide)) (pa_cons (pv 2) pa_nil))))
 (pss_one ps_never)
 pss_nil)
 (pss_cons (ps_set (i := 4) sc_Machine_init.nd rfl (.inl rfl) (pe_op op_catA (pv 1) (pv 2)))
 (pss_cons (ps_fld (pv 0) (pe_c C_ticks_per_unit (hr.mono (by decide)) (pa_cons (pv 4) pa_nil)) rfl)
 (pss_cons (ps_if (PW.pt (pw_or (pt_not (pt_val (pe_callB call_isi (by rfl) (n_isinstance T) bo_isinstance (pa_cons (pv 3) (pa_cons (pe_bltn (v := .ty "tuple") (by rfl) (n_tuple T) (by decide +kernel) rfl) pa_nil))))) (pw_or1 (pt_not (pt_val (pe_c C_is_turn (hr.mono (by decide)) (pa_cons (pe_callB call_len_seq (by rfl) (n_len T) bo_len (pa_cons (pv 3) pa_nil)) (pa_cons (pe_fld (pv 0) rfl) (pa_cons (pv 4) pa_nil)))))))))
 (pss_one ps_never)
 pss_nil)
 (pss_cons (ps_for PassesOwn.never rfl (Hk.pi_enumT rfl (n_enumerate T) (pa_cons (pv 3) pa_nil)) (pg_tup (by rfl) (pgs_cons (pg_name (i := 5) sc_Machine_init.nd rfl (.inl rfl)) (pgs_cons (pg_name (i := 6) sc_Machine_init.nd rfl (.inl rfl)) pgs_nil)))
 (pss_one (ps_if (pt_not (pt_val (pe_c C_is_step hr (pa_cons (pv 6) pa_nil))))
 (pss_one ps_never)
 pss_nil)))
 (pss_cons (ps_fld (pv 0) (pv 1) rfl)
 (pss_cons (ps_fld (pv 0) (pv 2) rfl)
 (pss_cons (ps_fld (pv 0) (pe_callTy call_tuple_of (by rfl) (n_tuple T) bo_tuple (pa_cons (pe_lc (own := [("at", 7)]) (g := gName 7) (tt := tYes) rfl sc_Machine_init.nd (pi_range1 (by rfl) (n_range T) (pa_cons (pe_callB call_len_seq (by rfl) (n_len T) bo_len (pa_cons (pv 3) pa_nil)) pa_nil)) (blkOk_by (N := N_Machine_init) (sc := defScope s_Machine_init) (by decide +kernel)) (fun _ _ _ _ _ => pg_name (i := 7) sc_Machine_init.nd rfl (.inl rfl)) (fun _ _ _ _ _ => pts_nil) (fun _ _ _ _ _ => (pe_callB (call_len_seq : CallR _ _ (rLenS K)) (by rfl) (n_len T) bo_len (pa_cons (pe_ix (ix_tup : IxR _ (rIxT K)) (pe_ix (ix_tup : IxR _ (rIxT K)) (pv 3) (pe_op op_sub (pv 7) pe_int) (fun _ _ => rfl)) pe_int (fun _ _ => rfl)) pa_nil)))) pa_nil)) rfl)
 (pss_cons (ps_fld (pv 0) (pe_lc (own := [("tick", 8)]) (g := gName 8) (tt := tYes) rfl sc_Machine_init.nd (pi_range1 (by rfl) (n_range T) (pa_cons (pe_callB call_len_seq (by rfl) (n_len T) bo_len (pa_cons (pv 3) pa_nil)) pa_nil)) (blkOk_by (N := N_Machine_init) (sc := defScope s_Machine_init) (by decide +kernel)) (fun _ _ _ _ _ => pg_name (i := 8) sc_Machine_init.nd rfl (.inl rfl)) (fun _ _ _ _ _ => pts_nil) (fun _ _ _ _ _ => (pe_callB (call_len_seq : CallR _ _ (rLenS K)) (by rfl) (n_len T) bo_len (pa_cons (pe_c C_due_at (hr.mono (by decide)) (pa_cons (pv 1) (pa_cons (pe_fld (pv 0) rfl : PE _ _ (tFld K (tVar 0) "_per_unit")) (pa_cons (pv 8) pa_nil)))) pa_nil)))) rfl)
 (pss_cons (ps_for PassesOwn.never rfl (Hk.pi_enumT rfl (n_enumerate T) (pa_cons (pv 3) pa_nil)) (pg_tup (by rfl) (pgs_cons (pg_name (i := 5) sc_Machine_init.nd rfl (.inl rfl)) (pgs_cons (pg_name (i := 6) sc_Machine_init.nd rfl (.inl rfl)) pgs_nil)))
 (pss_cons (ps_set (i := 9) sc_Machine_init.nd rfl (.inl rfl) (pe_callB call_len_seq (by rfl) (n_len T) bo_len (pa_cons (pe_c C_due_at (hr.mono (by decide)) (pa_cons (pv 2) (pa_cons (pe_fld (pv 0) rfl) (pa_cons (pv 5) pa_nil)))) pa_nil)))
 (pss_one (ps_if (pt_not (pt_val (pe_c C_fits (hr.mono (by decide)) (pa_cons (pv 6) (pa_cons (pe_ix ix_tup (pe_fld (pv 0) rfl) (pv 5) (fun _ _ => rfl)) (pa_cons (pe_ix ix_list (pe_fld (pv 0) rfl) (pv 5) (fun _ _ => rfl)) (pa_cons (pv 9) pa_nil)))))))
 (pss_one ps_never)
 pss_nil))))
 (pss_one (ps_fld (pv 0) (pe_callTy call_tuple_of (by rfl) (n_tuple T) bo_tuple (pa_cons (pe_lc (own := [("step", 6)]) (g := gName 6) (tt := tYes) rfl sc_Machine_init.nd (pi_tup (pv 3)) (blkOk_by (N := N_Machine_init) (sc := defScope s_Machine_init) (by decide +kernel)) (fun _ _ _ _ _ => pg_name (i := 6) sc_Machine_init.nd rfl (.inl rfl)) (fun _ _ _ _ _ => pts_nil) (fun _ _ _ _ _ => (pe_callTy (call_tuple_of : CallR _ _ (fun xs H Q => ∃ p ys, xs = [.ref p] ∧ ((SqL K H p ys ∧ ∀ l, H l = none → Q (.ref l) (upd H l (.tup ys))) ∨ (SqT K H p ys ∧ Q (.ref p) H)))) (by rfl) (n_tuple T) bo_tuple (pa_cons (pe_lc (wi := iTup K (tVar 6)) (own := [("table", 10)]) (g := gName 10) (tt := tYes) rfl sc_Machine_init.nd (pi_tup (pv 6)) (blkOk_by (N := N_Machine_init) (by rfl)) (fun _ _ _ _ _ => pg_name (i := 10) sc_Machine_init.nd rfl (.inl rfl)) (fun _ _ _ _ _ => pts_nil) (fun _ _ _ _ _ => (pe_c C_with_numbers hr (pa_cons (pv 10) pa_nil)))) pa_nil)))) pa_nil)) rfl))))))))))))), ?_⟩
    obtain ⟨pc, xc, rfl, hc, ac⟩ := hc
    have acl := ac.1
    have nM := fun (f : Str) (h : tNoat "Machine" f K = true) => (He.noat_ok h : NoAttr K (CM K) f)
    refine ⟨_, rfl, a, xa, m.ins, rfl, so _ _ ha, ra.same so, W.okI, W.i1, W.i2, fun H1 s1 => ⟨_, rfl, iteF ?_⟩⟩
    have so1 := so.trans s1
    refine ⟨_, rfl, b, xb, m.outs, rfl, so1 _ _ hb, rb.same so1, W.okO, W.o1, W.o2, fun H2 s2 => ⟨_, rfl, iteF ?_⟩⟩
    have so2 := so1.trans s2
    have l1 := ra.1
    have l2 := rb.1
    have i2 := W.i2
    have o2 := W.o2
    have L1 := W.l1
    have L2 := W.l2
    have P1 := W.p1
    have P2 := W.p2
    refine ⟨_, rfl, _, rfl, cat_tup (so2 _ _ ha) (so2 _ _ hb) (by omega) fun r H3 s3 hr3 => ?_⟩
    have so3 := so2.trans s3
    have rall : RtT H3 (xa ++ xb) m.all := (ra.same so3).app (rb.same so3)
    have hp3 := s3 _ _ (s2 _ _ (s1 _ _ hp))
    refine ⟨_, rfl, r, _, m.all, rfl, .inl (.inl hr3), rall, W.ok, ?_⟩
    refine ⟨_, rfl, p, CM K, dx, _, rfl, hp3, clM T, nM _ (f_noat_M_per_unit T.c), (by show 0 < 1000; decide), ?_⟩
    -- per_unit stands
    have so4 := same_upd' (o := HO.ins (CM K) dx (fd1 (.int (m.per : Int)))) so3 np
    have hp4 : (upd H3 p (HO.ins (CM K) dx (fd1 (.int (m.per : Int))))) p = _ := upd_same
    have hr4 := tup_ins (o := HO.ins (CM K) dx (fd1 (.int (m.per : Int)))) hp3 hr3
    have hc4 := so4 _ _ hc
    have rall4 : RtT _ (xa ++ xb) m.all := (ra.same so4).app (rb.same so4)
    refine ⟨_, rfl, _, _, _, _, true, rfl, .ty _, ty_tup hc4, kit_ty (by decide +kernel), _, rfl, iteF ?_⟩
    refine ⟨_, rfl, pc, _, rfl, .inr (.inl (.inl hc4)), _, rfl, p, CM K, dx, _, _, rfl, hp4, clM T, nM _ (f_noat_M_per_unit T.c), lk11 _, _, rfl, m.steps.length, m.per, r, _, m.all, by rw [ac.1]; rfl, .inl (.inl hr4), rall4, W.ok, L1, L2, P1, P2, W.dv, _, rfl, iteF ?_⟩
    refine ⟨_, rfl, pc, _, rfl, .inl (.inl hc4), ?_⟩
    refine for_it walk_enumT (fun i σ H' => Same Ho H' ∧ H' p = some (.ins (CM K) dx (fd1 (.int (m.per : Int)))) ∧ ∃ (x5 x6 : Option V), σ = [some (.ref p), some (.ref a), some (.ref b), some (.ref pc), some (.ref r), x5, x6, none, none, none, none]) ⟨so4, hp4, none, none, rfl⟩ (fun i σ H' _ h => .inl (.inl (h.1 _ _ hc))) ?_ ?_
    · rintro i y σ G1 G2 hi ⟨s1, hpG, x5, x6, rfl⟩ ⟨TT, v1, v2, rfl, nT, rfl, e1, e2⟩
      cases e1
      have s2 := same_upd nT (o := HO.tup [.int (i : Nat), v2])
      obtain ⟨st, hst, ast⟩ := ac.at e2
      have hm := List.mem_of_getElem? hst
      refine ⟨TT, _, rfl, .inl (.inl upd_same), rfl, _, _, rfl, _, _, rfl, rfl, ?_⟩
      refine ⟨_, rfl, v2, st, rfl, ast.same (s1.trans s2), W.four st hm, W.rowlen hm, fun G3 s3 => ⟨_, rfl, iteF ?_⟩⟩
      exact ⟨(s1.trans s2).trans s3, s3 _ _ (s2 _ _ hpG), _, _, rfl⟩
    rintro σ H5 ⟨so5, hp5, x5, x6, rfl⟩
    refine ⟨_, rfl, _, rfl, p, CM K, dx, _, rfl, hp5, clM T, nM _ (f_noat_M_input_rates T.c), (by show 1 < 1000; decide), ?_⟩
    have so6 := same_upd' (o := HO.ins (CM K) dx (fd2 (.int (m.per : Int)) (.ref a))) so5 np
    have hp6 : (upd H5 p (HO.ins (CM K) dx (fd2 (.int (m.per : Int)) (.ref a)))) p = _ := upd_same
    rw [put2]
    refine ⟨_, rfl, _, rfl, p, CM K, dx, _, rfl, hp6, clM T, nM _ (f_noat_M_output_rates T.c), (by show 2 < 1000; decide), ?_⟩
    rw [put3, upd_upd]
    have so7 := same_upd' (o := HO.ins (CM K) dx (fd3 (.int (m.per : Int)) (.ref a) (.ref b))) so5 np
    have hp7 : (upd H5 p (HO.ins (CM K) dx (fd3 (.int (m.per : Int)) (.ref a) (.ref b)))) p = _ := upd_same
    generalize upd H5 p (HO.ins (CM K) dx (fd3 (.int (m.per : Int)) (.ref a) (.ref b))) = H7 at so7 hp7
    have hc7 := so7 _ _ hc
    -- _sizes
    refine ⟨_, rfl, pc, _, rfl, .inr (.inl (.inl hc7)), ?_⟩
    refine ⟨_, rfl, by omega, by omega, fun D nD => ?_⟩
    refine lc_fr walk_range [] IntV (fun i b => b = m.size i) (fun _ => True) nD (by omega) framed_int Ls.nil trivial (fun _ _ _ _ => trivial) (fun _ _ => trivial) ?_ ?_ gName_mono
    · rintro i x G G' hi f l - hD ⟨rfl, rfl⟩ R q
      have hcG := f.to_same _ _ hc7
      have hiL : i < m.steps.length := by have := ac.1; omega
      -- the step before
      have hj : (i + m.steps.length - 1) % m.steps.length < m.steps.length := Nat.mod_lt _ L1
      have hst : m.steps[(i + m.steps.length - 1) % m.steps.length]? = some (m.steps[(i + m.steps.length - 1) % m.steps.length]'hj) := List.getElem?_eq_getElem _
      generalize m.steps[(i + m.steps.length - 1) % m.steps.length]'hj = st at hst
      obtain ⟨y, hy, ps, xs, rfl, hps, as⟩ := ac.at2 hst
      have as' := as
      have hm := List.mem_of_getElem? hst
      have h4 := W.four st hm
      have ht0 : st[0]? = some (st[0]'(by omega)) := List.getElem?_eq_getElem _
      generalize hst0 : st[0]'(by omega) = t0 at ht0
      obtain ⟨y0, hy0, pt, xt, rfl, hpt, at0⟩ := as.at2 ht0
      have sz : m.size i = xt.length := by
        unfold Mac.size
        rw [List.getD_eq_getElem?_getD (l := m.steps), hst, Option.getD_some, List.getD_eq_getElem?_getD, ht0, Option.getD_some, at0.1]
      have soG := so7.trans f.to_same
      refine ⟨rfl, ?_⟩
      refine ⟨_, rfl, _, rfl, _, _, rfl, rfl, pc, _, _, _, rfl, rfl, .inl (.inl hcG), ?_, ps, _, _, _, rfl, rfl, .inl (.inl (soG _ _ hps)), atI_nat (j := 0) hy0, pt, _, rfl, .inr (.inl (.inl (soG _ _ hpt))), ?_⟩
      · show atI xc ((0 + (i : Int)) - 1) = some (V.ref ps)
        rw [← acl] at hy
        exact atI_pred (by omega) hy
      · exact q _ _ _ (Fm.refl _ _) l trivial sz.symm rfl
    rintro G us bs f l - hbl hbp al hD
    have ebs : bs = sizesL m := list_of (by omega) hbp
    subst ebs
    have soG := so7.trans f.to_same
    have hpG := f.to_same _ _ hp7
    refine ⟨D, us, rfl, .inl ⟨.inl (.inl hD), fun e ne => ?_⟩⟩
    have sG := same_upd ne (o := HO.tup us)
    have hpG := sG _ _ hpG
    refine ⟨_, rfl, p, CM K, dx, _, rfl, hpG, clM T, nM _ (f_noat_M_sizes T.c), (by show 3 < 1000; decide), ?_⟩
    rw [put4]
    have so8 := same_upd' (o := HO.ins (CM K) dx (fd4 (.int (m.per : Int)) (.ref a) (.ref b) (.ref e))) (soG.trans sG) np
    have hp8 : (upd (upd G e (HO.tup us)) p (HO.ins (CM K) dx (fd4 (.int (m.per : Int)) (.ref a) (.ref b) (.ref e)))) p = _ := upd_same
    have he8 := tup_ins (o := HO.ins (CM K) dx (fd4 (.int (m.per : Int)) (.ref a) (.ref b) (.ref e))) hpG (show (upd G e (HO.tup us)) e = _ from upd_same)
    generalize upd (upd G e (HO.tup us)) p (HO.ins (CM K) dx (fd4 (.int (m.per : Int)) (.ref a) (.ref b) (.ref e))) = H8 at so8 hp8 he8
    have hsz : ∀ H', All2 (IntV H') us (sizesL m) := fun _ => al
    -- _reads
    refine ⟨_, rfl, pc, _, rfl, .inr (.inl (.inl (so8 _ _ hc))), ?_⟩
    refine ⟨_, rfl, by omega, by omega, fun D2 nD2 => ?_⟩
    refine lc_fr walk_range [] IntV (fun i b => b = (dueL m.ins m.per i).length) (fun _ => True) nD2 (by omega) framed_int Ls.nil trivial (fun _ _ _ _ => trivial) (fun _ _ => trivial) ?_ ?_ gName_mono
    · rintro i x G2 G' hi f2 l2 - hD2 ⟨rfl, rfl⟩ R q
      have hiL : i < m.steps.length := by omega
      have soG2 := so8.trans f2.to_same
      refine ⟨rfl, ?_⟩
      refine ⟨_, rfl, _, rfl, p, CM K, dx, _, _, rfl, f2.to_same _ _ hp8, clM T, nM _ (f_noat_M_per_unit T.c), lk41 _ _ _ _, _, rfl, a, xa, m.ins, m.per, i, ?_, .inl (.inl (soG2 _ _ ha)), ra.same soG2, W.okI, by omega, P1, P2, by omega, fun D3 G3 s3 n3 h3 => ?_⟩
      · show [_, _, V.int (0 + (i : Int))] ++ [] = _
        rw [Int.zero_add]
        rfl
      · refine ⟨D3, _, rfl, .inl (.inl (.inl h3)), ?_⟩
        exact q _ _ _ (Fm.same s3) Ls.nil trivial rfl (by rw [List.length_map]; rfl)
    rintro G2 us2 bs2 f2 l2 - hbl2 hbp2 al2 hD2
    have ebs2 : bs2 = readsL m := list_of (by omega) hbp2
    subst ebs2
    have hp9 := f2.to_same _ _ hp8
    refine ⟨_, rfl, p, CM K, dx, _, rfl, hp9, clM T, nM _ (f_noat_M_reads T.c), (by show 4 < 1000; decide), ?_⟩
    rw [put5]
    have so9 := same_upd' (o := HO.ins (CM K) dx (fd5 (.int (m.per : Int)) (.ref a) (.ref b) (.ref e) (.ref D2))) (so8.trans f2.to_same) np
    have hp9' : (upd G2 p (HO.ins (CM K) dx (fd5 (.int (m.per : Int)) (.ref a) (.ref b) (.ref e) (.ref D2)))) p = _ := upd_same
    have he9 := tup_ins (o := HO.ins (CM K) dx (fd5 (.int (m.per : Int)) (.ref a) (.ref b) (.ref e) (.ref D2))) hp9 (f2.to_same _ _ he8)
    have hD9 : (upd G2 p (HO.ins (CM K) dx (fd5 (.int (m.per : Int)) (.ref a) (.ref b) (.ref e) (.ref D2)))) D2 = some (.lst us2) := by
      rw [upd_ne (fun z => by rw [z, hp9] at hD2; cases hD2)]
      exact hD2
    generalize upd G2 p (HO.ins (CM K) dx (fd5 (.int (m.per : Int)) (.ref a) (.ref b) (.ref e) (.ref D2))) = H9 at so9 hp9' he9 hD9
    refine ⟨_, rfl, pc, _, rfl, .inl (.inl (so9 _ _ hc)), ?_⟩
    refine for_it walk_enumT (fun i σ H' => Same H9 H' ∧ ∃ (x5 x6 x9 : Option V), σ = [some (.ref p), some (.ref a), some (.ref b), some (.ref pc), some (.ref r), x5, x6, none, none, x9, none]) ⟨Same.refl _, x5, x6, none, rfl⟩ (fun i σ H' _ h => .inl (.inl (h.1 _ _ (so9 _ _ hc)))) ?_ ?_
    · rintro i y σ G3 G4 hi ⟨s1, y5, y6, y9, rfl⟩ ⟨TT, v1, v2, rfl, nT, rfl, e1, e2⟩
      cases e1
      have s2 := same_upd nT (o := HO.tup [.int (i : Nat), v2])
      have s12 := s1.trans s2
      have so := so9.trans s12
      obtain ⟨st, hst, ast⟩ := ac.at e2
      have hm := List.mem_of_getElem? hst
      have hiL := (List.getElem?_eq_some_iff.mp hst).1
      refine ⟨TT, _, rfl, .inl (.inl upd_same), rfl, _, _, rfl, _, _, rfl, rfl, ?_⟩
      refine ⟨_, rfl, _, rfl, p, CM K, dx, _, _, rfl, s12 _ _ hp9', clM T, nM _ (f_noat_M_per_unit T.c), lk51 _ _ _ _ _, _, rfl, b, xb, m.outs, m.per, i, rfl, .inl (.inl (so _ _ hb)), rb.same so, W.okO, by omega, P1, P2, by omega, fun D3 G5 s3 n3 h3 => ?_⟩
      refine ⟨D3, _, rfl, .inl (.inl (.inl h3)), ?_⟩
      have s13 := s12.trans s3
      have a1 : us[i]? = some (.int (m.size i : Nat)) := by
        have hb1 : (sizesL m)[i]? = some (m.size i) := by unfold sizesL; rw [List.getElem?_map, List.getElem?_range hiL]; rfl
        obtain ⟨x, hx, ex⟩ := al.at2 hb1
        rw [hx]
        exact congrArg some ex
      have a2 : us2[i]? = some (.int ((dueL m.ins m.per i).length : Nat)) := by
        have hb1 : (readsL m)[i]? = some ((dueL m.ins m.per i).length) := by unfold readsL; rw [List.getElem?_map, List.getElem?_range hiL]; rfl
        obtain ⟨x, hx, ex⟩ := al2.at2 hb1
        rw [hx]
        exact congrArg some ex
      refine ⟨_, rfl, _, rfl, p, CM K, dx, _, _, rfl, s13 _ _ hp9', clM T, nM _ (f_noat_M_sizes T.c), lk54 _ _ _ _ _, _, rfl, e, _, _, _, rfl, rfl, .inl (.inl (s13 _ _ he9)), atI_nat a1, _, rfl, p, CM K, dx, _, _, rfl, s13 _ _ hp9', clM T, nM _ (f_noat_M_reads T.c), lk55 _ _ _ _ _, _, rfl, D2, _, _, _, rfl, rfl, .inl (.inl (s13 _ _ hD9)), atI_nat a2, _, rfl, ?_⟩
      have h4 := W.four st hm
      have ast' := ast.same (so9.trans s13)
      rw [step_four h4] at ast'
      have t0 := W.h0 i hiL; have t1 := W.h1 i hiL; have t2 := W.h2 i hiL; have t3 := W.h3 i hiL
      have r0 := W.r0 i hiL; have r1 := W.r1 i hiL
      have z0 := W.hs ((i + 1) % m.steps.length) (W.lt _)
      rw [m.size_mod W.l1] at z0
      have d1 : (dueL m.outs m.per i).length ≤ m.outs.length := dueN_le m.outs m.per i m.outs.length
      rw [m.step_at hst] at t0 t1 t2 t3
      rw [m.step_at hst] at t1
      rw [m.step_at hst, m.step_at hst] at r0 r1
      refine ⟨v2, _, _, _, _, m.size i, (dueL m.ins m.per i).length, (dueL m.outs m.per i).length, ?_, ast', t1, t2, t3, by omega, by omega, r0, r1, fun G6 s6 => ⟨_, rfl, iteF ⟨s13.trans s6, _, _, _, rfl⟩⟩⟩
      rw [List.length_map]
      rfl
    rintro σ H10 ⟨s10, y5, y6, y9, rfl⟩
    have so10 := so9.trans s10
    have hp10 := s10 _ _ hp9'
    have he10 := s10 _ _ he9
    -- _steps
    refine ⟨_, rfl, pc, rfl, ⟨_, .inl (.inl (so10 _ _ hc))⟩, fun D3 nD3 => ?_⟩
    refine lc_relT (Rel := NStep K) step_mono step_fr m.steps acl nD3 (.inl (.inl (so10 _ _ hc))) (by omega) (fun j x st hx hst G R s1 hD q => ?_) (fun G vs s1 hD a2 => ?_)
    · obtain ⟨ps, xs, rfl, hps, as⟩ := ac.2 j x st hx hst
      have hm := List.mem_of_getElem? hst
      have sG := so10.trans s1
      have h4 := W.four st hm
      refine ⟨_, rfl, ps, rfl, ⟨_, .inl (.inl (sG _ _ hps))⟩, fun D4 nD4 => ?_⟩
      refine lc_relT (Rel := NTab K) tab_mono tab_fr st as.1 nD4 (.inl (.inl (sG _ _ hps))) (by omega) (fun j2 y tb hy htb G2 R2 s2 hD2 q2 => ?_) (fun G2 us s2 hD2 a3 => ?_)
      · have hmt := List.mem_of_getElem? htb
        refine ⟨_, rfl, y, tb, rfl, (as.2 j2 y tb hy htb).same (sG.trans s2), (W.rowlen hm tb hmt).1, fun r hr => ⟨(W.rowlen hm tb hmt).2 r hr, fun c hc => Bnd.sz (W.g st hm tb hmt r hr c hc) (by decide) (by decide +kernel)⟩, fun G3 v s3 n => ?_⟩
        exact q2 G3 v s3 n
      · refine ⟨D4, us, rfl, .inl ⟨.inl (.inl hD2), fun l nl => ?_⟩⟩
        have sl := same_upd nl (o := HO.tup us)
        exact q _ _ (s2.trans sl) ⟨l, us, rfl, upd_same, a3.mono fun _ _ o => o.same row_mono sl⟩
    · refine ⟨D3, vs, rfl, .inl ⟨.inl (.inl hD), fun l nl => ?_⟩⟩
      have sl := same_upd nl (o := HO.tup vs)
      have s1l := s1.trans sl
      have hp11 := s1l _ _ hp10
      refine ⟨_, rfl, p, CM K, dx, _, rfl, hp11, clM T, nM _ (f_noat_M_steps T.c), (by show 5 < 1000; decide), ?_⟩
      rw [put6]
      have so11 := so10.trans s1l
      have ns : NSteps K (upd G l (HO.tup vs)) (.ref l) m.steps := ⟨l, vs, rfl, upd_same, a2.mono fun _ _ o => o.same tab_mono sl⟩
      refine k _ (same_upd' so11 np) ⟨dx, _, upd_same, a, b, e, .ref l, .ref D2, xa, xb, us, rfl, tup_ins hp11 (so11 _ _ ha), ?_, tup_ins hp11 (so11 _ _ hb), ?_, tup_ins hp11 (s1l _ _ he10), al, nsteps_ins hp11 (by show 5 ≠ 2; decide) ns⟩
      · exact ra.same (same_upd' so11 np)
      · exact rb.same (same_upd' so11 np)
end
end K54

namespace Hk
open PySem PySem.Spec PyProof.Rows L2 SX
/-! lists that grow -/
theorem nodup_idx {α : Type} {l : List α} (h : l.Nodup) {i j : Nat} {a : α} (hi : l[i]? = some a) (hj : l[j]? = some a) : i = j := by
  obtain ⟨l1, g1⟩ := List.getElem?_eq_some_iff.mp hi
  obtain ⟨l2, g2⟩ := List.getElem?_eq_some_iff.mp hj
  rcases Nat.lt_trichotomy i j with q | q | q
  · exact absurd (by rw [g1, g2]) (List.pairwise_iff_getElem.mp h i j l1 l2 q)
  · exact q
  · exact absurd (by rw [g1, g2]) (List.pairwise_iff_getElem.mp h j i l2 l1 q)
/-- at each of ss a list whose items stand so -/
structure ShAt {β : Type} (Rel : Hp → V → β → Prop) (H : Hp) (ss : List Addr) (os : List (List β)) : Prop where
  len : ss.length = os.length
  nd : ss.Nodup
  at_ : ∀ (i : Nat) (a : Addr) (o : List β), ss[i]? = some a → os[i]? = some o → ∃ vs, H a = some (.lst vs) ∧ All2 (Rel H) vs o
theorem ShAt.ls {β : Type} {Rel : Hp → V → β → Prop} {H : Hp} {ss : List Addr} {os : List (List β)} (h : ShAt Rel H ss os) : Ls ss H := fun a ha => by
  obtain ⟨i, hi⟩ := List.mem_iff_getElem?.mp ha
  have lt := (List.getElem?_eq_some_iff.mp hi).1
  have e : os[i]? = some (os[i]'(by have := h.len; omega)) := List.getElem?_eq_getElem _
  obtain ⟨vs, hv, _⟩ := h.at_ i a _ hi e
  exact ⟨vs, hv⟩
theorem ShAt.same {β : Type} {Rel : Hp → V → β → Prop} {H H' : Hp} {ss : List Addr} {os : List (List β)} (h : ShAt Rel H ss os) (f : Framed ss Rel) (s : Same H H') : ShAt Rel H' ss os :=
  ⟨h.len, h.nd, fun i a o h1 h2 => by
    obtain ⟨vs, hv, al⟩ := h.at_ i a o h1 h2
    exact ⟨vs, s _ _ hv, al.mono fun v b r => f H H' v b h.ls (Fm.same s) r⟩⟩
theorem ShAt.put {β : Type} {Rel : Hp → V → β → Prop} {H : Hp} {ss : List Addr} {os : List (List β)} (h : ShAt Rel H ss os) (f : Framed ss Rel) {i : Nat} {a : Addr} {vs : List V} {v : V} {b : β} (hi : ss[i]? = some a) (ha : H a = some (.lst vs)) (r : Rel H v b) :
    ShAt Rel (upd H a (.lst (vs ++ [v]))) ss (os.modify i fun l => l ++ [b]) := by
  have fm : Fm ss H (upd H a (.lst (vs ++ [v]))) := (Fm.refl ss H).put (List.mem_of_getElem? hi)
  refine ⟨by rw [List.length_modify]; exact h.len, h.nd, fun j c o hj ho => ?_⟩
  have lj := (List.getElem?_eq_some_iff.mp hj).1
  have e : os[j]? = some (os[j]'(by have := h.len; omega)) := List.getElem?_eq_getElem _
  generalize os[j]'(by have := h.len; omega) = oj at e
  obtain ⟨us, hu, al⟩ := h.at_ j c oj hj e
  rw [List.getElem?_modify, e] at ho
  by_cases q : i = j
  · subst q
    rw [hi] at hj
    cases hj
    rw [hu] at ha
    cases ha
    simp at ho
    subst ho
    refine ⟨_, upd_same, All2.app (al.mono fun x y z => f _ _ _ _ h.ls fm z) (All2.cons (f _ _ _ _ h.ls fm r) All2.nil)⟩
  · have ne : c ≠ a := fun z => by
      subst z
      exact q (nodup_idx h.nd hi hj)
    simp [q] at ho
    subst ho
    exact ⟨us, by rw [upd_ne ne]; exact hu, al.mono fun x y z => f _ _ _ _ h.ls fm z⟩
/-- [[] for x in ..] -/
theorem lc_empty {J : It} {n : Nat} {G : Hp → Prop} {Y : Nat → Hp → V → Hp → Prop} (w : Walk J n G Y) {k : Nat} {σ : L2.St} {H1 : Hp} {D : Addr} {Qd : Hp → Prop} (nD : H1 D = none) (hn : n ≤ 100000) (hG : ∀ H, Same H1 H → G H) (hY : ∀ i H x H', Y i H x H' → Same H H')
    (hd : ∀ H (ss : List Addr), Same H1 H → ss.length = n → ss.Nodup → (∀ a ∈ ss, H1 a = none ∧ a ≠ D ∧ H a = some (.lst [])) → H D = some (.lst (ss.map V.ref)) → Qd H) :
    ∃ W : Nat → Nat → Hp → Prop, (∃ m, W 0 m (upd H1 D (.lst []))) ∧ ∀ i m H, W i m H →
      (J.stop i H ∧ Qd H) ∨ (J.go i H ∧ ∃ Nx : Hp → Prop, (∀ H', Nx H' → ∃ m', m' < m ∧ W (i + 1) m' H') ∧ ∀ x H', J.yld i H x H' → gName k x (wipe σ [k]) H' fun σ2 H2 => wipe σ2 [k] = wipe σ [k] ∧ tYes σ2 H2 fun b H3 =>
        if b = true then tLst tNil σ2 H3 fun y H4 => ∃ acc, H4 D = some (.lst acc) ∧ acc.length < sizeLine ∧ Nx (upd H4 D (.lst (acc ++ [y]))) else Nx H3) := by
  refine lc_it w (fun i H' => Same H1 H' ∧ ∃ ss : List Addr, ss.length = i ∧ ss.Nodup ∧ (∀ a ∈ ss, H1 a = none ∧ a ≠ D ∧ H' a = some (.lst [])) ∧ H' D = some (.lst (ss.map V.ref))) ⟨same_upd nD, [], rfl, List.nodup_nil, (fun a h => by simp at h), upd_same⟩ (fun i H' _ h => hG H' h.1) ?_ ?_
  · rintro i x H H' hi ⟨s1, ss, hl, hnd, hss, hD⟩ y
    have s2 := hY i H x H' y
    have hs3 : (100000 : Nat) < sizeLine := by decide
    refine ⟨by show (σ.set k none |>.set k (some x)).set k none = σ.set k none; rw [List.set_set, List.set_set], ?_⟩
    unfold tYes
    dsimp only
    rw [if_pos rfl]
    refine ⟨(by show 0 ≤ sizeLine; decide), fun p np => ?_⟩
    have s3 := same_upd np (o := HO.lst [])
    have s23 := s2.trans s3
    have pD : p ≠ D := fun z => by rw [z, s2 _ _ hD] at np; cases np
    have ps : p ∉ ss := fun z => by rw [s2 _ _ (hss p z).2.2] at np; cases np
    refine ⟨_, s23 _ _ hD, by rw [List.length_map]; omega, same_upd' (s1.trans s23) nD, ss ++ [p], by rw [List.length_append, hl]; rfl, ?_, ?_, by rw [upd_same, List.map_append]; rfl⟩
    · exact List.nodup_append.mpr ⟨hnd, by simp, fun a ha b hb => by
        rw [List.mem_singleton.mp hb]
        exact fun z => ps (z ▸ ha)⟩
    · intro a ha
      rcases List.mem_append.mp ha with h | h
      · obtain ⟨h1, h2, h3⟩ := hss a h
        exact ⟨h1, h2, by rw [upd_ne h2]; exact s23 _ _ h3⟩
      · rw [List.mem_singleton.mp h]
        refine ⟨?_, pD, by rw [upd_ne pD]; exact upd_same⟩
        cases q : H1 p with
        | none => rfl
        | some o =>
          rw [s2 _ _ (s1 _ _ q)] at np
          cases np
  · rintro H ⟨s1, ss, hl, hnd, hss, hD⟩
    exact hd H ss s1 hl hnd hss hD
theorem ShAt.start {β : Type} {Rel : Hp → V → β → Prop} {H : Hp} {ss : List Addr} {n : Nat} (hl : ss.length = n) (nd : ss.Nodup) (h : ∀ a ∈ ss, H a = some (.lst [])) {os : List (List β)} (ho : os.length = n) (he : ∀ o ∈ os, o = []) : ShAt Rel H ss os :=
  ⟨by omega, nd, fun i a o h1 h2 => ⟨[], h a (List.mem_of_getElem? h1), by rw [he o (List.mem_of_getElem? h2)]; exact All2.nil⟩⟩
end Hk

namespace Hk
open PySem PySem.Spec PyProof.Rows L2 SX
theorem gT2_mono {K : Fr} {n i j : Nat} : ∀ x σ H (Q1 Q2 : L2.St → Hp → Prop), (∀ σ H, Q1 σ H → Q2 σ H) → gTup K n (gCons (gName i) (gCons (gName j) gNil)) x σ H Q1 → gTup K n (gCons (gName i) (gCons (gName j) gNil)) x σ H Q2 := by
  rintro x σ H Q1 Q2 h ⟨a, xs, e, q, l, v, r, e2, v2, r2, e3, e4, k⟩
  exact ⟨a, xs, e, q, l, v, r, e2, v2, r2, e3, e4, h _ _ k⟩
theorem fm_same {H H1 H' : Hp} {ss : List Addr} (s : Same H H1) (n : ∀ a ∈ ss, H a = none) (f : Fm ss H1 H') : Same H H' := fun x o e => f x o (fun z => by rw [n x z] at e; cases e) (s x o e)
end Hk
namespace K54
open PySem PySem.Spec PyProof.Rows L2 Hk NumM NumT SX Hz
/-! what a machine tells of itself -/
def spMG (K : Fr) (R : Hp → Mac → V → Prop) : Sp := fun vs H Q _ => ∃ (p : Addr) (m : Mac), vs = [.ref p] ∧ MachAt K H p m ∧ Wf m ∧ ∀ v, R H m v → Q v H
abbrev RtsV (f : Mac → Rts) (H : Hp) (m : Mac) (v : V) : Prop := ∃ a xa, v = .ref a ∧ H a = some (.tup xa) ∧ RtT H xa (f m)
section
variable {P : Program} {w : World} {K : Fr} {mg : Str → Option Value} {base : Heap}
theorem f_mins (T : Tx K mg) : ∃ fd, DAt K d_Machine_input_rates fd ∧ FnOk P w K mg base CX0 1 (d_Machine_input_rates.ad K) fd ["self"] (spMG K (RtsV (·.ins))) := by
  obtain ⟨fd, D⟩ := a_Machine_input_rates T.c
  refine ⟨fd, D, ok_of (N := ["self"]) D sc_Machine_input_rates (fun vs H Q E h => ?_) (fun cdv A outer s H vs Q E hr h => ?_)⟩
  · obtain ⟨p, m, rfl, _⟩ := h
    rfl
  · obtain ⟨p, m, rfl, ⟨dx, fs, hp, a, b, e, c, d, xa, xb, xe, rfl, h1, h2, h3, h4, h5, h6, h7⟩, W, k⟩ := h
    exact ⟨_, pss_one (ps_ret (pe_fld (pv 0) rfl)), _, rfl, p, CM K, dx, _, _, rfl, hp, clM T, He.noat_ok (f_noat_M_input_rates T.c), lk62 _ _ _ _ _ _, k _ ⟨a, xa, rfl, h1, h2⟩⟩
theorem f_mouts (T : Tx K mg) : ∃ fd, DAt K d_Machine_output_rates fd ∧ FnOk P w K mg base CX0 1 (d_Machine_output_rates.ad K) fd ["self"] (spMG K (RtsV (·.outs))) := by
  obtain ⟨fd, D⟩ := a_Machine_output_rates T.c
  refine ⟨fd, D, ok_of (N := ["self"]) D sc_Machine_output_rates (fun vs H Q E h => ?_) (fun cdv A outer s H vs Q E hr h => ?_)⟩
  · obtain ⟨p, m, rfl, _⟩ := h
    rfl
  · obtain ⟨p, m, rfl, ⟨dx, fs, hp, a, b, e, c, d, xa, xb, xe, rfl, h1, h2, h3, h4, h5, h6, h7⟩, W, k⟩ := h
    exact ⟨_, pss_one (ps_ret (pe_fld (pv 0) rfl)), _, rfl, p, CM K, dx, _, _, rfl, hp, clM T, He.noat_ok (f_noat_M_output_rates T.c), lk63 _ _ _ _ _ _, k _ ⟨b, xb, rfl, h3, h4⟩⟩
theorem f_msteps (T : Tx K mg) : ∃ fd, DAt K d_Machine_steps fd ∧ FnOk P w K mg base CX0 1 (d_Machine_steps.ad K) fd ["self"] (spMG K (fun H m v => NSteps K H v m.steps)) := by
  obtain ⟨fd, D⟩ := a_Machine_steps T.c
  refine ⟨fd, D, ok_of (N := ["self"]) D sc_Machine_steps (fun vs H Q E h => ?_) (fun cdv A outer s H vs Q E hr h => ?_)⟩
  · obtain ⟨p, m, rfl, _⟩ := h
    rfl
  · obtain ⟨p, m, rfl, ⟨dx, fs, hp, a, b, e, c, d, xa, xb, xe, rfl, h1, h2, h3, h4, h5, h6, h7⟩, W, k⟩ := h
    exact ⟨_, pss_one (ps_ret (pe_fld (pv 0) rfl)), _, rfl, p, CM K, dx, _, _, rfl, hp, clM T, He.noat_ok (f_noat_M_steps T.c), lk66 _ _ _ _ _ _, k _ h7⟩
end
end K54

namespace K54
open PySem PySem.Spec PyProof.Rows L2 Hk NumM NumT SX Hz
theorem stand_dvd {r : Nat × Nat} {per t : Nat} (h : stand r per t = true) : idx r per t * (per * r.2) = t * r.1 := Nat.div_mul_cancel (Nat.dvd_of_mod_eq_zero (of_decide_eq_true h))
theorem idx_lt {r : Nat × Nat} {per t u : Nat} (o : ROk r) (p1 : 1 ≤ per) (h : stand r per t = true) (ht : t < u * per) : idx r per t < cnt r u := by
  refine (cnt_lt o.b1).mp ?_
  have e := stand_dvd h
  have o1 := o.t1
  have h1 : t * r.1 < u * per * r.1 := Nat.mul_lt_mul_of_pos_right ht o1
  rw [← e] at h1
  have e1 : idx r per t * (per * r.2) = per * (idx r per t * r.2) := by
    rw [Nat.mul_comm per r.2, ← Nat.mul_assoc, Nat.mul_comm]
  have e2 : u * per * r.1 = per * (u * r.1) := by rw [Nat.mul_comm u per, Nat.mul_assoc]
  rw [e1, e2] at h1
  exact Nat.lt_of_mul_lt_mul_left h1
/-- the samples that are due -/
structure RowsOk (m : Mac) (rows : List (List Rat)) (u : Nat) : Prop where
  len : rows.length = m.ins.length
  cnt : ∀ (i : Nat) (r : List Rat) (q : Nat × Nat), rows[i]? = some r → m.ins[i]? = some q → r.length = cnt q u
  bnd : RowsB rows
theorem sumIn_r {K : Fr} {H : Hp} {x : V} {l z : Addr} {r qs : List Rat} {us : List V} {t : Nat} (ht : t ≤ 54) (h6 : r.length ≤ 6 ∧ ∀ q ∈ r, Bnd 6 18 q) (hq : ∀ q ∈ qs, Bnd 6 66 q) (row : NRow K H x r) (at_ : H l = some (.lst us)) (al : All2 (NumV K H) us qs) (tot : NumQ (CN K) H z 0) :
    SumIn K H x l z r qs 0 us (dK (t + 1)) (1188 * 6 ^ (t + 1)) 0 := by
  have h := bK_sm (t := t + 1) (by omega)
  have h2 := bK_sum t
  have h3 : r.length * (1188 * 6 ^ (t + 1)) ≤ 6 * (1188 * 6 ^ (t + 1)) := Nat.mul_le_mul_right _ h6.1
  exact ⟨row, at_, al, tot, prB_r h6.2 hq, Bnd.zero _, dK_pos _, h.2, by omega, by have := h6.1; omega, fun c hc => Bnd.smq (h6.2 c hc) (by decide) (by decide +kernel) (by decide +kernel), fun c hc => Bnd.smq (hq c hc) (by decide) (by decide +kernel) (by decide +kernel)⟩
theorem sumIn_k {K : Fr} {H : Hp} {x : V} {l z : Addr} {r qs : List Rat} {us : List V} {t : Nat} {tt : Rat} (ht : t ≤ 54) (h6 : r.length ≤ 6 ∧ ∀ q ∈ r, Bnd 6 18 q) (hq : ∀ q ∈ qs, Bnd (dK t) (bK t) q) (row : NRow K H x r) (at_ : H l = some (.lst us)) (al : All2 (NumV K H) us qs) (tot : NumQ (CN K) H z tt) (tb : Bnd (dK (t + 1)) (6 * (1188 * 6 ^ (t + 1))) tt) :
    SumIn K H x l z r qs tt us (dK (t + 1)) (18 * bK t) (6 * (1188 * 6 ^ (t + 1))) := by
  have h := bK_sm (t := t + 1) (by omega)
  have h0 := bK_sm (t := t) (by omega)
  have h2 := bK_sum t
  have h3 : r.length * (18 * bK t) ≤ 6 * (18 * bK t) := Nat.mul_le_mul_right _ h6.1
  exact ⟨row, at_, al, tot, prB_k h6.2 hq, tb, dK_pos _, h.2, by omega, by have := h6.1; omega, fun c hc => Bnd.smq (h6.2 c hc) (by decide) (by decide +kernel) (by decide +kernel), fun c hc => Bnd.smq (hq c hc) (dK_pos _) h0.2 h0.1⟩
theorem dot_r {r qs : List Rat} {t : Nat} (h6 : r.length ≤ 6 ∧ ∀ q ∈ r, Bnd 6 18 q) (hq : ∀ q ∈ qs, Bnd 6 66 q) : Bnd (dK (t + 1)) (6 * (1188 * 6 ^ (t + 1))) (0 + dotQ r qs) := by
  rw [Rat.zero_add]
  exact (dotQ_bnd (dK_pos _) r qs (prB_r h6.2 hq)).le (Nat.mul_le_mul_right _ h6.1)
theorem putAll_le (is : List Nat) : ∀ (o : List (List Rat)) (vs : List Rat) (B : Nat), (∀ l ∈ o, l.length ≤ B) → ∀ l ∈ putAll o is vs, l.length ≤ B + is.length := by
  induction is with
  | nil => intro o vs B h l hl; exact Nat.le_trans (h l hl) (by omega)
  | cons i is ih =>
    intro o vs B h l hl
    cases vs with
    | nil => exact Nat.le_trans (h l hl) (by omega)
    | cons v vs =>
      have := ih (o.modify i fun l => l ++ [v]) vs (B + 1) (fun l' h' => by
        obtain ⟨j, hj⟩ := List.mem_iff_getElem?.mp h'
        rw [List.getElem?_modify] at hj
        cases e : o[j]? with
        | none => rw [e] at hj; simp at hj
        | some x =>
          have := h x (List.mem_of_getElem? e)
          rw [e] at hj
          by_cases q : i = j
          · simp [q] at hj
            rw [← hj, List.length_append]
            simp
            omega
          · simp [q] at hj
            rw [← hj]
            omega) l hl
      rw [List.length_cons]
      omega
theorem Wf.shown_le {m : Mac} (w : Wf m) (rows : List (List Rat)) : ∀ t, ∀ l ∈ m.shown rows t, l.length ≤ t * 6
  | 0 => fun l hl => by
    unfold Mac.shown at hl
    obtain ⟨_, _, rfl⟩ := List.mem_map.mp hl
    simp
  | t + 1 => fun l hl => by
    have h1 := putAll_le _ _ _ _ (w.shown_le rows t) l hl
    have h2 : (dueL m.outs m.per t).length ≤ m.outs.length := dueN_le m.outs m.per t m.outs.length
    have := w.o2
    omega
theorem Mac.tab_get {m : Mac} {t j : Nat} {s : List Table} {u : Table} (h : m.steps[t % m.steps.length]? = some s) (hu : s[j]? = some u) : m.tab t j = u := by
  unfold Mac.tab
  rw [List.getD_eq_getElem?_getD (l := m.steps), h, Option.getD_some, List.getD_eq_getElem?_getD, hu, Option.getD_some]
section
variable {P : Program} {w : World} {K : Fr} {mg : Str → Option Value} {base : Heap}
abbrev NList (K : Fr) : Hp → V → List Rat → Prop := LstOf [] (NumV K)
def spWalk (K : Fr) : Sp := fun vs H Q _ => ∃ (p rl kl z : Addr) (u : Nat) (m : Mac) (rows : List (List Rat)) (xr us : List V), vs = [.ref p, .int (u : Int), .ref rl, .ref kl, .ref z] ∧ MachAt K H p m ∧ Wf m ∧ RowsOk m rows u ∧ u * m.per ≤ 54 ∧
  H rl = some (.lst xr) ∧ All2 (NList K H) xr rows ∧ H kl = some (.lst us) ∧ All2 (NumV K H) us (List.replicate (m.size 0) 0) ∧ NumQ (CN K) H z 0 ∧
  ∀ H' t S L, Same H H' → H' t = some (.tup [S, L]) → LstOf [] (NList K) H' S (m.shown rows (u * m.per)) → Q (.ref t) H'
abbrev N_walked : List Str := ["machine", "until", "rows", "kept", "zero", "per_unit", "shown", "_", "tick", "read", "at", "lead", "take", "show", "give", "one", "other"]
theorem c_walked (T : Tx K mg) : Cal P w K mg base 7 "walked" (gAd "walked" K) ["machine", "until", "rows", "kept", "zero"] (spWalk K) := by
  have C_ticks_per_unit := c_tpu (P := P) (w := w) (base := base) T
  have C_due_at := c_due (P := P) (w := w) (base := base) T
  have C_summed := c_summed (P := P) (w := w) (base := base) T
  obtain ⟨fI, DI, FI⟩ := f_mins (P := P) (w := w) (base := base) T
  obtain ⟨fO, DO, FO⟩ := f_mouts (P := P) (w := w) (base := base) T
  obtain ⟨fS, DS, FS⟩ := f_msteps (P := P) (w := w) (base := base) T
  have bI : Binds K fI ["self"] [] := FunD.bindsN DI fun _ _ _ _ _ _ us hl => match us, hl with | [_], _ => rfl
  have bO : Binds K fO ["self"] [] := FunD.bindsN DO fun _ _ _ _ _ _ us hl => match us, hl with | [_], _ => rfl
  have bS : Binds K fS ["self"] [] := FunD.bindsN DS fun _ _ _ _ _ _ us hl => match us, hl with | [_], _ => rfl
  refine cal_of (d := d_walked) (N := N_walked) (a_walked T.c) rfl sc_walked (g_walked T) (fun _ _ _ _ _ _ us hl => match us, hl with | [_, _, _, _, _], _ => rfl) (fun vs H Q E h => ?_) (fun cdv A outer s H vs Q E hr h => ?_)
  · obtain ⟨p, rl, kl, z, u, m, rows, xr, us, rfl, _⟩ := h
    rfl
  · obtain ⟨p, rl, kl, z, u, m, rows, xr, us, rfl, hM, W, RO, hu, hrl, arl, hkl, akl, hz, k⟩ := h
    have r2 : Room 2 _ := hr.mono (by decide)
    refine ⟨_, (pss_cons (ps_set (i := 5) sc_walked.nd rfl (.inr rfl) (pe_c C_ticks_per_unit (hr.mono (by decide)) (pa_cons (pe_op op_catA (pe_prop (pv 0) (clM T) (prop_ok (f_prop_input_rates T.c)) FI r2 bI .nil pass0 rfl) (pe_prop (pv 0) (clM T) (prop_ok (f_prop_output_rates T.c)) FO r2 bO .nil pass0 rfl)) pa_nil)))
 (pss_cons (ps_setLc (i := 6) (own := [("_", 7)]) (g := gName 7) (tt := tYes) rfl sc_walked.nd rfl rfl (sw_true rfl rfl rfl (by decide +kernel)) (pi_tup (pe_prop (pv 0) (clM T) (prop_ok (f_prop_output_rates T.c)) FO r2 bO .nil pass0 rfl)) (blkOk_by (N := N_walked) (sc := defScope s_walked) (by decide +kernel)) (fun _ _ _ _ _ => pg_name (i := 7) sc_walked.nd rfl (.inl rfl)) (fun _ _ _ _ _ => pts_nil) (fun _ _ _ _ _ => (pe_lst pa_nil)))
 (pss_cons (ps_for PassesOwn.never rfl (pi_range1 (by rfl) (n_range T) (pa_cons (pe_op op_mulW (pv 1) (pv 5)) pa_nil)) (pg_name (i := 8) sc_walked.nd rfl (.inr rfl))
 (pss_cons (ps_set (i := 9) sc_walked.nd rfl (.inr rfl) (pe_lc (own := [("at", 10)]) (g := gName 10) (tt := tYes) rfl sc_walked.nd (pi_list (pe_c C_due_at (hr.mono (by decide)) (pa_cons (pe_prop (pv 0) (clM T) (prop_ok (f_prop_input_rates T.c)) FI r2 bI .nil pass0 rfl) (pa_cons (pv 5) (pa_cons (pv 8) pa_nil))))) (blkOk_by (N := N_walked) (sc := defScope s_walked) (by decide +kernel)) (fun _ _ _ _ _ => pg_name (i := 10) sc_walked.nd rfl (.inl rfl)) (fun _ _ _ _ _ => pts_nil) (fun _ _ _ _ _ => (pe_ix (ix_list : IxR _ (rIxL K)) (pe_ix (ix_list : IxR _ (rIxL K)) (pv 2) (pv 10) (fun _ _ => rfl)) (pe_op op_fdivW (pe_op op_mulW (pv 8) (pe_ix (ix_tup : IxR _ (rIxT K)) (pe_ix (ix_tup : IxR _ (rIxT K)) (pe_prop (pv 0) (clM T) (prop_ok (f_prop_input_rates T.c)) FI r2 bI .nil pass0 rfl) (pv 10) (fun _ _ => rfl)) pe_int (fun _ _ => rfl))) (pe_op op_mulW (pv 5) (pe_ix (ix_tup : IxR _ (rIxT K)) (pe_ix (ix_tup : IxR _ (rIxT K)) (pe_prop (pv 0) (clM T) (prop_ok (f_prop_input_rates T.c)) FI r2 bI .nil pass0 rfl) (pv 10) (fun _ _ => rfl)) pe_int (fun _ _ => rfl)))) (fun _ _ => rfl)))))
 (pss_cons (ps_asg (pe_ix ix_tup (pe_prop (pv 0) (clM T) (prop_ok (f_prop_steps T.c)) FS r2 bS .nil pass0 rfl) (pe_op op_modN (pv 8) (pe_callB call_len_seq (by rfl) (n_len T) bo_len (pa_cons (pe_prop (pv 0) (clM T) (prop_ok (f_prop_steps T.c)) FS r2 bS .nil pass0 rfl) pa_nil))) (fun _ _ => rfl)) (pg_tup (by rfl) (pgs_cons (pg_name (i := 11) sc_walked.nd rfl (.inl rfl)) (pgs_cons (pg_name (i := 12) sc_walked.nd rfl (.inl rfl)) (pgs_cons (pg_name (i := 13) sc_walked.nd rfl (.inl rfl)) (pgs_cons (pg_name (i := 14) sc_walked.nd rfl (.inl rfl)) pgs_nil))))))
 (pss_cons (ps_for PassesOwn.never rfl (pi_zip3 false true true (by rfl) (n_zip T) (pa_cons (pe_c C_due_at (hr.mono (by decide)) (pa_cons (pe_prop (pv 0) (clM T) (prop_ok (f_prop_output_rates T.c)) FO r2 bO .nil pass0 rfl) (pa_cons (pv 5) (pa_cons (pv 8) pa_nil)))) (pa_cons (pv 13) (pa_cons (pv 14) pa_nil)))) (pg_tup (by rfl) (pgs_cons (pg_name (i := 10) sc_walked.nd rfl (.inl rfl)) (pgs_cons (pg_name (i := 15) sc_walked.nd rfl (.inl rfl)) (pgs_cons (pg_name (i := 16) sc_walked.nd rfl (.inl rfl)) pgs_nil))))
 (pss_one (ps_expr (pe_bm PySem.F.plainAttrs_list PySem.F.slot_list_append PySem.F.type_list_append mt_append (pe_ix ix_list (pv 6) (pv 10) (fun _ _ => rfl)) (pa_cons (pe_c C_summed hr (pa_cons (pv 15) (pa_cons (pv 3) (pa_cons (pe_c C_summed hr (pa_cons (pv 16) (pa_cons (pv 9) (pa_cons (pv 4) pa_nil)))) pa_nil)))) pa_nil)))))
 (pss_one (ps_set (i := 3) sc_walked.nd rfl (.inr rfl) (pe_lc (own := [("one", 15), ("other", 16)]) (g := gTup K 2 (gCons (gName 15) (gCons (gName 16) gNil))) (tt := tYes) rfl sc_walked.nd (pi_zip2 true true (by rfl) (n_zip T) (pa_cons (pv 11) (pa_cons (pv 12) pa_nil))) (blkOk_by (N := N_walked) (sc := defScope s_walked) (by decide +kernel)) (fun _ _ _ _ _ => pg_tup (by rfl) (pgs_cons (pg_name (i := 15) sc_walked.nd rfl (.inl rfl)) (pgs_cons (pg_name (i := 16) sc_walked.nd rfl (.inl rfl)) pgs_nil))) (fun _ _ _ _ _ => pts_nil) (fun _ _ _ _ _ => (pe_c C_summed hr (pa_cons (pv 15) (pa_cons (pv 3) (pa_cons (pe_c C_summed hr (pa_cons (pv 16) (pa_cons (pv 9) (pa_cons (pv 4) pa_nil)))) pa_nil))))))))))))
 (pss_one (ps_ret (pe_tup (pa_cons (pv 6) (pa_cons (pv 3) pa_nil)))))))), ?_⟩
    obtain ⟨dx, fs, hp, hF⟩ := id hM
    have P1 := W.p1
    have P2 := W.p2
    have I1 := W.i1
    have I2 := W.i2
    have O2 := W.o2
    have L1 := W.l1
    have L2 := W.l2
    have ule : u ≤ 54 := Nat.le_trans (Nat.le_mul_of_pos_right u P1) hu
    refine ⟨_, rfl, p, dx, _, rfl, hp, p, m, rfl, hM, W, fun v r => ?_⟩
    obtain ⟨a, xa, rfl, ha, ra⟩ := r
    refine ⟨_, rfl, p, dx, _, rfl, hp, p, m, rfl, hM, W, fun v r => ?_⟩
    obtain ⟨b, xb, rfl, hb, rb⟩ := r
    have la : xa.length = m.ins.length := ra.1
    have lb : xb.length = m.outs.length := rb.1
    refine cat_tup ha hb (by omega) fun q H1 s1 hq => ?_
    refine ⟨q, _, m.all, rfl, .inl (.inl hq), (ra.same s1).app (rb.same s1), W.ok, ?_⟩
    rw [show lcmL (List.map (fun x => x.1) m.all) = m.per from rfl]
    refine ⟨_, rfl, p, dx, _, rfl, s1 _ _ hp, p, m, rfl, hM.same s1, W, fun v r => ?_⟩
    obtain ⟨b2, xb2, rfl, hb2, rb2⟩ := r
    have lb2 : xb2.length = m.outs.length := rb2.1
    refine ⟨b2, rfl, ⟨_, .inl (.inl hb2)⟩, fun D nD => ?_⟩
    refine lc_empty walk_tup nD (by omega) (fun H' s' => .inl (.inl (s' _ _ hb2))) (fun i H x H' y => by rw [y.1]; exact Same.refl _) (fun H2 ss s2 hl nd hss hD => ?_)
    have hn1 : ∀ a ∈ ss, H a = none := fun a h => by
      cases e : H a with
      | none => rfl
      | some o => have := (hss a h).1; rw [s1 _ _ e] at this; cases this
    have s12 := s1.trans s2
    have nD2 : D ∉ ss := fun h => (hss D h).2.1 rfl
    have sh0 : ShAt (NumV K) H2 ss (m.shown rows 0) := ShAt.start (n := m.outs.length) (by omega) nd (fun a h => (hss a h).2.2) (m.shown_len rows 0) (fun o ho => by
      unfold Mac.shown at ho
      obtain ⟨_, _, rfl⟩ := List.mem_map.mp ho
      rfl)
    have out : ∀ x o, H x = some o → x ∉ ss := fun x o e z => by rw [hn1 x z] at e; cases e
    refine ⟨_, rfl, _, rfl, _, _, rfl, rfl, cmul (by omega) (by omega), _, rfl, by omega, ?_, ?_⟩
    · rw [← Int.natCast_mul]
      omega
    have en : ((u : Int) * (m.per : Int)).toNat = u * m.per := by rw [← Int.natCast_mul]; rfl
    have hFr : Framed ss (NumV K) := framed_num
    refine for_range (fun i σ H' => Fm ss H2 H' ∧ ShAt (NumV K) H' ss (m.shown rows i) ∧ ∃ (kl' : Addr) (us' : List V) (x8 x9 x10 x11 x12 x13 x14 x15 x16 : Option V), kl' ∉ ss ∧ H' kl' = some (.lst us') ∧ All2 (NumV K H') us' (m.kept rows i) ∧ σ = [some (.ref p), some (.int (u : Int)), some (.ref rl), some (.ref kl'), some (.ref z), some (.int (m.per : Int)), some (.ref D), none, x8, x9, x10, x11, x12, x13, x14, x15, x16]) ⟨Fm.refl _ _, sh0, kl, us, none, none, none, none, none, none, none, none, none, out kl _ hkl, s12 _ _ hkl, akl.mono fun _ _ h => h.same s12, rfl⟩ ?_ ?_
    · rintro i σ G hi ⟨f1, sh, kl', us', x8, x9, x10, x11, x12, x13, x14, x15, x16, nkl, hkl', akl', rfl⟩
      have e0 : (0 : Int) + (i : Int) = ((i : Nat) : Int) := by omega
      rw [e0]
      rw [en] at hi
      have sG : Same H G := fm_same s12 hn1 f1
      have hMG := hM.same sG
      refine ⟨_, rfl, p, dx, _, rfl, sG _ _ hp, p, m, rfl, hMG, W, fun v r => ?_⟩
      obtain ⟨ai, xai, rfl, hai, rai⟩ := r
      refine ⟨_, rfl, _, rfl, ai, xai, m.ins, m.per, i, rfl, .inl (.inl hai), rai, W.okI, by omega, P1, P2, by omega, fun Dd G1 t1 nDd hDd => ?_⟩
      refine ⟨Dd, rfl, ⟨_, .inl (.inl hDd)⟩, fun D5 nD5 => ?_⟩
      have sG1 := sG.trans t1
      have hP0 : 1 ≤ m.per := P1
      refine lc_relL (Rel := NumV K) num_mono num_fr (m.rd rows i) (by rw [List.length_map, m.rd_len]) nD5 (.inl (.inl hDd)) (by
        rw [m.rd_len]
        have : (dueL m.ins m.per i).length ≤ m.ins.length := dueN_le m.ins m.per i m.ins.length
        omega) (fun j x b hx hb' G2 R t2 hD5 qq => ?_) (fun G2 ur t2 hD5 aur => ?_)
      · obtain ⟨c, hc, rfl⟩ := Option.map_eq_some_iff.mp (by rwa [List.getElem?_map] at hx)
        obtain ⟨hcn, rt, hrt, hst⟩ := dueN_lt m.ins m.per i _ c (List.mem_of_getElem? hc)
        have o := W.okI rt (List.mem_of_getElem? hrt)
        have o1 := o.t1; have o2 := o.t2; have o3 := o.b1; have o4 := o.b2
        have hrw : rows[c]? = some (rows[c]'(by rw [RO.len]; exact hcn)) := List.getElem?_eq_getElem _
        generalize rows[c]'(by rw [RO.len]; exact hcn) = rw_ at hrw
        have il : idx rt m.per i < rw_.length := by
          rw [RO.cnt c rw_ rt hrw hrt]
          exact idx_lt o P1 hst hi
        have eb : rw_[idx rt m.per i]? = some b := by
          unfold Mac.rd at hb'
          rw [List.getElem?_map, hc] at hb'
          have e := Option.some.inj hb'
          unfold rateAt at e
          dsimp only at e
          rw [List.getD_eq_getElem?_getD (l := rows), hrw, Option.getD_some, List.getD_eq_getElem?_getD (l := m.ins), hrt, Option.getD_some, List.getD_eq_getElem?_getD] at e
          rw [List.getElem?_eq_getElem il, Option.getD_some] at e
          rw [List.getElem?_eq_getElem il, e]
        have s2 := sG1.trans t2
        obtain ⟨xx, hxx, ri, xri, rfl, _, hri, ari⟩ := arl.at2 hrw
        obtain ⟨vb, hvb, nb⟩ := ari.at2 eb
        have hM2 := hM.same s2
        refine ⟨_, rfl, _, rfl, rl, _, _, _, rfl, rfl, .inl (.inl (s2 _ _ hrl)), atI_nat hxx, _, rfl, _, rfl, p, dx, _, rfl, s2 _ _ hp, p, m, rfl, hM2, W, fun v r => ?_⟩
        obtain ⟨a3, xa3, rfl, ha3, ra3⟩ := r
        obtain ⟨x3, hx3, pr, rfl, hpr⟩ := ra3.at2 hrt
        refine ⟨_, rfl, a3, _, _, _, rfl, rfl, .inl (.inl ha3), atI_nat hx3, pr, _, _, _, rfl, rfl, .inl (.inl hpr), rfl, _, _, rfl, rfl, cmul (by omega) (by omega), _, rfl, _, rfl, p, dx, _, rfl, s2 _ _ hp, p, m, rfl, hM2, W, fun v r => ?_⟩
        obtain ⟨a4, xa4, rfl, ha4, ra4⟩ := r
        obtain ⟨x4, hx4, pr4, rfl, hpr4⟩ := ra4.at2 hrt
        refine ⟨_, rfl, a4, _, _, _, rfl, rfl, .inl (.inl ha4), atI_nat hx4, pr4, _, _, _, rfl, rfl, .inl (.inl hpr4), rfl, _, _, rfl, rfl, cmul (by omega) (by omega), _, _, rfl, rfl, ?_, ri, _, _, vb, rfl, rfl, .inl (.inl (s2 _ _ hri)), ?_, ?_⟩
        · have : 1 ≤ m.per * rt.2 := Nat.mul_pos P1 o3
          have h2 : m.per * rt.2 ≤ 27720 * 12 := Nat.mul_le_mul P2 o4
          rw [← Int.natCast_mul]
          exact wide_div (b := 30) (by omega) (by omega) (by decide) (by decide)
        · rw [← Int.natCast_mul, ← Int.natCast_mul, ← Int.natCast_ediv]
          exact atI_nat hvb
        · exact qq G2 vb (Same.refl _) (nb.same s2)
      have sG2 := sG1.trans t2
      -- the step of this tick
      have hst : m.steps[i % m.steps.length]? = some (m.steps[i % m.steps.length]'(W.lt i)) := List.getElem?_eq_getElem _
      generalize m.steps[i % m.steps.length]'(W.lt i) = st at hst
      have h4 := W.four st (List.mem_of_getElem? hst)
      have u0 : st[0]? = some (m.tab i 0) := by rw [Mac.tab_get hst (List.getElem?_eq_getElem (by omega)), List.getElem?_eq_getElem (by omega)]
      have u1 : st[1]? = some (m.tab i 1) := by rw [Mac.tab_get hst (List.getElem?_eq_getElem (by omega)), List.getElem?_eq_getElem (by omega)]
      have u2 : st[2]? = some (m.tab i 2) := by rw [Mac.tab_get hst (List.getElem?_eq_getElem (by omega)), List.getElem?_eq_getElem (by omega)]
      have u3 : st[3]? = some (m.tab i 3) := by rw [Mac.tab_get hst (List.getElem?_eq_getElem (by omega)), List.getElem?_eq_getElem (by omega)]
      refine ⟨_, rfl, p, dx, _, rfl, sG2 _ _ hp, p, m, rfl, hM.same sG2, W, fun v r => ?_⟩
      obtain ⟨pc, xc, rfl, hc, ac⟩ := r
      refine ⟨_, rfl, _, rfl, p, dx, _, rfl, sG2 _ _ hp, p, m, rfl, hM.same sG2, W, fun v r => ?_⟩
      obtain ⟨pc2, xc2, rfl, hc2, ac2⟩ := r
      have lc2 := ac2.1
      obtain ⟨vs, hvs, ps, xs, rfl, hps, as⟩ := ac.at2 hst
      refine ⟨pc2, _, rfl, .inr (.inl (.inl hc2)), _, _, rfl, rfl, (by show ((xc2.length : Nat) : Int) ≠ 0; omega), pc, _, _, .ref ps, rfl, rfl, .inl (.inl hc), ?_, ?_⟩
      · show atI xc ((i : Int).fmod (xc2.length : Int)) = some (V.ref ps)
        rw [lc2, Int.fmod_eq_emod_of_nonneg _ (by omega), ← Int.natCast_emod]
        exact atI_nat hvs
      have lxs : xs.length = 4 := by rw [as.1, h4]
      obtain ⟨q0, q1, q2, q3, rfl⟩ : ∃ q0 q1 q2 q3, xs = [q0, q1, q2, q3] := by
        match xs, lxs with
        | [q0, q1, q2, q3], _ => exact ⟨_, _, _, _, rfl⟩
      obtain ⟨p0, x0, rfl, hp0, a0⟩ := as.2 0 _ _ rfl u0
      obtain ⟨p1, x1, rfl, hp1, a1⟩ := as.2 1 _ _ rfl u1
      obtain ⟨p2, x2, rfl, hp2, a2⟩ := as.2 2 _ _ rfl u2
      obtain ⟨p3, x3, rfl, hp3, a3⟩ := as.2 3 _ _ rfl u3
      refine ⟨ps, _, rfl, .inl (.inl hps), rfl, _, _, rfl, _, _, rfl, _, _, rfl, _, _, rfl, rfl, ?_⟩
      -- what is shown
      refine ⟨_, rfl, p, dx, _, rfl, sG2 _ _ hp, p, m, rfl, hM.same sG2, W, fun v r => ?_⟩
      obtain ⟨ao, xao, rfl, hao, rao⟩ := r
      refine ⟨_, rfl, _, rfl, ao, xao, m.outs, m.per, i, rfl, .inl (.inl hao), rao, W.okO, by omega, P1, P2, by omega, fun Dz G3 t3 nDz hDz => ?_⟩
      have hm := W.row_le i
      have tb := W.tabs i
      have d0 : (dueL m.outs m.per i).length ≤ m.outs.length := dueN_le m.outs m.per i m.outs.length
      have e2 : (m.tab i 2).length = (dueL m.outs m.per i).length := by rw [← m.tab_mod, W.h2 _ (W.lt i), W.dueO]
      have e3 : (m.tab i 3).length = (dueL m.outs m.per i).length := by rw [← m.tab_mod, W.h3 _ (W.lt i), W.dueO]
      have l2' := a2.1
      have l3' := a3.1
      refine ⟨_, rfl, _, rfl, Dz, p2, p3, _, _, _, rfl, .inl (.inl hDz), .inl (.inl (t3 _ _ hp2)), .inl (.inl (t3 _ _ hp3)), ?_⟩
      have t12 := t1.trans t2
      have t123 := t12.trans t3
      have sG3 := sG2.trans t3
      have ls2 := (sh.same hFr t12).ls
      have sh3 : ShAt (NumV K) G3 ss (m.shown rows i) := sh.same hFr t123
      have ls3 := sh3.ls
      have hkl3 := t123 _ _ hkl'
      have hur3 := t3 _ _ hD5
      have nD5s : D5 ∉ ss := ((sh.same hFr t1).ls).out nD5
      have nDzs : Dz ∉ ss := ls2.out nDz
      have hD3 : G3 D = some (.lst (ss.map V.ref)) := t123 _ _ (f1 _ _ nD2 hD)
      have lv : (m.vals rows i).length = (dueL m.outs m.per i).length := by
        unfold Mac.vals
        rw [stepV_len, e2, e3, Nat.min_self]
      have kb := W.kept_bnd RO.bnd i
      have rb' := rd_bnd (m := m) RO.bnd i
      have i54 : i ≤ 54 := by omega
      refine for_it (walk_zip3 (by rw [List.length_map]) (show x2.length = (dueL m.outs m.per i).length by omega) (by omega)) (fun n σ H' => Fm ss G3 H' ∧ ShAt (NumV K) H' ss (putAll (m.shown rows i) ((dueL m.outs m.per i).take n) ((m.vals rows i).take n)) ∧ ∃ (y10 y15 y16 : Option V), σ = [some (.ref p), some (.int (u : Int)), some (.ref rl), some (.ref kl'), some (.ref z), some (.int (m.per : Int)), some (.ref D), none, some (.int (i : Int)), some (.ref D5), y10, some (.ref p0), some (.ref p1), some (.ref p2), some (.ref p3), y15, y16]) ⟨Fm.refl _ _, sh3, x10, x15, x16, rfl⟩ (fun n σ H' _ h => ⟨.inl (.inl (h.1 _ _ nDzs hDz)), .inl (.inl (h.1 _ _ (ls3.no (t3 _ _ hp2) fun _ q => nomatch q) (t3 _ _ hp2))), .inl (.inl (h.1 _ _ (ls3.no (t3 _ _ hp3) fun _ q => nomatch q) (t3 _ _ hp3)))⟩) ?_ ?_
      · rintro n y σ G4 G5 hn ⟨f4, sh4, y10, y15, y16, rfl⟩ ⟨TT, v0, v1, v2, rfl, nT, rfl, w0, w1, w2⟩
        dsimp only at w0 w1 w2
        rw [List.getElem?_map] at w0
        obtain ⟨c, hc0, rfl⟩ := Option.map_eq_some_iff.mp w0
        have s5 := same_upd nT (o := HO.tup [.int (c : Nat), v1, v2])
        have f35 := f4.trans (Fm.same s5)
        have f25 := (Fm.same t3).trans f35
        obtain ⟨hcn, rt, hrt, hst'⟩ := dueN_lt m.outs m.per i _ c (List.mem_of_getElem? hc0)
        obtain ⟨r1, hr1, nr1⟩ := a2.at w1
        obtain ⟨r2', hr2, nr2⟩ := a3.at w2
        have nr1 := framed_num.tup G2 _ _ _ ls2 f25 nr1
        have nr2 := framed_num.tup G2 _ _ _ ls2 f25 nr2
        have m1 := tb.2.2.1 r1 (List.mem_of_getElem? hr1)
        have m2 := tb.2.2.2 r2' (List.mem_of_getElem? hr2)
        have sc : ss[c]? = some (ss[c]'(by omega)) := List.getElem?_eq_getElem _
        generalize ss[c]'(by omega) = ac' at sc
        refine ⟨TT, _, rfl, .inl (.inl upd_same), rfl, _, _, rfl, _, _, rfl, _, _, rfl, rfl, ?_⟩
        have hD5' := f35 _ _ nD2 hD3
        have fz : Fm ss H2 _ := (f1.trans (Fm.same t123)).trans f35
        have sGz : Same H _ := fm_same s12 hn1 fz
        obtain ⟨vc, hvc, avc⟩ := (sh4.same hFr s5).at_ c ac' _ sc (List.getElem?_eq_getElem (by rw [putAll_len, m.shown_len]; exact hcn))
        refine ⟨_, rfl, _, rfl, D, _, _, .ref ac', rfl, rfl, .inl (.inl (f35 _ _ nD2 hD3)), atI_nat (j := c) (by rw [List.getElem?_map, sc]; rfl), ?_⟩
        refine ⟨.inl ⟨rfl, _, .inl (.inl hvc)⟩, ?_⟩
        have a5u := aur.mono fun a b h => framed_num (N := ss) _ _ a b ls2 f25 h
        have a5k := akl'.mono fun a b h => framed_num (N := ss) _ _ a b sh.ls ((Fm.same t123).trans f35) h
        have z5 := hz.same sGz
        refine ⟨_, rfl, _, rfl, _, rfl, _, rfl, _, rfl, v2, D5, z, r2', m.rd rows i, 0, ur, _, _, _, rfl, sumIn_r i54 m2 rb' nr2 (f25 _ _ nD5s hD5) a5u z5, fun G6 v6 s6 n6 => ?_⟩
        obtain ⟨pv6, rfl, n6⟩ := n6
        refine ⟨v1, kl', pv6, r1, m.kept rows i, 0 + dotQ r2' (m.rd rows i), us', _, _, _, rfl, sumIn_k i54 m1 kb (nr1.same num_mono s6) (s6 _ _ (f35 _ _ nkl hkl3)) (a5k.mono fun _ _ h => h.same s6) n6 (dot_r m2 rb'), fun G7 v7 s7 n7 => ?_⟩
        have s57 := (s5.trans s6).trans s7
        refine ⟨ac', vc, v7, rfl, rfl, s7 _ _ (s6 _ _ hvc), ?_, ?_⟩
        · have a1 := avc.1
          have a2 := putAll_le ((dueL m.outs m.per i).take n) _ ((m.vals rows i).take n) _ (W.shown_le rows i) _ (List.getElem_mem (l := putAll (m.shown rows i) ((dueL m.outs m.per i).take n) ((m.vals rows i).take n)) (n := c) (by rw [putAll_len, m.shown_len]; exact hcn))
          rw [List.length_take] at a2
          exact Nat.lt_of_le_of_lt (show vc.length ≤ 1000 by omega) (by decide)
        have sh7 := sh4.same hFr s57
        have hv : (m.vals rows i)[n]? = some (0 + dotQ r2' (m.rd rows i) + dotQ r1 (m.kept rows i)) := by
          unfold Mac.vals
          rw [stepV_get hr1 hr2, Rat.zero_add, Rat.add_comm]
        have P7 := sh7.put hFr sc (s7 _ _ (s6 _ _ hvc)) n7
        rw [← putAll_snoc _ _ _ _ _ (by rw [List.length_take, List.length_take, lv])] at P7
        refine ⟨f4.trans (Fm.trans (Fm.same s57) ((Fm.refl _ _).put (List.mem_of_getElem? sc))), ?_, _, _, _, rfl⟩
        rw [List.take_add_one, hc0, List.take_add_one, hv]
        exact P7
      · rintro σ G4 ⟨f4, sh4, y10, y15, y16, rfl⟩
        rw [List.take_length, List.take_of_length_le (by omega)] at sh4
        have f24 := (Fm.same t3).trans f4
        have ls4 := sh4.ls
        have h0 := f24 _ _ (ls2.no hp0 fun _ q => nomatch q) hp0
        have h1 := f24 _ _ (ls2.no hp1 fun _ q => nomatch q) hp1
        refine ⟨_, rfl, _, rfl, p0, p1, _, _, rfl, .inl (.inl h0), .inl (.inl h1), fun Dk nDk => ?_⟩
        have t4 : ∀ v b, NRow K G2 v b → NRow K G4 v b := fun v b h => framed_num.tup G2 G4 v b ls2 f24 h
        have e0' : (m.tab i 0).length = (m.tab i 1).length := by rw [← m.tab_mod i 1, ← m.tab_mod i 0, W.h1 _ (W.lt i)]
        have l0' := a0.1
        have l1' := a1.1
        have z0' := W.hs ((i + 1) % m.steps.length) (W.lt _)
        rw [m.size_mod W.l1, m.size_succ W.l1] at z0'
        have au4 := aur.mono fun a b h => framed_num (N := ss) G2 G4 a b ls2 f24 h
        have ak4 := akl'.mono fun a b h => framed_num (N := ss) G G4 a b sh.ls ((Fm.same t123).trans f4) h
        have fz4 : Fm ss H2 G4 := (f1.trans (Fm.same t123)).trans f4
        have z4 := hz.same (fm_same s12 hn1 fz4)
        refine lc_fr walk_zip2 [] (NumV K) (fun j b => (m.kept rows (i + 1))[j]? = some b) (fun _ => True) nDk (by omega) framed_num Ls.nil trivial (fun _ _ _ _ => trivial) (fun H' s' => ⟨.inl (.inl (s'.to_same _ _ h0)), .inl (.inl (s'.to_same _ _ h1))⟩) ?_ ?_ gT2_mono
        · rintro j y G5 G6 hj f5 - - hDk ⟨TT, v1, v2, rfl, nT, rfl, w1, w2⟩ R qq
          dsimp only at w1 w2
          have s6 := same_upd nT (o := HO.tup [v1, v2])
          have s46 := f5.to_same.trans s6
          obtain ⟨r1, hr1, nr1⟩ := a0.at w1
          obtain ⟨r2', hr2, nr2⟩ := a1.at w2
          have nr1 := (t4 _ _ nr1).same num_mono s46
          have nr2 := (t4 _ _ nr2).same num_mono s46
          have m1 := tb.1 r1 (List.mem_of_getElem? hr1)
          have m2 := tb.2.1 r2' (List.mem_of_getElem? hr2)
          refine ⟨TT, _, rfl, .inl (.inl upd_same), rfl, _, _, rfl, _, _, rfl, rfl, rfl, ?_⟩
          refine ⟨_, rfl, _, rfl, _, rfl, _, rfl, _, rfl, v2, D5, z, r2', m.rd rows i, 0, ur, _, _, _, rfl, sumIn_r i54 m2 rb' nr2 (s46 _ _ (f24 _ _ nD5s hD5)) (au4.mono fun _ _ h => h.same s46) (z4.same s46), fun G7 v6 s7 n6 => ?_⟩
          obtain ⟨pv6, rfl, n6⟩ := n6
          refine ⟨v1, kl', pv6, r1, m.kept rows i, 0 + dotQ r2' (m.rd rows i), us', _, _, _, rfl, sumIn_k i54 m1 kb (nr1.same num_mono s7) (s7 _ _ (s46 _ _ (f4 _ _ nkl hkl3))) (ak4.mono fun _ _ h => (h.same s46).same s7) n6 (dot_r m2 rb'), fun G8 v7 s8 n7 => ?_⟩
          refine qq G8 v7 _ (Fm.same ((s6.trans s7).trans s8)) Ls.nil trivial ?_ n7
          rw [Mac.kept, stepV_get hr1 hr2, Rat.zero_add, Rat.add_comm]
        · rintro G5 ws bs f5 - - hbl hbp al5 hDk
          have ebs : bs = m.kept rows (i + 1) := by
            refine List.ext_getElem? fun j => ?_
            by_cases cj : j < bs.length
            · rw [List.getElem?_eq_getElem cj, hbp j _ (List.getElem?_eq_getElem cj)]
            · rw [List.getElem?_eq_none (by omega), List.getElem?_eq_none]
              rw [Mac.kept, stepV_len]
              omega
          subst ebs
          have nDks : Dk ∉ ss := ls4.out nDk
          refine ⟨fz4.trans (Fm.same f5.to_same), sh4.same hFr f5.to_same, Dk, ws, _, _, _, _, _, _, _, _, _, nDks, hDk, al5, rfl⟩
    · rintro σ G ⟨f1, sh, kl', us', x8, x9, x10, x11, x12, x13, x14, x15, x16, nkl, hkl', akl', rfl⟩
      rw [en] at sh
      refine ⟨_, rfl, _, rfl, (by show 2 ≤ sizeLine; decide), fun t nt => ?_⟩
      have sG : Same H G := fm_same s12 hn1 f1
      have st := same_upd nt (o := HO.tup [.ref D, .ref kl'])
      have sht := sh.same hFr st
      refine k _ t (.ref D) (.ref kl') (sG.trans st) upd_same ⟨D, ss.map V.ref, rfl, by simp, st _ _ (f1 _ _ nD2 hD), ?_, fun j x o hx ho => ?_⟩
      · rw [List.length_map]
        exact sht.len
      · rw [List.getElem?_map] at hx
        obtain ⟨a', ha', rfl⟩ := Option.map_eq_some_iff.mp hx
        obtain ⟨vs, hv, al⟩ := sht.at_ j a' o ha' ho
        exact ⟨a', vs, rfl, by simp, hv, al⟩
end
end K54

namespace K54
open PySem PySem.Spec PyProof.Rows L2 Hk NumM NumT SX Hz
section
variable {P : Program} {w : World} {K : Fr} {mg : Str → Option Value} {base : Heap}
def spRun (K : Fr) : Sp := fun vs H Q _ => ∃ (p t : Addr) (u : Nat) (m : Mac) (rows : List (List Rat)) (xs : List V), vs = [.ref p, .int (u : Int), .ref t] ∧ MachAt K H p m ∧ Wf m ∧ RowsOk m rows u ∧ u * m.per ≤ 54 ∧ H t = some (.tup xs) ∧ All2 (RowAt K H) xs rows ∧
  ∀ H' v, Same H H' → NTab K H' v (m.shown rows (u * m.per)) → Q v H'
def spRunR (K : Fr) : Sp := fun vs H Q E => ∃ ws rest, vs = ws ++ rest ∧ ws.length = (["self", "until"] : List Str).length ∧ rest.length ≤ sizeLine ∧ ∀ p, H p = Option.none → spRun K (ws ++ [V.ref p]) (upd H p (.tup rest)) Q E
abbrev N_Machine_run : List Str := ["self", "until", "inputs", "index", "row", "sample", "rows", "shown", "_"]
theorem f_mrun (T : Tx K mg) : FnR P w K mg base CX0 8 (d_Machine_run.ad K) (spRunR K) := by
  obtain ⟨fd, D⟩ := a_Machine_run T.c
  have C_is_integer := c_isint (P := P) (w := w) (base := base) T
  have C_samples_below := c_below (P := P) (w := w) (base := base) T
  have C_is_number := c_isnum (P := P) (w := w) (base := base) T
  have C_as_number := c_asnum (P := P) (w := w) (base := base) T
  have C_walked := c_walked (P := P) (w := w) (base := base) T
  obtain ⟨f0, D0, F0⟩ := f_init (P := P) (w := w) (base := base) T
  obtain ⟨ds0, Vd, B0⟩ := b_init1 D0
  obtain ⟨oc, od, dV, kV, doc, pm, an, cdv, ct, osl, rfl, lk, hcd, hD, hK⟩ := D.ex
  rcases hD with ⟨_, rfl⟩ | ⟨e, _⟩
  rotate_left
  · exact absurd rfl e
  refine StX.fn_star (N := N_Machine_run) (ps := ["self", "until"]) (pv := "inputs") (k := 7) (sp := spRun K) lk hcd sc_Machine_run StX.cxUp_none (fun us rest hl => match us, rest, hl with | [a, b], [], _ => rfl | [a, b], r :: rs, _ => rfl) (fun A outer s H vs Q E hr h => ?_)
  obtain ⟨p, t, u, m, rows, xs, rfl, hM, W, RO, hu, ht, al, k⟩ := h
  refine ⟨_, PSs.nox (pss_cons (ps_if (PW.pt (pw_or (pt_not (pt_val (pe_c C_is_integer (hr.mono (by decide)) (pa_cons (pv 1) pa_nil)))) (pw_or1 (pt_cmpR op_lt (pv 1) pe_int (nomark _)))))
 (pss_one ps_never)
 pss_nil)
 (pss_cons (ps_if (pt_cmpR op_ne (pe_callB call_len_seq (by rfl) (n_len T) bo_len (pa_cons (pv 2) pa_nil)) (pe_callB call_len_seq (by rfl) (n_len T) bo_len (pa_cons (pe_fld (pv 0) rfl) pa_nil)) (nomark _))
 (pss_one ps_never)
 pss_nil)
 (pss_cons (ps_for PassesOwn.never rfl (Hk.pi_enumT rfl (n_enumerate T) (pa_cons (pv 2) pa_nil)) (pg_tup (by rfl) (pgs_cons (pg_name (i := 3) sc_Machine_run.nd rfl (.inl rfl)) (pgs_cons (pg_name (i := 4) sc_Machine_run.nd rfl (.inl rfl)) pgs_nil)))
 (pss_cons (ps_if (PW.pt (pw_or (pt_not (pt_val (pe_callB call_isi (by rfl) (n_isinstance T) bo_isinstance (pa_cons (pv 4) (pa_cons (pe_bltn (v := .ty "tuple") (by rfl) (n_tuple T) (by decide +kernel) rfl) pa_nil))))) (pw_or1 (pt_cmpR op_ne (pe_callB call_len_seq (by rfl) (n_len T) bo_len (pa_cons (pv 4) pa_nil)) (pe_c C_samples_below (hr.mono (by decide)) (pa_cons (pe_ix ix_tup (pe_fld (pv 0) rfl) (pv 3) (fun _ _ => rfl)) (pa_cons (pv 1) pa_nil))) (nomark _)))))
 (pss_one ps_never)
 pss_nil)
 (pss_one (ps_if (pt_not (pt_val (pe_callB (cr_all rfl) (by rfl) (n_all T) bo_all (pa_cons (pe_lc (own := [("sample", 5)]) (g := gName 5) (tt := tYes) rfl sc_Machine_run.nd (pi_tup (pv 4)) (blkOk_by (N := N_Machine_run) (sc := defScope s_Machine_run) (by decide +kernel)) (fun _ _ _ _ _ => pg_name (i := 5) sc_Machine_run.nd rfl (.inl rfl)) (fun _ _ _ _ _ => pts_nil) (fun _ _ _ _ _ => (pe_c C_is_number (hr.mono (by decide)) (pa_cons (pv 5) pa_nil)))) pa_nil))))
 (pss_one ps_never)
 pss_nil))))
 (pss_cons (ps_setLc (i := 6) (own := [("row", 4)]) (g := gName 4) (tt := tYes) rfl sc_Machine_run.nd rfl rfl (sw_true rfl rfl rfl (by decide +kernel)) (pi_tup (pv 2)) (blkOk_by (N := N_Machine_run) (sc := defScope s_Machine_run) (by decide +kernel)) (fun _ _ _ _ _ => pg_name (i := 4) sc_Machine_run.nd rfl (.inl rfl)) (fun _ _ _ _ _ => pts_nil) (fun _ _ _ _ _ => (pe_lc (wi := iTup K (tVar 4)) (own := [("sample", 5)]) (g := gName 5) (tt := tYes) rfl sc_Machine_run.nd (pi_tup (pv 4)) (blkOk_by (N := N_Machine_run) (by rfl)) (fun _ _ _ _ _ => pg_name (i := 5) sc_Machine_run.nd rfl (.inl rfl)) (fun _ _ _ _ _ => pts_nil) (fun _ _ _ _ _ => (pe_c C_as_number (hr.mono (by decide)) (pa_cons (pv 5) pa_nil))))))
 (pss_cons (ps_asg (pe_c C_walked hr (pa_cons (pv 0) (pa_cons (pv 1) (pa_cons (pv 6) (pa_cons (pe_op op_rep (pe_lst (pa_cons (pe_num (mkN T) F0 (hr.mono (by decide)) (g_Number T) B0 Vd (pa_cons pe_int pa_nil)) pa_nil)) (pe_ix ix_tup (pe_fld (pv 0) rfl) pe_int (fun _ _ => rfl))) (pa_cons (pe_num (mkN T) F0 (hr.mono (by decide)) (g_Number T) B0 Vd (pa_cons pe_int pa_nil)) pa_nil)))))) (pg_tup (by rfl) (pgs_cons (pg_name (i := 7) sc_Machine_run.nd rfl (.inl rfl)) (pgs_cons (pg_name (i := 8) sc_Machine_run.nd rfl (.inl rfl)) pgs_nil))))
 (pss_one (ps_ret (pe_callTy call_tuple_of (by rfl) (n_tuple T) bo_tuple (pa_cons (pe_lc (own := [("row", 4)]) (g := gName 4) (tt := tYes) rfl sc_Machine_run.nd (pi_list (pv 7)) (blkOk_by (N := N_Machine_run) (sc := defScope s_Machine_run) (by decide +kernel)) (fun _ _ _ _ _ => pg_name (i := 4) sc_Machine_run.nd rfl (.inl rfl)) (fun _ _ _ _ _ => pts_nil) (fun _ _ _ _ _ => (pe_callTy (call_tuple_of : CallR _ _ (fun xs H Q => ∃ p ys, xs = [.ref p] ∧ ((SqL K H p ys ∧ ∀ l, H l = none → Q (.ref l) (upd H l (.tup ys))) ∨ (SqT K H p ys ∧ Q (.ref p) H)))) (by rfl) (n_tuple T) bo_tuple (pa_cons (pv 4) pa_nil)))) pa_nil))))))))), ?_⟩
  obtain ⟨dx, fs, hp, hF⟩ := id hM
  have P1 := W.p1
  have P2 := W.p2
  have I1 := W.i1
  have I2 := W.i2
  have L1 := W.l1
  have L2 := W.l2
  have ule : u ≤ 54 := Nat.le_trans (Nat.le_mul_of_pos_right u P1) hu
  obtain ⟨a, b, e, c, d, xa, xb, xe, rfl, ha, ra, hb, rb, he, ae, hc⟩ := id hF
  have la : xa.length = m.ins.length := ra.1
  have lx : xs.length = m.ins.length := by rw [al.1, RO.len]
  have nM := fun (f : Str) (h : tNoat "Machine" f K = true) => (He.noat_ok h : NoAttr K (CM K) f)
  refine ⟨_, rfl, _, rfl, _, rfl, iteF ⟨_, rfl, _, _, rfl, rfl, _, rfl, ?_⟩⟩
  refine ite2 (fun z => absurd (of_decide_eq_true z) (by omega)) (fun _ => ?_)
  refine ⟨_, rfl, t, _, rfl, .inr (.inl (.inl ht)), _, rfl, p, CM K, dx, _, _, rfl, hp, clM T, nM _ (f_noat_M_input_rates T.c), lk62 _ _ _ _ _ _, a, _, rfl, .inr (.inl (.inl ha)), rfl, _, rfl, ?_⟩
  rw [show (!decide (V.int ((xs.length : Nat) : Int) = V.int ((xa.length : Nat) : Int))) = false by rw [lx, la]; simp]
  refine iteF ?_
  refine ⟨_, rfl, t, _, rfl, .inl (.inl ht), ?_⟩
  have rl6 : ∀ (i : Nat) (r : List Rat), rows[i]? = some r → r.length ≤ 1000 := fun i r h => by
    have lt := (List.getElem?_eq_some_iff.mp h).1
    have e : m.ins[i]? = some (m.ins[i]'(by rw [← RO.len]; exact lt)) := List.getElem?_eq_getElem _
    have o := W.okI _ (List.mem_of_getElem? e)
    have := RO.cnt i r _ h e
    have h2 := cnt_le (r := m.ins[i]'(by rw [← RO.len]; exact lt)) (u := u) o.b1
    have h3 := o.t2
    have h4 : u * (m.ins[i]'(by rw [← RO.len]; exact lt)).1 ≤ 54 * 12 := Nat.mul_le_mul ule h3
    omega
  refine for_it walk_enumT (fun i σ H' => Same H H' ∧ ∃ x3 x4 : Option V, σ = [some (.ref p), some (.int (u : Int)), some (.ref t), x3, x4, none, none, none, none]) ⟨Same.refl _, none, none, rfl⟩ (fun i σ H' _ h => .inl (.inl (h.1 _ _ ht))) ?_ ?_
  · rintro i y σ G1 G2 hi ⟨s1, x3, x4, rfl⟩ ⟨TT, v1, v2, rfl, nT, rfl, e1, e2⟩
    cases e1
    have s2 := same_upd nT (o := HO.tup [.int (i : Nat), v2])
    have s12 := s1.trans s2
    obtain ⟨r, hr', rr⟩ := al.at e2
    have lr := rl6 i r hr'
    have rr2 := rr.same s12
    obtain ⟨pr, xr, rfl, hpr, ar⟩ := id rr2
    have ilt : i < m.ins.length := by rw [← RO.len]; exact (List.getElem?_eq_some_iff.mp hr').1
    have hq : m.ins[i]? = some (m.ins[i]'ilt) := List.getElem?_eq_getElem _
    generalize m.ins[i]'ilt = q at hq
    have o := W.okI _ (List.mem_of_getElem? hq)
    obtain ⟨xq, hxq, rq⟩ := ra.at2 hq
    have lc := RO.cnt i r q hr' hq
    refine ⟨TT, _, rfl, .inl (.inl upd_same), rfl, _, _, rfl, _, _, rfl, rfl, ?_⟩
    refine ⟨_, rfl, _, _, _, _, true, rfl, .ty _, ty_tup hpr, kit_ty (by decide +kernel), _, rfl, iteF ?_⟩
    refine ⟨_, rfl, pr, _, rfl, .inr (.inl (.inl hpr)), _, rfl, p, CM K, dx, _, _, rfl, s12 _ _ hp, clM T, nM _ (f_noat_M_input_rates T.c), lk62 _ _ _ _ _ _, _, rfl, a, _, _, _, rfl, rfl, .inl (.inl (s12 _ _ ha)), atI_nat hxq, _, rfl, xq, q, u, rfl, ?_, o, by omega, rfl, _, rfl, ?_⟩
    · obtain ⟨pp, ee, hh⟩ := rq
      exact ⟨pp, ee, s12 _ _ hh⟩
    rw [show (!decide (V.int ((xr.length : Nat) : Int) = V.int ((cnt q u : Nat) : Int))) = false by rw [ar.1, lc]; simp]
    refine iteF ?_
    refine ⟨_, rfl, pr, rfl, ⟨_, .inl (.inl hpr)⟩, fun D3 nD3 => ?_⟩
    refine lc_trueT nD3 (.inl (.inl hpr)) (by have := ar.1; omega) (fun j x hx G3 R s3 qq => ?_) (fun G3 s3 hD3 => ?_)
    · obtain ⟨c', _, o'⟩ := ar.at hx
      exact ⟨_, rfl, x, c', rfl, o'.same s3, qq G3 (Same.refl _)⟩
    · refine ⟨D3, _, rfl, .inl (.inl hD3), ?_⟩
      rw [all_rep]
      exact ⟨_, rfl, iteF ⟨s12.trans s3, _, _, rfl⟩⟩
  rintro σ G ⟨s1, x3, x4, rfl⟩
  have ht1 := s1 _ _ ht
  refine ⟨_, rfl, t, rfl, ⟨_, .inl (.inl ht1)⟩, fun D1 nD1 => ?_⟩
  refine lc_fr walk_tup [] (LstOf [D1] (NumV K)) (fun i b => rows[i]? = some b) (fun _ => True) nD1 (by omega) (framed_num.lst) Ls.nil trivial (fun _ _ _ _ => trivial) (fun H' s' => .inl (.inl (s'.to_same _ _ ht1))) ?_ ?_ gName_mono
  · rintro i x G1 G2 hi f1 - - ⟨l1, hD1⟩ ⟨rfl, hx⟩ R qq
    obtain ⟨r, hr', rr⟩ := al.at hx
    have lr := rl6 i r hr'
    have s2 := s1.trans f1.to_same
    obtain ⟨pr, xr, rfl, hpr, ar⟩ := rr.same s2
    refine ⟨rfl, ?_⟩
    refine ⟨_, rfl, pr, rfl, ⟨_, .inl (.inl hpr)⟩, fun D2 nD2 => ?_⟩
    refine lc_relT (Rel := NumV K) num_mono num_fr r ar.1 nD2 (.inl (.inl hpr)) (by omega) (fun j y c hy hc' G3 R3 s3 hD3 q3 => ?_) (fun G3 us s3 hD3 a3 => ?_)
    · have bq := RO.bnd r (List.mem_of_getElem? hr') c (List.mem_of_getElem? hc')
      refine ⟨_, rfl, y, c.num, c.den, rfl, (ar.2 j y c hy hc').same s3, Bnd.sz bq (by decide) (by decide +kernel), fun G4 a' s4 n => ?_⟩
      exact q3 G4 _ s4 ⟨a', rfl, n⟩
    · exact qq G3 _ r (Fm.same s3) Ls.nil trivial hr' ⟨D2, us, rfl, (by simp; exact fun z => by rw [z, hD1] at nD2; cases nD2), hD3, a3⟩
  rintro G1 us bs f1 - - hbl hbp a1 hD1
  have ebs : bs = rows := by
    refine List.ext_getElem? fun j => ?_
    by_cases cj : j < bs.length
    · rw [List.getElem?_eq_getElem cj, hbp j _ (List.getElem?_eq_getElem cj)]
    · rw [List.getElem?_eq_none (by omega), List.getElem?_eq_none (by rw [RO.len]; omega)]
  subst ebs
  have s2 := s1.trans f1.to_same
  have hM2 := hM.same s2
  have hD1l : All2 (NList K G1) us bs := a1.mono fun _ _ h => h.less (fun _ h => nomatch h)
  -- [Number(0)] * sizes[0], Number(0)
  refine ⟨_, rfl, _, rfl, _, rfl, ⟨0, 1, rfl, by decide, by decide +kernel, fun G2 z0 t1 nz0 N0 => ?_⟩⟩
  have e01 : lowT 0 1 = 0 ∧ lowB 0 1 = 1 := low_one 0
  rw [e01.1, e01.2] at N0
  refine ⟨(by show 1 ≤ sizeLine; decide), fun l0 nl0 => ?_⟩
  have t2 := t1.trans (same_upd nl0 (o := HO.lst [.ref z0]))
  have hs0 : xe[0]? = some (.int (m.size 0 : Nat)) := by
    have hb1 : (sizesL m)[0]? = some (m.size 0) := by unfold sizesL; rw [List.getElem?_map, List.getElem?_range (by omega)]; rfl
    obtain ⟨x, hx, ex⟩ := ae.at2 hb1
    rw [hx]
    exact congrArg some ex
  have z06 := W.hs 0 (by omega)
  refine ⟨_, rfl, p, CM K, dx, _, _, rfl, t2 _ _ (s2 _ _ hp), clM T, nM _ (f_noat_M_sizes T.c), lk64 _ _ _ _ _ _, e, _, _, _, rfl, rfl, .inl (.inl (t2 _ _ (s2 _ _ he))), atI_nat (j := 0) hs0, l0, _, _, rfl, rfl, upd_same, by omega, by omega, ?_, fun l1 nl1 => ?_⟩
  · show 1 * ((m.size 0 : Nat) : Int).toNat ≤ sizeLine
    exact Nat.le_trans (show _ ≤ 6 by omega) (by decide)
  have t3 := t2.trans (same_upd nl1 (o := HO.lst (List.replicate ((m.size 0 : Nat) : Int).toNat [V.ref z0]).flatten))
  have efl : (List.replicate ((m.size 0 : Nat) : Int).toNat [V.ref z0]).flatten = List.replicate (m.size 0) (V.ref z0) := by
    rw [Int.toNat_natCast, List.flatten_replicate_singleton]
  refine ⟨0, 1, rfl, by decide, by decide +kernel, fun G3 z1 t4 nz1 N1 => ?_⟩
  rw [e01.1, e01.2] at N1
  have t34 := t3.trans t4
  have s3 := s2.trans t34
  refine ⟨p, D1, l1, z1, u, m, bs, us, _, rfl, hM.same s3, W, RO, hu, t34 _ _ hD1, hD1l.mono fun _ _ h => (framed_num.lst (N := [])) _ _ _ _ Ls.nil (Fm.same t34) h, t4 _ _ upd_same, ?_, N1, fun H' tt S L t5 h1 h2 => ?_⟩
  · rw [efl]
    refine ⟨by rw [List.length_replicate, List.length_replicate], fun j x q hx hq => ?_⟩
    rw [List.getElem?_replicate] at hx hq
    split at hx
    · rename_i hj
      rw [if_pos hj] at hq
      cases hx
      cases hq
      refine ⟨z0, rfl, ?_⟩
      exact (N0.same (Same.trans (same_upd nl0) (same_upd nl1))).same t4
    · cases hx
  have s5 := s3.trans t5
  refine ⟨tt, _, rfl, .inl (.inl h1), rfl, _, _, rfl, _, _, rfl, rfl, ?_⟩
  obtain ⟨ps, xs2, rfl, _, hps, as⟩ := h2
  refine ⟨_, rfl, ps, rfl, ⟨_, .inl (.inl hps)⟩, fun D5 nD5 => ?_⟩
  have sl := m.shown_len bs (u * m.per)
  have o2 := W.o2
  refine lc_relL (Rel := NRow K) row_mono row_fr (m.shown bs (u * m.per)) as.1 nD5 (.inl (.inl hps)) (by omega) (fun j x b hx hb' G4 R t6 hD5 qq => ?_) (fun G4 vs t6 hD5 a6 => ?_)
  · obtain ⟨pi, us', rfl, _, hpi, ai⟩ := as.2 j x b hx hb'
    refine ⟨_, rfl, pi, us', rfl, .inl ⟨.inl (.inl (t6 _ _ hpi)), fun l nl => ?_⟩⟩
    have t7 := same_upd nl (o := HO.tup us')
    exact qq _ _ t7 ⟨l, us', rfl, upd_same, ai.mono fun _ _ h => (h.same t6).same t7⟩
  · refine ⟨D5, vs, rfl, .inl ⟨.inl (.inl hD5), fun l nl => ?_⟩⟩
    have t7 := same_upd nl (o := HO.tup vs)
    exact k _ _ ((s5.trans t6).trans t7) ⟨l, vs, rfl, upd_same, a6.mono fun _ _ h => h.same num_mono t7⟩
end
end K54

/-! Raising: a def called off its class that may raise; variadic inits that may raise; own errors over any base with one field. -/
namespace Hk
open PySem PySem.Spec PyProof.Rows L2
def tUnbX (C : Addr) (sp : Sp) (E : L2.St → XK) (ta : TE) (t : TA) : TE := fun σ H Q => ta σ H fun x H1 => x = .ref C ∧ t σ H1 fun vs H2 => sp vs H2 Q (E σ)
section
variable {X : Cx} {CX : CXT} {E : L2.St → XK} {k : Nat} {C g : Addr} {mc : Value} {m : Str} {fd : FuncData} {ps : List Str} {sp : Sp} {o e : Expr} {es : List Expr} {ta : TE} {t : TA} {pos apos : Pos} {pl : Sem Bool}
theorem pe_unbX (he : PE X o ta) (U : Unb X.K C mc m g) (F : FnOk X.prog X.w X.K X.mg X.base CX k g fd ps sp) (hb : Binds X.K fd ps []) (hr : Room k X.A) (hx : ∀ σ, PassesAt CX X σ (E σ)) (ha : PA X (e :: es) t)
    (hst : starEach (e :: es) X.env = (false, eval e X.env) :: starEach es X.env := by rfl) (hpl : (backTo pos (starEach es X.env)).any (·.1) = false := by rfl)
    (ht : eval (.Call (.Attribute o m apos) (e :: es) [] pos) X.env = (do
      let ov ← eval o X.env
      standAt apos.atName
      let (f, first) ← holding [ov] (getMethod ov m pl)
      callWith pos f first (backTo pos (starEach (e :: es) X.env)) (backToKw pos (keywordEach [] X.env))) := by rfl) :
    PE X (.Call (.Attribute o m apos) (e :: es) [] pos) (tUnbX C sp E ta t) := by
  refine ⟨fun pins s σ H Q I h => PySem.W.methodCall_KW (pl := pl) (thn (he.run pins s σ H _ I h) fun u s1 hu => ?_) ht⟩
  obtain ⟨x, H1, I1, rx, ex, q⟩ := hu
  subst ex
  obtain rfl : u = Value.ref C := rx
  refine PySem.W.method_cls I1.kIn U.rd.ga (PySem.W.cls_value I1.kIn U.rd.rd U.at_ rfl ?_)
  refine PySem.W.callWith_K (h₀ := X.base) I1.ok.mod.kin U.kp (thn (ha.run pos pins _ σ H1 _ (I1.tok _) q) fun us s2 ⟨vs, H2, I2, r, q2⟩ => ⟨I2.kIn, ?_⟩) hst hpl
  exact run_fnS F hr hb (hx σ) I2 r q2
end
theorem cxUpN {P : Program} {w : World} : StX.CXUp (L2N.CX P w) := by
  intro outer s H s2 H2 E e s' un kp ho h
  obtain ⟨a, B, H', cls, d, ea, fl, hok, ub, na, os, ag, he⟩ := h
  have fr : ∀ b o, s.heap.get? b = some o → H b = none → H2 b = none := fun b o q n => un.free b o q n List.not_mem_nil
  have tb : ∀ b ps, H b = some (.tbl ps) → ∃ more, H' b = some (.tbl (ps ++ more)) := fun b ps q => by
    obtain ⟨m1, e1⟩ := un.tbls b ps q
    obtain ⟨m2, e2⟩ := ub.tbls b _ e1
    refine ⟨m1 ++ m2, ?_⟩
    rw [e2, Array.append_assoc]
  refine ⟨a, B, H', cls, d, ea, fl, hok, ?_, na, os.trans ho, ag, he⟩
  constructor
  · exact fun b o q n hb => ub.keep b o (kp b o q) (fr b o q n) hb
  · exact fun b o q hb => ub.slot b o (kp b o q) hb
  · exact fun b o q n => ub.free b o (kp b o q) (fr b o q n)
  · exact fun b o q hb => ub.there b o (kp b o q) hb
  · exact fun b xs q => ub.tups b xs (un.tups b xs q)
  · exact fun b o u q => ub.frzs b o u (un.frzs b o u q)
  · exact tb
/-- own errors over any of the four built-in bases, with one field -/
structure XrV (P : Program) (w : World) (K : Fr) (mg : Str → Option Value) (base : Heap) (x f : Str) : Prop where
  c : VeC K (He.ga K x)
  ty : PySem.W.typeIn K (.ref (He.ga K x)) = some (.type "type")
  iC : PySem.W.findIn K (.ref (He.ga K x)) "__init__" = some (some (.ref (mAd x "__init__" K)))
  tI : PySem.W.typeIn K (.ref (mAd x "__init__" K)) = some (.type "function")
  m : mg x = some (.ref (He.ga K x))
  fn : ∃ fd, FnOk P w K mg base CX0 1 (mAd x "__init__" K) fd [("self" : Str), f] (spXin (He.ga K x) f) ∧ Binds K fd [("self" : Str), f] []
section
variable {P : Program} {w : World} {K : Fr} {mg : Str → Option Value} {base : Heap}
theorem xrv_of {x f : Str} {fd : FuncData} {d : Dx} (D : DAt K d fd) (ha : d.ad K = mAd x "__init__" K) (S : FnScope [("self" : Str), f] [("self" : Str), f] (defScope d.st)) (c1 : veB K (He.ga K x) = true) (c2 : tNof x f K = true) (c3 : tInit x K = true) (c4 : tTyp x K = true)
    (gm : mg x = some (.ref (He.ga K x))) (b : Binds K fd [("self" : Str), f] [])
    (hb : ∀ (cdv : Value) (A : Around) (outer : List Env) (s : Shared) (H : Hp) (E : XK), PSs (cxOf CX0 P w K mg base [("self" : Str), f] d.ql (defScope d.st) (d.ad K) cdv A outer s H E).nox (defBody d.st) (tSeq (tVst K f (tVar 0) (tVar 1)) tNext)) : XrV P w K mg base x f := by
  obtain ⟨e1, e2⟩ := He.ba c3
  have T := veB_ok c1
  have hn : PySem.W.findIn K (.ref (He.ga K x)) f = some none := He.eqO_ok c2
  have F : FnOk P w K mg base CX0 1 (d.ad K) fd [("self" : Str), f] (spXin (He.ga K x) f) := by
    refine ok_of (N := [("self" : Str), f]) D S (fun vs H Q E h => ?_) (fun cdv A outer s H vs Q E hr h => ?_)
    · obtain ⟨a, y, rfl, _⟩ := h
      rfl
    · obtain ⟨a, y, rfl, ha, k⟩ := h
      exact ⟨_, hb cdv A outer s H E, y, rfl, .ref a, rfl, a, _, rfl, T, hn, .inl ⟨ha, fun dx n ne => k dx n ne⟩⟩
  rw [ha] at F
  exact ⟨T, of_decide_eq_true c4, (own_ok e1).at_, of_decide_eq_true e2, gm, fd, F, b⟩
end
section
variable {X : Cx} {x f : Str} {e : Expr} {es : List Expr} {ta : TA} {p pos pos' : Pos} {W : WX}
theorem ps_rv (c : XrV X.prog X.w X.K X.mg X.base x f) (hr : Room 2 X.A) (hg : Gl X x) (tk : L2N.Takes X W) (ha : PA X (e :: es) ta) (hc : X.calm = true := by rfl)
    (hdb : (x == ("__debug__" : Str)) = false := by decide) (he : starEach (e :: es) X.env = (false, eval e X.env) :: starEach es X.env := by rfl) (hpl : (backTo pos (starEach es X.env)).any (·.1) = false := by rfl) :
    PS X (.Raise (some (.Call (.Name x p) (e :: es) [] pos)) none pos') (tRz (He.ga X.K x) f W ta) := by
  obtain ⟨fd, F, b⟩ := c.fn
  exact L2N.ps_raise hc tk (pmk_ve c.c c.ty c.iC c.tI F hr b pass0 hg c.m ha hdb he hpl)
end
end Hk

/-! The error that a suite holds, handed to a def: the def's promise may speak of it (it is p's object, pinned there too). -/
namespace Hk
open PySem PySem.Spec PyProof.Rows L2 HotX L2H
structure FnP (P : Program) (w : World) (K : Fr) (mg : Str → Option Value) (base : Heap) (k : Nat) (f : Addr) (fd : FuncData) (ps : List Str) (p : Addr × Obj) (sp : Sp) : Prop where
  len : ∀ vs H Q E, sp vs H Q E → vs.length = ps.length
  run : ∀ (A : Around) (out : List Env) (s : Shared) (H : Hp) (args : Args) (us : List Value) (vs : List V) (Q : VK), RoomH k A → Hot1 A p → PinOk out H s p → Env0 P w K mg base A out s H → BindsTo s fd args (ps.zip us) → Vals vs us → sp vs H Q E0 →
    codeAny (model P w) A (.call (.ref f) args) (CR CX0 out P w H s Q E0) s
section
variable {P : Program} {w : World} {K : Fr} {mg : Str → Option Value} {base : Heap} {p : Addr × Obj}
abbrev BodyP (P : Program) (w : World) (K : Fr) (mg : Str → Option Value) (base : Heap) (k : Nat) (d : Dx) (N ps : List Str) (p : Addr × Obj) (sp : Sp) : Prop :=
  ∀ (cdv : Value) (A : Around) (outer : List Env) (s : Shared) (H : Hp) (vs : List V) (Q : VK) (E : XK), Hot1 A p → RoomH k (A.deeper (envOfC d.ql (defScope d.st) s.heap.objs.size (d.ad K) cdv)) → sp vs H Q E →
      ∃ t, PSs (cxH CX0 P w K mg base N d.ql (defScope d.st) (d.ad K) cdv A outer s H E p) (defBody d.st) t ∧ t { nx := fun _ H' => Q .non H', rt := Q } (L2.start N vs) H
theorem okp_of {k : Nat} {d : Dx} {N ps : List Str} {sp : Sp} {fd : FuncData} (D : DAt K d fd) (S : FnScope N ps (defScope d.st)) (len : ∀ vs H Q E, sp vs H Q E → vs.length = ps.length) (hb : BodyP P w K mg base k d N ps p sp) :
    FnP P w K mg base (k + 1) (d.ad K) fd ps p sp := by
  obtain ⟨oc, od, dV, kV, doc, pm, an, cdv, ct, osl, rfl, lk, hcd, _, _⟩ := D.ex
  refine ⟨len, fun A out s H args us vs Q hr hot hpin e0 hbd r hsp => ?_⟩
  have old : ∀ b o, base.get? b = some o → s.heap.get? b = some o := fun b o z => (e0.bs b o z).1
  have KX : K.In s.heap := e0.mod.kin.keeps old
  have kd : ∀ y ∈ ps.zip us, (defScope d.st).names.lookup y.1 = some .local ∨ ((defScope d.st).names.lookup y.1 = some .cell ∧ ((cellsFrom (s.heap.objs.size + 1) (defScope d.st).names []).lookup y.1).isSome = true) := by
    rintro ⟨n, v⟩ hy
    have q := S.par n (List.of_mem_zip hy).1
    exact q.imp id fun q => ⟨q, PySem.W.cellsFrom_some _ _ _ (.inl q)⟩
  refine codeAny_call_function hr.depth (KX _ _ lk) rfl S.co S.gen rfl (PySem.W.codeRec_of KX hcd) (hbd _ _ _ _ ?_)
  refine wpAny_newFunctionEnv_cells S.kind kd fun env he s1 x => ?_
  subst he
  refine ⟨(e0.mod.nolimit.keeps old).keeps x.toInCall.keep, codeAny_func ?_⟩
  obtain ⟨t, ht, hq⟩ := hb cdv A out s H vs Q E0 hot (hr.deeper _) hsp
  have I : Inv (cxH CX0 P w K mg base N d.ql (defScope d.st) (d.ad K) cdv A out s H E0 p) [] (L2.start N vs) H s1 := inv_startH S hpin e0 (len _ _ _ _ hsp) r x
  refine wpAny_mono (ht.run [] s1 (L2.start N vs) H _ I hq) (fun fl s' hs => ?_) fun e s' hs => hs
  cases fl with
  | next =>
    obtain ⟨σ', H', J, q⟩ := hs
    exact ⟨V.non, H', J.os, J.bare, J.base, J.hok, rfl, q⟩
  | ret u =>
    obtain ⟨v, σ', H', J, rv, q⟩ := hs
    exact ⟨v, H', J.os, J.bare, J.base, J.hok, rv, q⟩
  | brk =>
    obtain ⟨σ', H', J, q⟩ := hs
    exact False.elim q
  | cont =>
    obtain ⟨σ', H', J, q⟩ := hs
    exact False.elim q
def CalP (P : Program) (w : World) (K : Fr) (mg : Str → Option Value) (base : Heap) (k : Nat) (x : Str) (ad : Addr) (ps : List Str) (p : Addr × Obj) (sp : Sp) : Prop :=
  ∃ fd : FuncData, FnP P w K mg base k ad fd ps p sp ∧ Binds K fd ps [] ∧ PySem.W.keepIn K (.ref ad) = true ∧ mg x = some (.ref ad)
theorem calp_of {k : Nat} {d : Dx} {N ps : List Str} {sp : Sp} {x : Str} (D : ∃ fd, DAt K d fd) (hv : d.df = []) (S : FnScope N ps (defScope d.st)) (hm : mg x = some (.ref (d.ad K)))
    (hbi : ∀ (kV doc pm : Value) (an : Option Addr) (cdv ct : Value) (us : List Value), us.length = ps.length → bindArgs (PySem.W.fnOf d.nm d.ql (defArgs d.st) (defBody d.st) (defScope d.st) .none kV doc pm an cdv ct) ⟨us, []⟩ = pure (ps.zip us))
    (len : ∀ vs H Q E, sp vs H Q E → vs.length = ps.length) (hb : BodyP P w K mg base k d N ps p sp) : CalP P w K mg base (k + 1) x (d.ad K) ps p sp := by
  obtain ⟨fd, D⟩ := D
  have e : d.vs K = [] := by
    unfold Dx.vs
    rw [hv]
    rfl
  have D' : FunD K d.nm d.ql (defArgs d.st) (defBody d.st) (defScope d.st) [] [] (d.ad K) fd := by
    rw [← e]
    exact D
  exact ⟨fd, okp_of D S len hb, FunD.bindsN D' hbi, D.kp, hm⟩
theorem pe_cp {X : Cx} {k : Nat} {x : Str} {ad : Addr} {ps : List Str} {sp : Sp} {e : Expr} {es : List Expr} {t : TA} {pp pos : Pos} (c : CalP X.prog X.w X.K X.mg X.base k x ad ps p sp) (hr : RoomH k X.A) (hot : Hot1 X.A p) (hp : p ∈ X.pn) (ha : PA X (e :: es) t) (hg : Gl X x := by rfl)
    (hdb : (x == ("__debug__" : Str)) = false := by decide) (he : starEach (e :: es) X.env = (false, eval e X.env) :: starEach es X.env := by rfl) (hpl : (backTo pos (starEach es X.env)).any (·.1) = false := by rfl) :
    PE X (.Call (.Name x pp) (e :: es) [] pos) (tG sp t) := by
  obtain ⟨fd, F, b, kp, m⟩ := c
  refine ⟨fun pins s σ H Q I h => wpAny_Call_Name_kw (ld_glob I hg m ?_ hdb)⟩
  refine PySem.W.callWith_K (h₀ := X.base) I.ok.mod.kin kp (thn (ha.run pos pins s σ H _ I h) fun us s1 ⟨vs, H1, J, r, q⟩ => ⟨J.kIn, ?_⟩) he hpl
  have ln : us.length = ps.length := r.length.symm.trans (F.len _ _ _ _ q)
  have bd : BindsTo s1 fd ⟨us, []⟩ (ps.zip us) := by
    have := b s1 us J.kIn (by rw [List.append_nil]; exact ln)
    rwa [List.append_nil] at this
  obtain ⟨g1, g2, g3, g4, g5⟩ := J.pin p (List.mem_append_left _ hp)
  refine wpAny_call (codeAny_mono (F.run X.A X.stack s1 H1 ⟨us, []⟩ us vs Q hr hot ⟨g1, g2, fun hm => (List.mem_cons.mp (J.stkSub p.1 hm)).elim g3 g4, g5⟩ J.env0 bd r q) fun z s' hq => ?_)
  rcases z with e | fl
  · exact (show False from hq).elim
  · cases fl with
    | ret u => exact J.after hq
    | _ => exact (show False from hq).elim
end
/-! ### what the def asks of it -/
theorem pe_xfP {X : Cx} {a : Addr} {oe : Obj} {cls : Value} {d : Option Addr} {e : Expr} {te : TE} {pos : Pos} {n : Str} (hm : (a, oe) ∈ X.pn) (hz : Zc cls d oe) (hf : ∃ vs, oe.data = .fields vs) (he : PE X e te)
    (hb : attributeBase e n X.env (eval e X.env) = eval e X.env := by rfl) : PE X (.Attribute e n pos) (tXfX X.K a cls d n te) := by
  refine ⟨fun pins s σ H Q I h => attr_of hb (thn (he.run pins s σ H _ I h) fun u s1 ⟨x, H1, I1, rx, hh⟩ => ?_)⟩
  obtain ⟨rfl, C, dd, fs, v, rfl, T, hno, rfl, ea, l, q⟩ := hh
  cases (show u = Value.ref a from rx)
  have g := (I1.pin (a, oe) (List.mem_append_left _ hm)).1
  obtain ⟨vs, hd⟩ := hf
  obtain ⟨mz, ns, rel⟩ : ObjOk X.prog X.w H1 s1.heap dd (.xd fs) := I1.hok dd _ ea
  obtain ⟨od, ho, hl⟩ := lookIn_ns ns
  obtain ⟨val, ev, rv⟩ := RelO.some_of (l ▸ rel n)
  have J : PySem.W.InstAt s1.heap a oe C (some od) := ⟨g, hz.1, by rw [PySem.W.notCls, hd] <;> rfl, by rw [hz.2]; exact ho⟩
  exact HandSPX.exc_get I1.kIn J T.ga T.gg T.exC (PySem.W.findObj_own T.hdC hno rfl ((hl n).trans (congrArg some ev))) (handed_of rv) ⟨v, H1, I1.tok _, rv, q⟩
theorem call_isP {X : Cx} {a : Addr} {cls : Value} {d : Option Addr} {oe : Obj} (hm : (a, oe) ∈ X.pn) (hz : Zc cls d oe) (hf : ∃ vs, oe.data = .fields vs) : CallR X (.builtin "isinstance") (rIsX X.K a cls d) := by
  intro pins s σ H xs us Q I r h
  obtain ⟨D, c, cv, b, rfl, C, hd, rfl, hcv, e, q⟩ := h
  obtain ⟨u1, u2, rfl, r1, r2⟩ : ∃ u1 u2, us = [u1, u2] ∧ RelV (.ref a) u1 ∧ RelV c u2 := by
    cases r with
    | cons r1 r =>
      cases r with
      | cons r2 r =>
        cases r
        exact ⟨_, _, rfl, r1, r2⟩
  cases (show u1 = Value.ref a from r1)
  cases hcv _ r2
  have g := (I.pin (a, oe) (List.mem_append_left _ hm)).1
  obtain ⟨vs, hv⟩ := hf
  obtain ⟨cdD, hcD, _⟩ := PySem.W.any_some C.hd
  have nc : PySem.W.notCls oe = true := by rw [PySem.W.notCls, hv] <;> rfl
  obtain ⟨od, J⟩ : ∃ od, PySem.W.InstAt s.heap a oe D od := by
    rcases hd with rfl | ⟨dd, fs, rfl, ea⟩
    · exact ⟨none, g, hz.1, nc, by rw [hz.2]; trivial⟩
    · obtain ⟨mA, hns, _⟩ : ObjOk X.prog X.w H s.heap dd (.xd fs) := I.hok dd _ ea
      obtain ⟨od, ho, _⟩ := lookIn_ns hns
      exact ⟨some od, g, hz.1, nc, by rw [hz.2]; exact ho⟩
  exact PySem.W.kia_one (PySem.W.kitx_exc (by rw [hcD]; rfl) C.hg C.hk C.hs C.ha C.hn C.ht C.hm) I.kIn J e (fun z => nomatch z) fun tk => ⟨.bl b, H, I.kept (t' := tk) fun _ _ z => z, rfl, q⟩
end Hk

/-! repr of a list, a tuple or a dict of one item, an own instance whose class has a repr of its own. -/
namespace Hk
open PySem PySem.Spec PyProof.Rows L2 HotX L2H
/-- f is called with an instance below built-in code of the context X -/
def RunsBelow (X : Cx) (f : Addr) (sp : Sp) : Prop :=
  ∀ (A' : Around) (pins : List (Addr × Obj)) (σ : L2.St) (H : Hp) (s : Shared) (Q : VK) (E' : Value → Shared → Prop) (m : Addr), A'.handled = X.A.handled → A'.frames = X.A.frames → A'.depth ≤ X.A.depth + 2 → A'.units ≤ X.A.units + 8 →
    Inv X pins σ H s → sp [.ref m] H Q E0 → wpAny (model X.prog X.w) A' (call (.ref f) [.ref m]) (EP X pins σ Q) E' s
section
variable {X : Cx} {k : Nat} {C f : Addr} {fd : FuncData} {ps : List Str} {sp : Sp}
theorem runs_calm (F : FnOk X.prog X.w X.K X.mg X.base CX0 k f fd ps sp) (hb : Binds X.K fd ps []) (hr : Room (k + 1) X.A) : RunsBelow X f sp := by
  intro A' pins σ H s Q E' m h1 h2 h3 h4 I h
  have e := I.env0
  refine own_run (us := [.ref m]) (vs := [.ref m]) F ⟨by rw [h1]; exact hr.hd, by have := hr.dp; omega, by have := hr.un; omega⟩ ⟨by rw [h2]; exact e.frames, e.mod, e.bs, e.bsz, e.funs, e.frf, e.hok, e.bare⟩ hb I (.cons rfl .nil) h
theorem runs_hot (F : FnH X.prog X.w X.K X.mg X.base CX0 k f fd ps sp) (hb : Binds X.K fd ps []) (hr : RoomH (k + 1) X.A) (hc : HotC X) : RunsBelow X f sp := by
  intro A' pins σ H s Q E' m h1 h2 h3 h4 I h
  have e := I.env0
  obtain ⟨p, hot, hp⟩ := hc
  refine own_runH (us := [.ref m]) (vs := [.ref m]) F ⟨by have := hr.dp; omega, by have := hr.un; omega⟩ ⟨by rw [h1]; exact hot.1, hot.2⟩ hp ⟨by rw [h2]; exact e.frames, e.mod, e.bs, e.bsz, e.funs, e.frf, e.hok, e.bare⟩ hb I (.cons rfl .nil) h
/-- the item's own repr, below a container's -/
theorem under_own {A' : Around} {pins : List (Addr × Obj)} {σ : L2.St} {H : Hp} {s : Shared} {m dx : Addr} {fs : List (Str × V)} {b : Nat} {Q : Str → Hp → Prop} {R : Str → Shared → Prop} {E' : Value → Shared → Prop} (O : Own X.K C "__repr__" f) (RB : RunsBelow X f sp)
    (g1 : A'.handled = X.A.handled) (g2 : A'.frames = X.A.frames) (g3 : A'.depth ≤ X.A.depth + 2) (g4 : A'.units ≤ X.A.units + 8) (hu : A'.units < cLine) (hb : b ≤ sizeLine) (I : Inv X pins σ H s) (hm : H m = some (.ins C dx fs))
    (h : sp [.ref m] H (fun v H' => ∃ y, v = .str y ∧ Q y H') E0) (q : ∀ y s' H', Inv X pins σ H' s' → Q y H' → R y s') : wpAny (model X.prog X.w) A' (pyReprUnder b (.ref m)) R E' s := by
  obtain ⟨mA, M, _⟩ := ins_get I.hok hm
  obtain ⟨od, J, _⟩ := M.look
  refine wpAny_pyReprUnder_ref hb ?_
  unfold pyReprObjUnder pyReprObjBy
  refine wpAny_bind (wpAny_cRoomFor hu ?_)
  refine wpAny_bind (wpAny_bind (J.type.here ((PySem.W.looks_findIn I.kIn O.at_).here ?_)))
  show wpAny _ _ (if (some (Value.ref f)).isNone = true then _ else _) _ _ _
  rw [if_neg (by simp)]
  have fin : wpAny (model X.prog X.w) A' (call (.ref f) ([.ref m] ++ [])) (fun v s' => ∃ r, v = r ∧ wpAny (model X.prog X.w) A' (do if ← isInstance r (.type "str") then pure r else raiseError "TypeError" s!"__repr__ returned non-string (type {← typeNameOf r})") (fun v s' => ∃ x u, v = .str x u ∧ R x s') E' s') E' s := by
    refine wpAny_mono (RB A' pins σ H s _ E' m g1 g2 g3 g4 I h) (fun v s' z => ?_) fun _ _ z => z
    obtain ⟨z', H', I', rz, y, ey, qz⟩ := z
    subst ey
    obtain ⟨t, e⟩ := (show ∃ t, v = Value.str y t from rz)
    cases e
    exact ⟨_, rfl, wpAny_bind (wpAny_isInstance (T := "str") (b := true) rfl isSubtype_str_str (wpAny_pure ⟨_, _, rfl, q _ _ _ I' qz⟩))⟩
  refine wpAny_bind ?_
  simp only [callSpecialIfBoundBy?, bindSpecialIfBound?]
  refine wpAny_holding (wpAny_bind (wpAny_bind (wpAny_bind (J.type.here ((PySem.W.looks_findIn I.kIn O.at_).here ?_)))))
  refine wpAny_bind (wpAny_askSetting (wpAny_ite ?_))
  have fin2 : wpAny (model X.prog X.w) A' (call (.ref f) ([.ref m] ++ []) >>= fun v => pure (some v)) (fun o s' => wpAny (model X.prog X.w) A' (match o with
      | some r => (do if ← isInstance r (.type "str") then pure r else raiseError "TypeError" s!"__repr__ returned non-string (type {← typeNameOf r})")
      | none => unsupported "repr:special-get-raises") (fun v s' => ∃ x u, v = .str x u ∧ R x s') E' s') E' s :=
    wpAny_bind (wpAny_mono fin (fun v s' ⟨r, e, h'⟩ => by subst e; exact wpAny_pure h') fun _ _ h' => h')
  split
  · exact wpAny_bind ((PySem.W.bind_fn I.kIn _ (beq_iff_eq.mp O.fn)).here (wpAny_pure (by exact fin2)))
  · exact wpAny_tryCatch (wpAny_bind ((PySem.W.bind_fn I.kIn _ (beq_iff_eq.mp O.fn)).here (wpAny_pure (by exact fin2))))
end
end Hk

namespace Hk
open PySem PySem.Spec PyProof.Rows L2 HotX L2H
theorem quietLoop (args : Args) : (Code.builtin "list.__repr__.loop" args).quiet = true := PySem.F.quiet_list_repr_loop args
section
variable {X : Cx} {C f : Addr} {sp : Sp}
/-- a list, a tuple, a dict {x: ..} of one instance with its own repr -/
def rOne (C : Addr) (sp : Sp) : List V → Hp → VK → Prop := fun xs H Q => ∃ (a m dx : Addr) (fs : List (Str × V)), xs = [.ref a] ∧ H m = some (.ins C dx fs) ∧
  ((H a = some (.lst [.ref m]) ∧ sp [.ref m] H (fun v H' => ∃ y, v = .str y ∧ H' a = some (.lst [.ref m]) ∧ (listText [y]).length ≤ sizeLine ∧ Q (.str (listText [y])) H') E0) ∨
   (H a = some (.tup [.ref m]) ∧ sp [.ref m] H (fun v H' => ∃ y, v = .str y ∧ (tupleText [y]).length ≤ sizeLine ∧ Q (.str (tupleText [y])) H') E0) ∨
   (∃ k y : Str, H a = some (.dK [(.inr k, .ref m)]) ∧ (reprText k).length + y.length + 100 ≤ sizeLine ∧ (∀ o, sp [.ref m] (upd H a (.frz o (.dK [(.inr k, .ref m)]))) (fun v H' => v = .str y ∧ H' = upd H a (.frz o (.dK [(.inr k, .ref m)]))) E0) ∧ Q (.str (dictText [reprText k ++ ": " ++ y])) H))
theorem call_list_rc {pins : List (Addr × Obj)} {σ : L2.St} {H : Hp} {s : Shared} {a m dx : Addr} {fs : List (Str × V)} {Q : VK} {E' : Value → Shared → Prop} (hc : Calm X.A) (hu : X.A.units + 200 < cLine) (O : Own X.K C "__repr__" f) (RB : RunsBelow X f sp)
    (I : Inv X pins σ H s) (hm : H m = some (.ins C dx fs)) (ha : H a = some (.lst [.ref m]))
    (h : sp [.ref m] H (fun v H' => ∃ y, v = .str y ∧ H' a = some (.lst [.ref m]) ∧ (listText [y]).length ≤ sizeLine ∧ Q (.str (listText [y])) H') E0) : wpAny (model X.prog X.w) X.A (call (.builtin "repr") [.ref a]) (EP X pins σ Q) E' s := by
  obtain ⟨_, its, n, rv, hg⟩ := (show ObjOk X.prog X.w H s.heap a (.lst [.ref m]) from I.hok a _ ha)
  obtain ⟨u, rfl, ru⟩ := Vals.one rv
  cases (show u = Value.ref m from ru)
  have hTy : s.TypeIs (.ref a) "list" := ⟨_, hg, rfl⟩
  refine call_repr_slot (by omega) hTy F.slot_list_repr.toG (wpAny_call (codeAny_call_builtin F.slot_list_repr.plain F.entry_list_repr (F.slot_list_repr.check _ _ _ _ _ _ _ _ hTy (F.args_list_repr_1 _) ?_)))
  refine wpAny_list_repr_head (b := 0) (g := []) hc (fun v rest kw hm => nomatch hm) hg rfl ?_
  refine wpAny_bind (m := newList []) (wpAny_newObj_type ?_)
  refine wpAny_pure ⟨quietLoop _, ?_⟩
  obtain ⟨P, hP⟩ : ∃ P, P = s.heap.objs.size := ⟨_, rfl⟩
  have hpsz : a ≠ P := by rw [hP]; exact Nat.ne_of_lt (Heap.lt_size hg)
  have k1 : ∀ b o, s.heap.get? b = some o → (s.heap.push { cls := .type "list", data := .seq #[] }).get? b = some o := fun b o e => Heap.get?_push_of_some _ e
  have I1 : Inv X ((P, { cls := .type "list", data := .seq #[] }) :: pins) σ H { s with heap := s.heap.push { cls := .type "list", data := .seq #[] }, toks := s.toks } := by
    have J := I.kept (t' := s.toks) k1
    refine ⟨J.ok, J.os, J.bare, J.base, J.loc, J.cell, J.free, J.freeC, fun p hp => ?_, J.hok, J.len⟩
    rcases List.mem_append.mp hp with h1 | h1
    · exact J.pin p (List.mem_append_left _ h1)
    · rcases List.mem_cons.mp h1 with rfl | h2
      · refine ⟨by rw [hP]; exact Heap.get?_push_size _ rfl, by rw [hP]; exact I.fresh, by rw [hP]; exact Nat.ne_of_gt I.lt, by rw [hP]; exact I.nofs (Nat.le_refl _), fun v z => nomatch z⟩
      · exact J.pin p (List.mem_append_right _ h2)
  rw [← hP]
  refine codeAny_builtin F.entry_list_repr_loop ?_
  show wpAny _ _ (Builtin.«list.__repr__.loop» ⟨[.ref a, .int (0 : Nat) 0, .ref P, .int (0 : Nat) 0], []⟩) _ _ _
  rw [repr_loop_tree]
  refine wpAny_bind (wpAny_listItems (k1 _ _ hg) rfl ?_)
  dsimp only [List.getElem?_toArray, Int.toNat_natCast, List.getElem?_cons_zero]
  refine wpAny_bind (wpAny_holding ?_)
  refine under_own (X := X) (C := C) (f := f) (sp := sp) (H := H) (dx := dx) (fs := fs) (Q := fun y H' => H' a = some (.lst [.ref m]) ∧ (listText [y]).length ≤ sizeLine ∧ Q (.str (listText [y])) H') O RB rfl rfl ?_ ?_ ?_ (by decide) (I1.tok _) hm h (fun y s' H' I' hq => ?_)
  · show X.A.depth + 1 ≤ _
    omega
  · show X.A.units + 1 + 1 ≤ _
    omega
  · show X.A.units + 1 + 1 < _
    omega
  obtain ⟨ha', hz, hq⟩ := hq
  have lt0 : (listText [y]).length = y.length + 2 := by
    show ((("[" : Str) ++ "" ++ y) ++ ("]" : Str)).length = _
    rw [strLen_append, strLen_append, strLen_append]
    show 1 + 0 + y.length + 1 = _
    omega
  obtain ⟨_, its, n', rv', hg'⟩ := (show ObjOk X.prog X.w H' s'.heap a (.lst [.ref m]) from I'.hok a _ ha')
  obtain ⟨u', rfl, ru'⟩ := Vals.one rv'
  cases (show u' = Value.ref m from ru')
  obtain ⟨p1, p2, p3, p4, p5⟩ := I'.pin _ (List.mem_append_right _ List.mem_cons_self)
  refine wpAny_bind (wpAny_mkStr ?_ (by omega))
  refine wpAny_bind ?_
  show wpAny _ _ (updateSeq P _) _ _ _
  refine wpAny_updateSeq p1 rfl (wpAny_pure ⟨quietLoop _, ?_⟩) (by decide)
  refine codeAny_builtin F.entry_list_repr_loop ?_
  show wpAny _ _ (Builtin.«list.__repr__.loop» ⟨[.ref a, .int ((0 : Nat) + 1) 0, .ref P, .int _ 0], []⟩) _ _ _
  rw [repr_loop_tree]
  refine wpAny_bind (wpAny_listItems ((Heap.get?_update_other _ _ (fun h : P = a => hpsz h.symm)).trans hg') rfl ?_)
  dsimp only
  have e1 : ((([Value.ref m] : List Value).toArray)[(((0 : Nat) : Int) + 1).toNat]? : Option Value) = none := rfl
  rw [e1]
  dsimp only
  unfold reprEnd
  refine wpAny_bind (wpAny_listItems (Heap.get?_update_self _ p1 rfl) rfl ?_)
  have es : ((#[] : Array Value).push (.str y s'.toks)).toList = strValues [(y, s'.toks)] := rfl
  rw [es, repr_fold]
  refine wpAny_bind (wpAny_pure ?_)
  refine wpAny_bind (wpAny_mkStr (wpAny_pure ?_) hz)
  refine ⟨_, _, rfl, .str _, H', ?_, ⟨_, rfl⟩, hq⟩
  have J : Inv X pins σ H' s' := ⟨I'.ok, I'.os, I'.bare, I'.base, I'.loc, I'.cell, I'.free, I'.freeC, fun p hp => I'.pin p ((List.mem_append.mp hp).elim (List.mem_append_left _) fun z => List.mem_append_right _ (List.mem_cons_of_mem _ z)), I'.hok, I'.len⟩
  refine Inv.turned (h' := s'.heap.update P (Obj.mapSeq fun x => x.push (Value.str y s'.toks))) (t' := s'.toks + 1 + 1) (s := s') (it := P) J (fun b o hb e => (Heap.get?_update_other _ _ (Ne.symm hb)).trans e) p2 p3 (.inr (by rw [hP]; exact I.sz)) (fun x c e z => ?_) (fun p hp z => ?_)
  · obtain ⟨v, o, ho, _⟩ := I.cell x c e
    rw [z, hP] at ho
    exact absurd (Heap.lt_size ho) (Nat.lt_irrefl _)
  · obtain ⟨ho, _⟩ := I.pin p hp
    rw [z, hP] at ho
    exact absurd (Heap.lt_size ho) (Nat.lt_irrefl _)
theorem call_tup_rc {pins : List (Addr × Obj)} {σ : L2.St} {H : Hp} {s : Shared} {a m dx : Addr} {fs : List (Str × V)} {Q : VK} {E' : Value → Shared → Prop} (hc : Calm X.A) (hu : X.A.units + 200 < cLine) (O : Own X.K C "__repr__" f) (RB : RunsBelow X f sp)
    (I : Inv X pins σ H s) (hm : H m = some (.ins C dx fs)) (ha : H a = some (.tup [.ref m]))
    (h : sp [.ref m] H (fun v H' => ∃ y, v = .str y ∧ (tupleText [y]).length ≤ sizeLine ∧ Q (.str (tupleText [y])) H') E0) : wpAny (model X.prog X.w) X.A (call (.builtin "repr") [.ref a]) (EP X pins σ Q) E' s := by
  obtain ⟨_, its, rv, o, hg, ho1, n, ho2⟩ := (show ObjOk X.prog X.w H s.heap a (.tup [.ref m]) from I.hok a _ ha)
  obtain ⟨u, rfl, ru⟩ := Vals.one rv
  cases (show u = Value.ref m from ru)
  have hTy : s.TypeIs (.ref a) "tuple" := ⟨_, hg, ho1⟩
  refine call_repr_slot (by omega) hTy F.slot_tuple_repr (wpAny_call (codeAny_call_builtin_own (Code.quiet_builtin _ (by decide +kernel)) F.entry_tuple_repr (F.slot_tuple_repr.check _ _ _ _ _ _ _ _ hTy (F.args_tuple_repr_1 _) ?_)))
  show wpOwn _ _ _ (Builtin.tupleReprAt 0 ⟨[.ref a], []⟩) _ _ _
  rw [tuple_repr_tree, tupleReprUnderWay_eq]
  refine wpOwn_bind (wpOwn_stackTailAny (g := []) hc (tupGuardF_off _) (tupGuardF_pos _) ?_)
  refine wpOwn_of_wpAny ?_
  show wpAny _ _ (tupleReprRest 0 (.ref a)) _ _ s
  unfold tupleReprRest Builtin.Tuple.tupleItemsOf
  refine wpAny_bind (wpAny_bind (wpAny_seqItems hg ho2 (wpAny_pure ?_)))
  rw [← Array.forIn_toList]
  dsimp only
  rw [List.forIn_cons]
  refine wpAny_bind (wpAny_bind (wpAny_bind ?_))
  refine under_own (X := X) (C := C) (f := f) (sp := sp) (H := H) (dx := dx) (fs := fs) (Q := fun y H' => (tupleText [y]).length ≤ sizeLine ∧ Q (.str (tupleText [y])) H') O RB rfl rfl ?_ ?_ ?_ (by decide) I hm h (fun y s' H' I' hq => ?_)
  · show X.A.depth + 1 ≤ _
    omega
  · show X.A.units + 1 + 1 ≤ _
    omega
  · show X.A.units + 1 + 1 < _
    omega
  obtain ⟨hz, hq⟩ := hq
  refine wpAny_pure ?_
  dsimp only
  rw [List.forIn_nil]
  refine wpAny_pure ?_
  refine wpAny_bind (wpAny_mkStr (wpAny_pure ?_) (by simpa [tupleText] using hz))
  refine ⟨_, _, rfl, .str _, H', I'.tok _, ⟨_, rfl⟩, ?_⟩
  simpa [tupleText] using hq
theorem inv_frz {pins : List (Addr × Obj)} {σ : L2.St} {H : Hp} {s : Shared} {a : Addr} {kvs : List (Key × V)} {o : Obj} (I : Inv X pins σ H s) (ha : H a = some (.dK kvs)) (ho : s.heap.get? a = some o) : Inv X pins σ (upd H a (.frz o (.dK kvs))) s := by
  have ob := I.hok a _ ha
  have hn : ∀ b u, H b = some u → (∀ ks, u ≠ .dK ks) → upd H a (.frz o (.dK kvs)) b = some u := fun b u e n => by
    rw [upd_ne (fun z => by rw [z, ha] at e; cases e; exact n _ rfl)]
    exact e
  refine I.un (h' := s.heap) (t' := s.toks) ⟨fun b o q _ _ _ => q, fun b o q _ _ _ => ⟨o.slots, q⟩, fun b o q n _ => ?_, fun b o q _ => ⟨o, q⟩, fun b xs e => hn b _ e (fun ks z => nomatch z), fun b o u e => hn b _ e (fun ks z => nomatch z), fun b ps e => ⟨#[], by rw [hn b _ e (fun ks z => nomatch z)]; simp⟩⟩ (fun b u e => ?_)
  · rw [upd_ne (fun z => by rw [z, ha] at n; cases n)]
    exact n
  · by_cases hb : b = a
    · subst hb
      rw [upd_same] at e
      cases e
      exact ⟨ho, ob.stay (fun _ _ _ q => q) (fun c e => hn c _ e (fun ks z => nomatch z)) fun c xs e => hn c _ e (fun ks z => nomatch z)⟩
    · rw [upd_ne hb] at e
      exact (I.hok b u e).stay (fun _ _ _ q => q) (fun c e => hn c _ e (fun ks z => nomatch z)) fun c xs e => hn c _ e (fun ks z => nomatch z)
/-- .. and back -/
theorem inv_thaw {pins : List (Addr × Obj)} {σ : L2.St} {H : Hp} {s0 s : Shared} {a : Addr} {kvs : List (Key × V)} {o : Obj} (I0 : Inv X pins σ H s0) (ha : H a = some (.dK kvs)) (I : Inv X pins σ (upd H a (.frz o (.dK kvs))) s) : Inv X pins σ H s := by
  have eq : ∀ b, b ≠ a → upd H a (.frz o (.dK kvs)) b = H b := fun b hb => upd_ne hb
  have back : ∀ c u, (∀ o u', u ≠ .frz o u') → upd H a (.frz o (.dK kvs)) c = some u → H c = some u := fun c u n e => by
    by_cases hc : c = a
    · subst hc
      rw [upd_same] at e
      cases e
      exact absurd rfl (n _ _)
    · rw [eq c hc] at e
      exact e
  refine ⟨I.ok, I.os, I.bare, ⟨I.base.keep, I.base.slot, I0.base.free, I.base.there, I0.base.tups, I0.base.frzs, I0.base.tbls⟩, I.loc, I.cell, I0.free, I0.freeC, fun p hp => ?_, fun b u e => ?_, I.len⟩
  · obtain ⟨q1, _, q3, q4, q5⟩ := I.pin p hp
    exact ⟨q1, (I0.pin p hp).2.1, q3, q4, q5⟩
  · by_cases hb : b = a
    · subst hb
      rw [ha] at e
      cases e
      obtain ⟨_, q⟩ := (show ObjOk X.prog X.w _ s.heap b (.frz o (.dK kvs)) from I.hok b _ upd_same)
      exact q.stay (fun _ _ _ q => q) (fun c e => back c _ (fun o u' z => nomatch z) e) fun c xs e => back c _ (fun o u' z => nomatch z) e
    · have e' := e
      rw [← eq b hb] at e'
      exact (I.hok b u e').stay (fun _ _ _ q => q) (fun c e => back c _ (fun o u' z => nomatch z) e) fun c xs e => back c _ (fun o u' z => nomatch z) e
theorem call_dct_rc {pins : List (Addr × Obj)} {σ : L2.St} {H : Hp} {s : Shared} {a m dx : Addr} {fs : List (Str × V)} {k : Str} {Q : VK} {E' : Value → Shared → Prop} (hc : Calm X.A) (hu : X.A.units + 200 < cLine) (O : Own X.K C "__repr__" f) (RB : RunsBelow X f sp)
    (I : Inv X pins σ H s) (hm : H m = some (.ins C dx fs)) (ha : H a = some (.dK [(.inr k, .ref m)])) (hkz : (reprText k).length + 100 ≤ sizeLine)
    {y : Str} (hyz : (reprText k).length + y.length + 100 ≤ sizeLine) (h : ∀ o, sp [.ref m] (upd H a (.frz o (.dK [(.inr k, .ref m)]))) (fun v H' => v = .str y ∧ H' = upd H a (.frz o (.dK [(.inr k, .ref m)]))) E0) (hq : Q (.str (dictText [reprText k ++ ": " ++ y])) H) : wpAny (model X.prog X.w) X.A (call (.builtin "repr") [.ref a]) (EP X pins σ Q) E' s := by
  have shape : ∀ {H' : Hp} {s' : Shared}, Inv X pins σ H' s' → H' a = some (.dK [(.inr k, .ref m)]) → ∃ (o : Obj) (e : DictEntry) (ep : Nat) (t : Tok), s'.heap.get? a = some o ∧ o.ExactDict ∧ o.data = .dict #[e] ep ∧ e.key = .str k t ∧ e.val = .ref m ∧ (a == sysModules) = false := by
    intro H' s' I' ha'
    obtain ⟨_, hsm, vs, kv, o, es, ep, h1, h2, h3, h4, h5, h6⟩ := (show ObjOk X.prog X.w H' s'.heap a (.dK [(.inr k, .ref m)]) from I'.hok a _ ha')
    cases kv with
    | cons r t =>
      cases t
      obtain ⟨r1, r2⟩ := r
      rename_i q
      obtain ⟨q1, q2⟩ := q
      cases (show q2 = Value.ref m from r2)
      have r1' : Sum.inr k = q1 := r1
      subst r1'
      generalize hl : es.toList = l at h5
      cases h5 with
      | cons c1 c2 c3 =>
        cases c3
        rename_i e
        have ee : es = #[e] := by
          have := congrArg List.toArray hl
          simpa using this
        rw [ee] at h3
        have c1' : Value.isStrOf k e.key = true := c1
        obtain ⟨t, et⟩ : ∃ t, e.key = .str k t := by
          cases ek : e.key with
          | str x t =>
            rw [ek] at c1'
            have : x = k := by simpa [Value.isStrOf] using c1'
            exact ⟨t, by rw [this]⟩
          | _ => rw [ek] at c1'; simp [Value.isStrOf] at c1'
        exact ⟨o, e, ep, t, h1, h2, h3, et, c2, hsm⟩
  obtain ⟨o, e, ep, t, hg, ho1, ho2, hk, hv, hsm⟩ := shape I ha
  have hTy : s.TypeIs (.ref a) "dict" := ⟨_, hg, ho1.1⟩
  refine call_repr_slot (by omega) hTy F.slot_dict_repr (wpAny_call (codeAny_call_builtin_own (Code.quiet_builtin _ (by decide +kernel)) F.entry_dict_repr (F.slot_dict_repr.check _ _ _ _ _ _ _ _ hTy (F.args_dict_repr_1 _) ?_)))
  show wpOwn _ _ _ (Builtin.dictReprAt 0 ⟨[.ref a], []⟩) _ _ _
  unfold Builtin.dictReprAt
  refine wpOwn_bind (wpOwn_of_wpAny ?_)
  unfold Builtin.Dict.dictSlotNone
  refine wpAny_bind (wpAny_notOrdered_dict hTy ?_)
  show wpAny _ _ (pure (Value.ref a)) _ _ s
  refine wpAny_pure ?_
  rw [dictReprRunning_eq]
  refine wpOwn_bind (wpOwn_stackTailAny (g := []) hc (dictGuardF_off _) (dictGuardF_pos _) ?_)
  refine wpOwn_of_wpAny ?_
  show wpAny _ _ (Builtin.Dict.addrOf (.ref a) >>= _) _ _ s
  refine wpAny_bind (wpAny_pure ?_)
  show wpAny _ _ (Builtin.Dict.showsAll a >>= _) _ _ s
  unfold Builtin.Dict.showsAll
  rw [if_neg (by rw [hsm]; exact Bool.false_ne_true)]
  refine wpAny_bind (wpAny_pure ?_)
  refine wpAny_bind (wpAny_dictEpoch hg ho2 ?_)
  refine wpAny_bind (wpAny_dictEntries hg ho2 ?_)
  refine wpAny_bind ?_
  rw [Std.Legacy.Range.forIn_eq_forIn_range']
  simp only [Std.Legacy.Range.size, Nat.sub_zero, Nat.add_sub_cancel, Nat.div_one]
  have er : List.range' 0 (#[e] : Array DictEntry).size = [0] := rfl
  show wpAny _ _ (forIn [0] _ _) _ _ _
  rw [List.forIn_cons]
  refine wpAny_bind (wpAny_bind (wpAny_dictEntries hg ho2 ?_))
  have e0 : (#[e] : Array DictEntry)[0]? = some e := rfl
  rw [e0]
  dsimp only
  rw [hk, hv]
  refine wpAny_bind (wpAny_holding (wpAny_bind ?_))
  rw [pyReprUnder_leaf (by decide) (by intro a; nofun)]
  refine PySem.wpAny_pyRepr_str ?_ (by omega)
  refine wpAny_bind ?_
  have hm1 : upd H a (.frz o (.dK [(.inr k, .ref m)])) m = some (.ins C dx fs) := by
    rw [upd_ne (fun z => by rw [z, ha] at hm; cases hm)]
    exact hm
  refine under_own (X := X) (C := C) (f := f) (sp := sp) (H := upd H a (.frz o (.dK [(.inr k, .ref m)]))) (dx := dx) (fs := fs) (Q := fun z H' => z = y ∧ H' = upd H a (.frz o (.dK [(.inr k, .ref m)]))) O RB rfl rfl ?_ ?_ ?_ (by omega) ((inv_frz I ha hg).tok _) hm1 ?_ (fun z s' H' I' hq' => ?_)
  · show X.A.depth + 1 ≤ _
    omega
  · show X.A.units + 1 + 1 ≤ _
    omega
  · show X.A.units + 1 + 1 < _
    omega
  · have e : (fun (v : V) (H' : Hp) => ∃ z, v = V.str z ∧ z = y ∧ H' = upd H a (.frz o (.dK [(.inr k, .ref m)]))) = (fun v H' => v = .str y ∧ H' = upd H a (.frz o (.dK [(.inr k, .ref m)]))) := by
      funext v H'
      exact propext ⟨fun ⟨z, h1, h2, h3⟩ => ⟨by rw [h1, h2], h3⟩, fun ⟨h1, h2⟩ => ⟨y, h1, rfl, h2⟩⟩
    rw [e]
    exact h o
  obtain ⟨rfl, rfl⟩ := hq'
  have hg' : s'.heap.get? a = some o := ((show ObjOk X.prog X.w _ s'.heap a (.frz o (.dK [(.inr k, .ref m)])) from I'.hok a _ upd_same)).1
  have J := inv_thaw I ha I'
  refine wpAny_pure ?_
  refine wpAny_bind (wpAny_dictEpoch hg' ho2 ?_)
  rw [if_neg (by simp)]
  refine wpAny_pure ?_
  dsimp only
  rw [List.forIn_nil]
  refine wpAny_pure ?_
  have ez : ((#[] : Array Str).push (reprText k ++ ": " ++ z)).toList = [reprText k ++ ": " ++ z] := rfl
  dsimp only
  rw [ez]
  have lz : (("{" : Str) ++ Str.join ", " [reprText k ++ ": " ++ z] ++ ("}" : Str)).length ≤ sizeLine := by
    show (("{" : Str) ++ (reprText k ++ ": " ++ z) ++ ("}" : Str)).length ≤ _
    rw [strLen_append, strLen_append, strLen_append, strLen_append]
    show 1 + ((reprText k).length + 2 + z.length) + 1 ≤ _
    omega
  refine wpAny_bind (wpAny_mkStr (wpAny_pure ?_) lz)
  exact ⟨_, _, rfl, .str _, H, J.tok _, ⟨_, rfl⟩, hq⟩
theorem call_reprOne (hc : Calm X.A) (hu : X.A.units + 200 < cLine) (O : Own X.K C "__repr__" f) (RB : RunsBelow X f sp) : CallR X (.builtin "repr") (rOne C sp) := by
  intro pins s σ H xs us Q I r h
  obtain ⟨a, m, dx, fs, rfl, hm, h⟩ := h
  obtain ⟨u, rfl, ru⟩ := r.one
  cases (show u = Value.ref a from ru)
  rcases h with ⟨ha, h⟩ | ⟨ha, h⟩ | ⟨k, y, ha, hz, h, q⟩
  · exact call_list_rc hc hu O RB I hm ha h
  · exact call_tup_rc hc hu O RB I hm ha h
  · exact call_dct_rc hc hu O RB I hm ha (by omega) hz h q
end
end Hk

/-! repr of a tuple of tuples of own instances whose class has a repr of its own (which leaves the heap as it is). -/
namespace Hk
open PySem PySem.Spec PyProof.Rows L2 HotX L2H
section
variable {X : Cx} {C f : Addr} {sp : Sp} {pins : List (Addr × Obj)} {σ : L2.St} {H : Hp}
/-- the text of x below containers; `as` are the tuples in it, d how deep they stand -/
def RepI (X : Cx) (pins : List (Addr × Obj)) (σ : L2.St) (H : Hp) (as : List Addr) (d : Nat) (x : Value) (t : Str) : Prop :=
  ∀ (base : Nat), base + t.length ≤ sizeLine → ∀ (A' : Around) (g : List Code) (E : Value → Shared → Prop) (s : Shared) (Q : Str → Shared → Prop),
    A'.guards = some g → (∀ b ∈ as, Clear g b) → A'.handled = X.A.handled → A'.frames = X.A.frames → A'.depth + d ≤ X.A.depth + 2 → A'.units + 2 * d ≤ X.A.units + 8 → X.A.units + 200 < cLine →
    Inv X pins σ H s → (∀ s', Inv X pins σ H s' → Q t s') → wpAny (model X.prog X.w) A' (pyReprUnder base x) Q E s
theorem RepI.own {as : List Addr} {d : Nat} {m dx : Addr} {fs : List (Str × V)} {t : Str} (O : Own X.K C "__repr__" f) (RB : RunsBelow X f sp) (hm : H m = some (.ins C dx fs)) (h : sp [.ref m] H (fun v H' => ∃ y, v = .str y ∧ y = t ∧ H' = H) E0) : RepI X pins σ H as d (.ref m) t := by
  intro base hb A' g E s Q hg hcl h1 h2 h3 h4 hu I hQ
  refine under_own (X := X) (C := C) (f := f) (sp := sp) (H := H) (dx := dx) (fs := fs) (Q := fun y H' => y = t ∧ H' = H) O RB h1 h2 (by omega) (by omega) (by omega) (by omega) I hm h (fun y s' H' I' hq => ?_)
  obtain ⟨rfl, rfl⟩ := hq
  exact hQ s' I'
inductive RepAll (X : Cx) (pins : List (Addr × Obj)) (σ : L2.St) (H : Hp) (as : List Addr) (d : Nat) : List V → List Str → Prop
  | nil : RepAll X pins σ H as d [] []
  | cons {p : Addr} {t : Str} {l : List V} {ts : List Str} : RepI X pins σ H as d (.ref p) t → RepAll X pins σ H as d l ts → RepAll X pins σ H as d (.ref p :: l) (t :: ts)
theorem RepAll.len {as : List Addr} {d : Nat} : ∀ {l : List V} {ts : List Str}, RepAll X pins σ H as d l ts → ts.length = l.length
  | _, _, .nil => rfl
  | _, _, .cons _ h => by simp [h.len]
theorem foldI {A' : Around} {E : Value → Shared → Prop} {as : List Addr} {d : Nat} {g : List Code} (hg : A'.guards = some g) (hcl : ∀ b ∈ as, Clear g b) (h1 : A'.handled = X.A.handled) (h2 : A'.frames = X.A.frames) (h3 : A'.depth + d ≤ X.A.depth + 2) (h4 : A'.units + 2 * d ≤ X.A.units + 8) (hu : X.A.units + 200 < cLine) :
    ∀ (l : List V) (its : List Value) (ts : List Str) (acc : Array Str) (n : Nat) (s : Shared) (Q : (Array Str × Nat) → Shared → Prop), Vals l its → RepAll X pins σ H as d l ts → n + piled ts ≤ sizeLine → Inv X pins σ H s →
    (∀ s', Inv X pins σ H s' → Q ⟨acc ++ ts.toArray, n + piled ts⟩ s') → wpAny (model X.prog X.w) A' (forIn its (⟨acc, n⟩ : (Array Str × Nat)) tupBody) Q E s := by
  intro l
  induction l with
  | nil =>
    intro its ts acc n s Q hv hT _ I h
    cases hT
    cases hv
    have h0 := h s I
    simp only [List.forIn_nil]
    exact wpAny_pure (by simpa [piled] using h0)
  | cons x l ih =>
    intro its ts acc n s Q hv hT hn I h
    cases hT with
    | cons hx hl =>
      rename_i p t ts'
      cases hv with
      | cons rx rr =>
        cases rx
        rw [piled_cons] at hn
        rw [List.forIn_cons]
        refine wpAny_bind (wpAny_bind (hx (n + 1) (by omega) _ _ _ _ _ hg hcl h1 h2 h3 h4 hu I fun s' I' => wpAny_pure ?_))
        refine ih _ ts' (acc.push t) (n + (t.length + 2)) _ Q rr hl (by omega) I' fun s'' I'' => ?_
        have e := h s'' I''
        have e2 : n + piled (t :: ts') = n + (t.length + 2) + piled ts' := by rw [piled_cons]; omega
        rw [e2] at e
        simpa using e
theorem ownI {A' : Around} {as : List Addr} {d : Nat} {a : Addr} {xs : List V} {ts : List Str} {g : List Code} {s : Shared} {R : Result → Shared → Prop} {base : Nat} {id : String} {rest : List Value} (ha : H a = some (.tup xs)) (hna : a ∉ as) (hT : RepAll X pins σ H as d xs ts)
    (hcg : (Code.builtin id ⟨.ref a :: rest, []⟩).isGuard = true) (hcu : (A'.under (.builtin id ⟨.ref a :: rest, []⟩)).units = A'.units + 1) (hcd : (A'.under (.builtin id ⟨.ref a :: rest, []⟩)).depth = A'.depth + 1) (hch : (A'.under (.builtin id ⟨.ref a :: rest, []⟩)).handled = A'.handled) (hcf : (A'.under (.builtin id ⟨.ref a :: rest, []⟩)).frames = A'.frames)
    (hg : A'.guards = some g) (hcl : ∀ b ∈ a :: as, Clear g b) (h1 : A'.handled = X.A.handled) (h2 : A'.frames = X.A.frames) (h3 : A'.depth + (d + 1) ≤ X.A.depth + 2) (h4 : A'.units + 2 * (d + 1) ≤ X.A.units + 8) (hu : X.A.units + 200 < cLine) (I : Inv X pins σ H s)
    (hR : ∀ u s', Inv X pins σ H s' → R (.ok (.ret (.str (tupleText ts) u))) s') (hsz : base + (tupleText ts).length ≤ sizeLine) :
    wpOwn (model X.prog X.w) A' (.builtin id ⟨.ref a :: rest, []⟩) (Builtin.tupleReprAt base ⟨[.ref a], []⟩) (fun fin s' => match fin with | .done f => R (.ok f) s' | .again c' => c'.quiet = true ∧ codeAny (model X.prog X.w) A' c' R s') (fun e s' => R (.error e) s') s := by
  have hca : Clear g a := hcl a (.head _)
  obtain ⟨_, its, rv, o, hgt, ho1, n, ho2⟩ := (show ObjOk X.prog X.w H s.heap a (.tup xs) from I.hok a _ ha)
  have hlen0 : ts.length = its.length := by rw [hT.len, Paired.length rv]
  have hlen : ts.length = its.toArray.size := by simpa using hlen0
  have hp := piled_le_tupleText ts
  have hsz0 : (tupleText ts).length ≤ sizeLine := by omega
  rw [tuple_repr_tree, tupleReprUnderWay_eq]
  refine wpOwn_bind (wpOwn_stackTailAny hg (tupGuardF_off _) (tupGuardF_pos _) ?_)
  have hn : (g.any fun c => tupGuardF (.ref a) (c, default)) = false := by
    rw [List.any_eq_false]
    intro c hcm
    rw [tupGuardF_of_clear hca c hcm]
    exact Bool.false_ne_true
  rw [hn]
  refine wpOwn_of_wpAny ?_
  show wpAny _ _ (tupleReprRest base (.ref a)) _ _ s
  unfold tupleReprRest Builtin.Tuple.tupleItemsOf
  refine wpAny_bind (wpAny_bind (wpAny_seqItems hgt ho2 (wpAny_pure ?_)))
  rw [← Array.forIn_toList]
  refine wpAny_bind (foldI (guards_under_guard hcg hg) (fun b hb => (hcl b (.tail _ hb)).cons (a := a) fun e => hna (e ▸ hb)) (hch.trans h1) (hcf.trans h2) (by rw [hcd]; omega) (by rw [hcu]; omega) hu xs _ ts _ _ _ _ rv hT (by omega) I fun s' I' => ?_)
  refine wpAny_bind (wpAny_mkStr (wpAny_pure ?_) (by simpa [tupleText, hlen0] using hsz0))
  have h5 := hR s'.toks { s' with toks := s'.toks + 1 } (I'.tok _)
  simpa [tupleText, hlen0] using h5
theorem RepI.tup {as : List Addr} {d : Nat} {a : Addr} {xs : List V} {ts : List Str} (ha : H a = some (.tup xs)) (hna : a ∉ as) (hT : RepAll X pins σ H as d xs ts) : RepI X pins σ H (a :: as) (d + 1) (.ref a) (tupleText ts) := by
  intro base hb A' g E s Q hg hcl h1 h2 h3 h4 hu I hQ
  obtain ⟨_, its, rv, o, hgt, ho1, n, ho2⟩ := (show ObjOk X.prog X.w H s.heap a (.tup xs) from I.hok a _ ha)
  refine wpAny_pyReprUnder_ref (by omega) (wpAny_pyReprObjUnder_twin (twin := "tuple.__repr__.under") ⟨o, hgt, ho1⟩ F.slot_tuple_repr rfl (by omega) ?_)
  exact call_twin_own (F.quiet_tuple_repr_under _) F.entry_tuple_repr_under F.check_tuple_repr_under ⟨o, hgt, ho1⟩ F.slot_tuple_repr (F.args_tuple_repr_1 _)
    (ownI (R := callEnd _ E) ha hna hT (isGuard_tuple_repr_under _) (units_under_tuple_repr_under _ _) rfl rfl rfl hg hcl h1 h2 h3 h4 hu I (fun u s' I' => ⟨⟨_, _, rfl⟩, ⟨_, _, rfl, hQ s' I'⟩⟩) hb)
/-- a tuple of tuples of instances of C -/
def rTT (C : Addr) (sp : Sp) : List V → Hp → VK → Prop := fun xs H Q => ∃ (a : Addr) (ys : List V) (tss : List (List Str)), xs = [.ref a] ∧ H a = some (.tup ys) ∧
  All2 (fun y ts => ∃ p zs, y = .ref p ∧ p ≠ a ∧ H p = some (.tup zs) ∧ All2 (fun z t => ∃ m dx fs, z = .ref m ∧ H m = some (.ins C dx fs) ∧ sp [.ref m] H (fun v H' => ∃ y, v = .str y ∧ y = t ∧ H' = H) E0) zs ts) ys tss ∧
  (tupleText (tss.map tupleText)).length ≤ sizeLine ∧ Q (.str (tupleText (tss.map tupleText))) H
theorem All2.reps {R : V → Str → Prop} {as : List Addr} {d : Nat} : ∀ {l : List V} {ts : List Str}, All2 R l ts → (∀ z t, R z t → ∃ p, z = .ref p ∧ RepI X pins σ H as d (.ref p) t) → RepAll X pins σ H as d l ts
  | [], [], _, _ => .nil
  | [], _ :: _, h, _ => nomatch h.1
  | _ :: _, [], h, _ => nomatch h.1
  | x :: l, t :: ts, h, k => by
    obtain ⟨p, rfl, r⟩ := k x t (h.2 0 x t rfl rfl)
    exact .cons r (All2.reps ⟨by have := h.1; simpa using this, fun j a b h1 h2 => h.2 (j + 1) a b h1 h2⟩ k)
theorem call_reprTT (hc : Calm X.A) (hu : X.A.units + 200 < cLine) (O : Own X.K C "__repr__" f) (RB : RunsBelow X f sp) : CallR X (.builtin "repr") (rTT C sp) := by
  intro pins s σ H xs us Q I r h
  obtain ⟨a, ys, tss, rfl, ha, al, hz, q⟩ := h
  obtain ⟨u, rfl, ru⟩ := r.one
  cases (show u = Value.ref a from ru)
  obtain ⟨_, its, rv, o, hgt, ho1, n, ho2⟩ := (show ObjOk X.prog X.w H s.heap a (.tup ys) from I.hok a _ ha)
  have hTy : s.TypeIs (.ref a) "tuple" := ⟨_, hgt, ho1⟩
  have hT : RepAll X pins σ H (ys.filterMap fun v => match v with | .ref p => some p | _ => none) 1 ys (tss.map tupleText) := by
    refine All2.reps (R := fun y t => ∃ ts p zs, t = tupleText ts ∧ p ∈ (ys.filterMap fun v => match v with | .ref p => some p | _ => none) ∧ y = .ref p ∧ p ≠ a ∧ H p = some (.tup zs) ∧ All2 (fun z t => ∃ m dx fs, z = .ref m ∧ H m = some (.ins C dx fs) ∧ sp [.ref m] H (fun v H' => ∃ y, v = .str y ∧ y = t ∧ H' = H) E0) zs ts) ⟨by rw [al.1, List.length_map], fun j y t h1 h2 => ?_⟩ fun y t hh => ?_
    · rw [List.getElem?_map] at h2
      obtain ⟨ts, h3, rfl⟩ := Option.map_eq_some_iff.mp h2
      obtain ⟨p, zs, rfl, z1, z2, z3⟩ := al.2 j y ts h1 h3
      exact ⟨ts, p, zs, rfl, List.mem_filterMap.mpr ⟨_, List.mem_of_getElem? h1, rfl⟩, rfl, z1, z2, z3⟩
    · obtain ⟨ts, p, zs, rfl, hp, rfl, pa, hpz, az⟩ := hh
      refine ⟨p, rfl, ?_⟩
      have RR := RepI.tup (X := X) (pins := pins) (σ := σ) (as := []) (d := 0) hpz (fun z => nomatch z) (az.reps fun z t hh => by
        obtain ⟨m, dx, fs, rfl, h1, h2⟩ := hh
        exact ⟨m, rfl, RepI.own O RB h1 h2⟩)
      intro base hb A' g E s Q hg hcl h1 h2 h3 h4 hu I hQ
      exact RR base hb A' g E s Q hg (fun b hb => by
        rcases List.mem_cons.mp hb with rfl | z
        · exact hcl _ hp
        · nomatch z) h1 h2 h3 h4 hu I hQ
  have hna : a ∉ (ys.filterMap fun v => match v with | .ref p => some p | _ => none) := by
    intro z
    obtain ⟨v, hv, e⟩ := List.mem_filterMap.mp z
    obtain ⟨j, hj⟩ := List.mem_iff_getElem?.mp hv
    have lt := (List.getElem?_eq_some_iff.mp hj).1
    obtain ⟨p, zs, rfl, pa, _⟩ := al.2 j v (tss[j]'(by rw [← al.1]; exact lt)) hj (List.getElem?_eq_getElem _)
    cases e
    exact pa rfl
  refine call_repr_slot (by omega) hTy F.slot_tuple_repr (wpAny_call (codeAny_call_builtin_own (Code.quiet_builtin _ (by decide +kernel)) F.entry_tuple_repr (F.slot_tuple_repr.check _ _ _ _ _ _ _ _ hTy (F.args_tuple_repr_1 _) ?_)))
  refine ownI (g := []) (base := 0) (R := callEnd _ _) ha hna hT (isGuard_tuple_repr _) (units_under_tuple_repr _ _) rfl rfl rfl hc (fun _ _ => Clear.nil _) rfl rfl (Nat.le_refl _) ?_ hu I (fun u s' I' => ?_) (by omega)
  · show X.A.units + 1 + 4 ≤ _
    omega
  · exact ⟨_, _, rfl, .str _, H, I', ⟨_, rfl⟩, q⟩
end
end Hk

namespace K54
open PySem PySem.Spec PyProof.Rows L2 Hk NumM NumT SX Hz
/-- no integer; no number -/
def NotInt (K : Fr) (H : Hp) (x : V) : Prop := (∃ b, x = .bl b) ∨ ∃ ty, TyX K H x ty ∧ PySem.W.kitOne K ty (.type "int") = some false
def NotNum (K : Fr) (H : Hp) (x : V) : Prop := NotInt K H x ∧ ∃ ty, TyX K H x ty ∧ PySem.W.kitOne K ty (.ref (CN K)) = some false
/-- the error of the class c with this field is let out -/
abbrev Bad (c f : Str) (K : Fr) (H : Hp) (E : XK) (x : V) : Prop := ∀ (H' : Hp) (d : Addr), Same H H' → H' d = none → E (.ref (He.ga K c)) (some d) (upd H' d (.xd [(f, x)]))
theorem Bad.same {c f : Str} {K : Fr} {H H' : Hp} {E : XK} {x : V} (b : Bad c f K H E x) (s : Same H H') : Bad c f K H' E x := fun H2 d s2 nd => b H2 d (s.trans s2) nd
theorem tyo_same {K : Fr} {H H' : Hp} {y : V} {ty : Value} (s : Same H H') (h : TyOf K H y ty) : TyOf K H' y ty := by
  cases h with
  | lst e => exact .lst (s _ _ e)
  | frz e => exact .frz (s _ _ e)
  | tup e => exact .tup (s _ _ e)
  | dK e => exact .dK (s _ _ e)
  | dT e => exact .dT (s _ _ e)
  | ins e c1 c2 c3 c4 c5 => exact .ins (s _ _ e) c1 c2 c3 c4 c5
  | _ => constructor
theorem tyx_same {K : Fr} {H H' : Hp} {y : V} {ty : Value} (s : Same H H') (h : TyX K H y ty) : TyX K H' y ty := by
  cases h with
  | base e => exact .base (tyo_same s e)
  | byt b => exact .byt b
  | set e => exact .set (s _ _ e)
  | kList e c => exact .kList e c
  | kTuple e c => exact .kTuple e c
  | kDict e c => exact .kDict e c
  | fTuple e => exact .fTuple (s _ _ e)
  | fDict e => exact .fDict (s _ _ e)
theorem NotInt.same {K : Fr} {H H' : Hp} {x : V} (h : NotInt K H x) (s : Same H H') : NotInt K H' x := by
  rcases h with h | ⟨ty, h1, h2⟩
  · exact .inl h
  · exact .inr ⟨ty, tyx_same s h1, h2⟩
theorem NotNum.same {K : Fr} {H H' : Hp} {x : V} (h : NotNum K H x) (s : Same H H') : NotNum K H' x := by
  obtain ⟨h1, ty, h2, h3⟩ := h
  exact ⟨h1.same s, ty, tyx_same s h2, h3⟩
def spIsI (K : Fr) : Sp := fun vs H Q _ => ∃ x : V, vs = [x] ∧ ((∃ i, x = .int i ∧ Q (.bl true) H) ∨ (NotInt K H x ∧ Q (.bl false) H))
/-- a sample: a number or none -/
def Smp (K : Fr) (H : Hp) (x : V) (b : Bool) : Prop := if b = true then ∃ q, OpdQ K H x q else NotNum K H x
theorem Smp.same {K : Fr} {H H' : Hp} {x : V} {b : Bool} (h : Smp K H x b) (s : Same H H') : Smp K H' x b := by
  unfold Smp at h ⊢
  split at h
  · rename_i e
    rw [if_pos e]
    obtain ⟨q, o⟩ := h
    exact ⟨q, o.same s⟩
  · rename_i e
    rw [if_neg e]
    exact NotNum.same h s
def spNumX (K : Fr) : Sp := fun vs H Q _ => ∃ (x : V) (b : Bool), vs = [x] ∧ Smp K H x b ∧ Q (.bl b) H
section
variable {P : Program} {w : World} {K : Fr} {mg : Str → Option Value} {base : Heap}
theorem xr_Count (T : Tx K mg) : XrV P w K mg base "InvalidCount" "value" := by
  obtain ⟨fd, D⟩ := a_InvalidCount_init T.c
  exact xrv_of D rfl sc_InvalidCount_init (f_ve_InvalidCount T.c) (f_nof_InvalidCount T.c) (f_init_InvalidCount T.c) (f_typ_InvalidCount T.c) (g_InvalidCount T) (FunD.bindsN D fun _ _ _ _ _ _ us hl => match us, hl with | [_, _], _ => rfl) fun cdv A outer s H E => pss_one (ps_vst (pv 0) (pv 1))
theorem xr_Inputs (T : Tx K mg) : XrV P w K mg base "InvalidInputs" "index" := by
  obtain ⟨fd, D⟩ := a_InvalidInputs_init T.c
  exact xrv_of D rfl sc_InvalidInputs_init (f_ve_InvalidInputs T.c) (f_nof_InvalidInputs T.c) (f_init_InvalidInputs T.c) (f_typ_InvalidInputs T.c) (g_InvalidInputs T) (FunD.bindsN D fun _ _ _ _ _ _ us hl => match us, hl with | [_, _], _ => rfl) fun cdv A outer s H E => pss_one (ps_vst (pv 0) (pv 1))
theorem c_isI (T : Tx K mg) : Cal P w K mg base 1 "is_integer" (gAd "is_integer" K) ["value"] (spIsI K) := by
  refine cal_of (d := d_is_integer) (N := ["value"]) (a_is_integer T.c) rfl sc_is_integer (g_is_integer T) (fun _ _ _ _ _ _ us hl => match us, hl with | [_], _ => rfl) (fun vs H Q E h => ?_) (fun cdv A outer s H vs Q E hr h => ?_)
  · obtain ⟨x, rfl, _⟩ := h
    rfl
  · obtain ⟨x, rfl, h⟩ := h
    refine ⟨_, (pss_one (ps_ret (pe_and (pe_callB call_isi (by rfl) (n_isinstance T) bo_isinstance (pa_cons (pv 0) (pa_cons (pe_bltn (v := .ty "int") (by rfl) (n_int T) (by decide +kernel) rfl) pa_nil)))
      (pe_one (pe_not (pe_callB call_isi (by rfl) (n_isinstance T) bo_isinstance (pa_cons (pv 0) (pa_cons (pe_bltn (v := .ty "bool") (by rfl) (n_bool T) (by decide +kernel) rfl) pa_nil)))))))), ?_⟩
    rcases h with ⟨i, rfl, k⟩ | ⟨⟨b, rfl⟩ | ⟨ty, hty, hk⟩, k⟩
    · refine ⟨_, rfl, _, _, .type "int", .type "int", true, rfl, .ty _, .base (.int i), kit_ty (by decide +kernel), true, rfl, iteT ?_⟩
      exact ⟨_, rfl, _, _, .type "int", .type "bool", false, rfl, .ty _, .base (.int i), kit_ty (by decide +kernel), false, rfl, k⟩
    · refine ⟨_, rfl, _, _, .type "bool", .type "int", true, rfl, .ty _, .base (.bl b), kit_ty (by decide +kernel), true, rfl, iteT ?_⟩
      exact ⟨_, rfl, _, _, .type "bool", .type "bool", true, rfl, .ty _, .base (.bl b), kit_ty (by decide +kernel), true, rfl, k⟩
    · exact ⟨_, rfl, _, _, ty, .type "int", false, rfl, .ty _, hty, hk, false, rfl, iteF k⟩
theorem c_numX (T : Tx K mg) : Cal P w K mg base 2 "is_number" (gAd "is_number" K) ["value"] (spNumX K) := by
  have C_is_integer := c_isI (P := P) (w := w) (base := base) T
  refine cal_of (d := d_is_number) (N := ["value"]) (a_is_number T.c) rfl sc_is_number (g_is_number T) (fun _ _ _ _ _ _ us hl => match us, hl with | [_], _ => rfl) (fun vs H Q E h => ?_) (fun cdv A outer s H vs Q E hr h => ?_)
  · obtain ⟨x, b, rfl, _⟩ := h
    rfl
  · obtain ⟨x, b, rfl, o, k⟩ := h
    refine ⟨_, (pss_one (ps_ret (pe_or (pe_callB call_isi (by rfl) (n_isinstance T) bo_isinstance (pa_cons (pv 0) (pa_cons (pe_glob (v := .ref (gAd "Number" K)) rfl (g_Number T) rfl) pa_nil))) (pe_one (pe_c C_is_integer hr (pa_cons (pv 0) pa_nil)))))), ?_⟩
    cases b with
    | true =>
      obtain ⟨q, o⟩ := (show ∃ q, OpdQ K H x q from o)
      rcases id o with ⟨p, rfl, n⟩ | ⟨rfl, hc⟩
      · obtain ⟨dx, hp⟩ := id n.at_
        exact ⟨_, rfl, _, _, _, _, true, rfl, .own _, .base (ins_ok (f_ins T.c) hp (cl T)), of_decide_eq_true (f_kitO T.c), true, rfl, iteT k⟩
      · exact ⟨_, rfl, _, _, _, _, false, rfl, .own _, .base (.int _), of_decide_eq_true (f_kit_int T.c), false, rfl, iteF ⟨_, rfl, _, rfl, .inl ⟨q.num, rfl, k⟩⟩⟩
    | false =>
      obtain ⟨ni, ty, h1, h2⟩ := (show NotNum K H x from o)
      refine ⟨_, rfl, _, _, ty, .ref (CN K), false, rfl, .own _, h1, h2, false, rfl, iteF ?_⟩
      exact ⟨_, rfl, _, rfl, .inr ⟨ni, k⟩⟩
end
end K54

namespace K54
open PySem PySem.Spec PyProof.Rows L2 Hk NumM NumT SX Hz
/-- an input that is none where n samples are asked: no tuple; of another length; one of its items no number -/
def BadRow (K : Fr) (H : Hp) (x : V) (n : Nat) : Prop := (∃ ty, TyX K H x ty ∧ PySem.W.kitOne K ty (.type "tuple") = some false) ∨
  ∃ p ys, x = .ref p ∧ H p = some (.tup ys) ∧ (ys.length ≠ n ∨ ∃ bs, All2 (Smp K H) ys bs ∧ bs.all id = false)
theorem BadRow.same {K : Fr} {H H' : Hp} {x : V} {n : Nat} (h : BadRow K H x n) (s : Same H H') : BadRow K H' x n := by
  rcases h with ⟨ty, h1, h2⟩ | ⟨p, ys, e, hp, h⟩
  · exact .inl ⟨ty, tyx_same s h1, h2⟩
  · refine .inr ⟨p, ys, e, s _ _ hp, h.imp id fun h => ?_⟩
    obtain ⟨bs, h1, h2⟩ := h
    exact ⟨bs, h1.mono fun _ _ z => z.same s, h2⟩
/-- why a run is refused: the number of samples; the number of inputs; the input at i -/
def RunBad (K : Fr) (H : Hp) (E : XK) (m : Mac) (y : V) (xs : List V) : Prop :=
  ((NotInt K H y ∨ ∃ n : Int, y = .int n ∧ n < 0) ∧ Bad "InvalidCount" "value" K H E y) ∨
  ∃ u : Nat, y = .int (u : Int) ∧ u ≤ 54 ∧ ((xs.length ≠ m.ins.length ∧ Bad "InvalidInputs" "index" K H E .non) ∨
    (xs.length = m.ins.length ∧ ∃ (i : Nat) (x : V) (r : Nat × Nat), xs[i]? = some x ∧ m.ins[i]? = some r ∧ BadRow K H x (cnt r u) ∧
      (∀ (j : Nat) (z : V) (q : Nat × Nat), j < i → xs[j]? = some z → m.ins[j]? = some q → ∃ l, RowAt K H z l ∧ l.length = cnt q u) ∧ Bad "InvalidInputs" "index" K H E (.int i)))
theorem RunBad.same {K : Fr} {H H' : Hp} {E : XK} {m : Mac} {y : V} {xs : List V} (h : RunBad K H E m y xs) (s : Same H H') : RunBad K H' E m y xs := by
  rcases h with ⟨h, b⟩ | ⟨u, e, hu, ⟨h, b⟩ | ⟨hl, i, x, r, h1, h2, h3, h4, b⟩⟩
  · exact .inl ⟨h.imp (fun h => h.same s) id, b.same s⟩
  · exact .inr ⟨u, e, hu, .inl ⟨h, b.same s⟩⟩
  · exact .inr ⟨u, e, hu, .inr ⟨hl, i, x, r, h1, h2, h3.same s, fun j z q a b c => by
      obtain ⟨l, g1, g2⟩ := h4 j z q a b c
      exact ⟨l, g1.same s, g2⟩, b.same s⟩⟩
def spRunX (K : Fr) : Sp := fun vs H Q E => ∃ (p t : Addr) (y : V) (m : Mac) (xs : List V), vs = [.ref p, y, .ref t] ∧ MachAt K H p m ∧ Wf m ∧ H t = some (.tup xs) ∧ RunBad K H E m y xs
def spRunXR (K : Fr) : Sp := fun vs H Q E => ∃ ws rest, vs = ws ++ rest ∧ ws.length = (["self", "until"] : List Str).length ∧ rest.length ≤ sizeLine ∧ ∀ p, H p = Option.none → spRunX K (ws ++ [V.ref p]) (upd H p (.tup rest)) Q E
theorem tk0 {P : Program} {w : World} {K : Fr} {mg : Str → Option Value} {base : Heap} {N : List Str} {q : Str} {sc : Scope} {f : Addr} {cdv : Value} {A : Around} {outer : List Env} {s : Shared} {H : Hp} {E : XK} : L2N.Takes (cxOf (L2N.CX P w) P w K mg base N q sc f cdv A outer s H E) (fun cls d _ H => E cls d H) := L2N.takes_of rfl rfl rfl rfl
section
variable {P : Program} {w : World} {K : Fr} {mg : Str → Option Value} {base : Heap}
theorem f_mrunX (T : Tx K mg) : FnR P w K mg base (L2N.CX P w) 8 (d_Machine_run.ad K) (spRunXR K) := by
  obtain ⟨fd, D⟩ := a_Machine_run T.c
  have C_is_integer := c_isI (P := P) (w := w) (base := base) T
  have C_samples_below := c_below (P := P) (w := w) (base := base) T
  have C_is_number := c_numX (P := P) (w := w) (base := base) T
  have C_as_number := c_asnum (P := P) (w := w) (base := base) T
  have C_walked := c_walked (P := P) (w := w) (base := base) T
  have XA := xr_Count (P := P) (w := w) (base := base) T
  have XB := xr_Inputs (P := P) (w := w) (base := base) T
  obtain ⟨f0, D0, F0⟩ := f_init (P := P) (w := w) (base := base) T
  obtain ⟨ds0, Vd, B0⟩ := b_init1 D0
  obtain ⟨oc, od, dV, kV, doc, pm, an, cdv, ct, osl, rfl, lk, hcd, hD, hK⟩ := D.ex
  rcases hD with ⟨_, rfl⟩ | ⟨e, _⟩
  rotate_left
  · exact absurd rfl e
  refine StX.fn_star (N := N_Machine_run) (ps := ["self", "until"]) (pv := "inputs") (k := 7) (sp := spRunX K) lk hcd sc_Machine_run cxUpN (fun us rest hl => match us, rest, hl with | [a, b], [], _ => rfl | [a, b], r :: rs, _ => rfl) (fun A outer s H vs Q E hr h => ?_)
  obtain ⟨p, t, y, m, xs, rfl, hM, W, ht, bad⟩ := h
  have hr2 : Room 2 _ := hr.mono (by decide)
  refine ⟨_, (pss_cons (ps_if (PW.pt (pw_or (pt_not (pt_val (pe_c C_is_integer (hr.mono (by decide)) (pa_cons (pv 1) pa_nil)))) (pw_or1 (pt_cmpR op_lt (pv 1) pe_int (nomark _)))))
 (pss_one (ps_rv XA hr2 rfl tk0 (pa_cons (pv 1) pa_nil)))
 pss_nil)
 (pss_cons (ps_if (pt_cmpR op_ne (pe_callB call_len_seq (by rfl) (n_len T) bo_len (pa_cons (pv 2) pa_nil)) (pe_callB call_len_seq (by rfl) (n_len T) bo_len (pa_cons (pe_fld (pv 0) rfl) pa_nil)) (nomark _))
 (pss_one (ps_rv XB hr2 rfl tk0 (pa_cons pe_non pa_nil)))
 pss_nil)
 (pss_cons (ps_for PassesOwn.leaving rfl (Hk.pi_enumT rfl (n_enumerate T) (pa_cons (pv 2) pa_nil)) (pg_tup (by rfl) (pgs_cons (pg_name (i := 3) sc_Machine_run.nd rfl (.inl rfl)) (pgs_cons (pg_name (i := 4) sc_Machine_run.nd rfl (.inl rfl)) pgs_nil)))
 (pss_cons (ps_if (PW.pt (pw_or (pt_not (pt_val (pe_callB call_isi (by rfl) (n_isinstance T) bo_isinstance (pa_cons (pv 4) (pa_cons (pe_bltn (v := .ty "tuple") (by rfl) (n_tuple T) (by decide +kernel) rfl) pa_nil))))) (pw_or1 (pt_cmpR op_ne (pe_callB call_len_seq (by rfl) (n_len T) bo_len (pa_cons (pv 4) pa_nil)) (pe_c C_samples_below (hr.mono (by decide)) (pa_cons (pe_ix ix_tup (pe_fld (pv 0) rfl) (pv 3) (fun _ _ => rfl)) (pa_cons (pv 1) pa_nil))) (nomark _)))))
 (pss_one (ps_rv XB hr2 rfl tk0 (pa_cons (pv 3) pa_nil)))
 pss_nil)
 (pss_one (ps_if (pt_not (pt_val (pe_callB (cr_all rfl) (by rfl) (n_all T) bo_all (pa_cons (pe_lc (own := [("sample", 5)]) (g := gName 5) (tt := tYes) rfl sc_Machine_run.nd (pi_tup (pv 4)) (blkOk_by (N := N_Machine_run) (sc := defScope s_Machine_run) (by decide +kernel)) (fun _ _ _ _ _ => pg_name (i := 5) sc_Machine_run.nd rfl (.inl rfl)) (fun _ _ _ _ _ => pts_nil) (fun _ _ _ _ _ => (pe_c C_is_number (hr.mono (by decide)) (pa_cons (pv 5) pa_nil)))) pa_nil))))
 (pss_one (ps_rv XB hr2 rfl tk0 (pa_cons (pv 3) pa_nil)))
 pss_nil))))
 (pss_cons (ps_setLc (i := 6) (own := [("row", 4)]) (g := gName 4) (tt := tYes) rfl sc_Machine_run.nd rfl rfl (sw_true rfl rfl rfl (by decide +kernel)) (pi_tup (pv 2)) (blkOk_by (N := N_Machine_run) (sc := defScope s_Machine_run) (by decide +kernel)) (fun _ _ _ _ _ => pg_name (i := 4) sc_Machine_run.nd rfl (.inl rfl)) (fun _ _ _ _ _ => pts_nil) (fun _ _ _ _ _ => (pe_lc (wi := iTup K (tVar 4)) (own := [("sample", 5)]) (g := gName 5) (tt := tYes) rfl sc_Machine_run.nd (pi_tup (pv 4)) (blkOk_by (N := N_Machine_run) (by rfl)) (fun _ _ _ _ _ => pg_name (i := 5) sc_Machine_run.nd rfl (.inl rfl)) (fun _ _ _ _ _ => pts_nil) (fun _ _ _ _ _ => (pe_c C_as_number (hr.mono (by decide)) (pa_cons (pv 5) pa_nil))))))
 (pss_cons (ps_asg (pe_c C_walked hr (pa_cons (pv 0) (pa_cons (pv 1) (pa_cons (pv 6) (pa_cons (pe_op op_rep (pe_lst (pa_cons (pe_num (mkN T) F0 (hr.mono (by decide)) (g_Number T) B0 Vd (pa_cons pe_int pa_nil)) pa_nil)) (pe_ix ix_tup (pe_fld (pv 0) rfl) pe_int (fun _ _ => rfl))) (pa_cons (pe_num (mkN T) F0 (hr.mono (by decide)) (g_Number T) B0 Vd (pa_cons pe_int pa_nil)) pa_nil)))))) (pg_tup (by rfl) (pgs_cons (pg_name (i := 7) sc_Machine_run.nd rfl (.inl rfl)) (pgs_cons (pg_name (i := 8) sc_Machine_run.nd rfl (.inl rfl)) pgs_nil))))
 (pss_one (ps_ret (pe_callTy call_tuple_of (by rfl) (n_tuple T) bo_tuple (pa_cons (pe_lc (own := [("row", 4)]) (g := gName 4) (tt := tYes) rfl sc_Machine_run.nd (pi_list (pv 7)) (blkOk_by (N := N_Machine_run) (sc := defScope s_Machine_run) (by decide +kernel)) (fun _ _ _ _ _ => pg_name (i := 4) sc_Machine_run.nd rfl (.inl rfl)) (fun _ _ _ _ _ => pts_nil) (fun _ _ _ _ _ => (pe_callTy (call_tuple_of : CallR _ _ (fun xs H Q => ∃ p ys, xs = [.ref p] ∧ ((SqL K H p ys ∧ ∀ l, H l = none → Q (.ref l) (upd H l (.tup ys))) ∨ (SqT K H p ys ∧ Q (.ref p) H)))) (by rfl) (n_tuple T) bo_tuple (pa_cons (pv 4) pa_nil)))) pa_nil))))))))), ?_⟩
  obtain ⟨dx, fs, hp, hF⟩ := id hM
  have I1 := W.i1
  obtain ⟨a, b, e, c, d, xa, xb, xe, rfl, ha, ra, hb, rb, he, ae, hc⟩ := id hF
  have la : xa.length = m.ins.length := ra.1
  have I2 := W.i2
  have nM := fun (f : Str) (h : tNoat "Machine" f K = true) => (He.noat_ok h : NoAttr K (CM K) f)
  rcases bad with ⟨h, bad⟩ | ⟨u, rfl, hu, h⟩
  · rcases h with ni | ⟨n, rfl, hn⟩
    · exact ⟨_, rfl, _, rfl, .inr ⟨ni, false, rfl, iteT ⟨_, rfl, xin_mk fun dd nd => bad _ dd (Same.refl H) nd⟩⟩⟩
    · refine ⟨_, rfl, _, rfl, .inl ⟨n, rfl, true, rfl, iteF ⟨_, rfl, _, _, rfl, rfl, _, rfl, ?_⟩⟩⟩
      rw [decide_eq_true hn]
      exact iteT ⟨_, rfl, xin_mk fun dd nd => bad _ dd (Same.refl H) nd⟩
  refine ⟨_, rfl, _, rfl, .inl ⟨_, rfl, true, rfl, iteF ⟨_, rfl, _, _, rfl, rfl, _, rfl, ?_⟩⟩⟩
  rw [decide_eq_false (by omega)]
  refine iteF ?_
  refine ⟨_, rfl, t, _, rfl, .inr (.inl (.inl ht)), _, rfl, p, CM K, dx, _, _, rfl, hp, clM T, nM _ (f_noat_M_input_rates T.c), lk62 _ _ _ _ _ _, a, _, rfl, .inr (.inl (.inl ha)), rfl, _, rfl, ?_⟩
  rcases h with ⟨hl, bad⟩ | ⟨hl, i, x, r, hx, hi, br, gd, bad⟩
  · rw [show (!decide (V.int ((xs.length : Nat) : Int) = V.int ((xa.length : Nat) : Int))) = true by
      rw [la, Bool.not_eq_true', decide_eq_false_iff_not]
      intro z
      have e := V.int.inj z
      omega]
    exact iteT (xin_mk fun dd nd => bad _ dd (Same.refl H) nd)
  rw [show (!decide (V.int ((xs.length : Nat) : Int) = V.int ((xa.length : Nat) : Int))) = false by rw [hl, la]; simp]
  refine iteF ?_
  refine ⟨_, rfl, t, _, rfl, .inl (.inl ht), ?_⟩
  refine for_it walk_enumT (fun k σ H' => k ≤ i ∧ Same H H' ∧ ∃ x3 x4 : Option V, σ = [some (.ref p), some (.int (u : Int)), some (.ref t), x3, x4, none, none, none, none]) ⟨Nat.zero_le _, Same.refl _, none, none, rfl⟩ (fun i σ H' _ h => .inl (.inl (h.2.1 _ _ ht))) ?_ ?_
  rotate_left
  · rintro σ' H1 ⟨hji, _⟩
    have := (List.getElem?_eq_some_iff.mp hx).1
    omega
  rintro k y σ G1 G2 hk ⟨hki, s1, x3, x4, rfl⟩ ⟨TT, v1, v2, rfl, nT, rfl, e1, e2⟩
  cases e1
  have e2 : xs[k]? = some v2 := e2
  have s2 := same_upd nT (o := HO.tup [.int (k : Nat), v2])
  have s12 := s1.trans s2
  have klt : k < m.ins.length := by rw [← hl]; exact (List.getElem?_eq_some_iff.mp e2).1
  have hq : m.ins[k]? = some (m.ins[k]'klt) := List.getElem?_eq_getElem _
  generalize m.ins[k]'klt = q at hq
  have o := W.okI _ (List.mem_of_getElem? hq)
  obtain ⟨xq, hxq, rq⟩ := ra.at2 hq
  have rq2 : RateAt (upd G1 TT (.tup [.int (k : Nat), v2])) xq q := RateAt.same rq s12
  refine ⟨TT, _, rfl, .inl (.inl upd_same), rfl, _, _, rfl, _, _, rfl, rfl, ?_⟩
  by_cases hlt : k < i
  · obtain ⟨l, rr, ll⟩ := gd k v2 q hlt e2 hq
    obtain ⟨pr, xr, rfl, hpr, ar⟩ := rr.same s12
    have lr : xr.length = cnt q u := by rw [ar.1, ll]
    have cb := cnt_le (r := q) (u := u) o.b1
    have ct2 : u * q.1 ≤ 54 * 12 := Nat.mul_le_mul hu o.t2
    refine ⟨_, rfl, _, _, _, _, true, rfl, .ty _, ty_tup hpr, kit_ty (by decide +kernel), _, rfl, iteF ?_⟩
    refine ⟨_, rfl, pr, _, rfl, .inr (.inl (.inl hpr)), _, rfl, p, CM K, dx, _, _, rfl, s12 _ _ hp, clM T, nM _ (f_noat_M_input_rates T.c), lk62 _ _ _ _ _ _, _, rfl, a, _, _, _, rfl, rfl, .inl (.inl (s12 _ _ ha)), atI_nat hxq, _, rfl, xq, q, u, rfl, rq2, o, by omega, rfl, _, rfl, ?_⟩
    rw [show (!decide (V.int ((xr.length : Nat) : Int) = V.int ((cnt q u : Nat) : Int))) = false by rw [lr]; simp]
    refine iteF ?_
    refine ⟨_, rfl, pr, rfl, ⟨_, .inl (.inl hpr)⟩, fun D3 nD3 => ?_⟩
    refine lc_trueT nD3 (.inl (.inl hpr)) (by omega) (fun j x hx G3 R s3 qq => ?_) (fun G3 s3 hD3 => ?_)
    · obtain ⟨c', _, o'⟩ := ar.at hx
      exact ⟨_, rfl, x, true, rfl, ⟨c', o'.same s3⟩, qq G3 (Same.refl _)⟩
    · refine ⟨D3, _, rfl, .inl (.inl hD3), ?_⟩
      rw [all_rep]
      exact ⟨_, rfl, iteF ⟨hlt, s12.trans s3, _, _, rfl⟩⟩
  have ek : k = i := by omega
  subst ek
  rw [hx] at e2
  cases e2
  rw [hi] at hq
  cases hq
  rcases br.same s12 with ⟨ty, hty, hk⟩ | ⟨pr, xr, rfl, hpr, h⟩
  · refine ⟨_, rfl, _, _, _, _, false, rfl, .ty _, hty, hk, _, rfl, iteT ?_⟩
    exact ⟨_, rfl, xin_mk fun dd nd => bad _ dd s12 nd⟩
  refine ⟨_, rfl, _, _, _, _, true, rfl, .ty _, ty_tup hpr, kit_ty (by decide +kernel), _, rfl, iteF ?_⟩
  refine ⟨_, rfl, pr, _, rfl, .inr (.inl (.inl hpr)), _, rfl, p, CM K, dx, _, _, rfl, s12 _ _ hp, clM T, nM _ (f_noat_M_input_rates T.c), lk62 _ _ _ _ _ _, _, rfl, a, _, _, _, rfl, rfl, .inl (.inl (s12 _ _ ha)), atI_nat hxq, _, rfl, xq, r, u, rfl, rq2, o, by omega, rfl, _, rfl, ?_⟩
  by_cases hlen : xr.length = cnt r u
  rotate_left
  · rw [show (!decide (V.int ((xr.length : Nat) : Int) = V.int ((cnt r u : Nat) : Int))) = true by
      rw [Bool.not_eq_true', decide_eq_false_iff_not]
      intro z
      have e := V.int.inj z
      omega]
    exact iteT ⟨_, rfl, xin_mk fun dd nd => bad _ dd s12 nd⟩
  rw [show (!decide (V.int ((xr.length : Nat) : Int) = V.int ((cnt r u : Nat) : Int))) = false by rw [hlen]; simp]
  refine iteF ?_
  rcases h with h | ⟨bs, al, hf⟩
  · exact absurd hlen h
  have cb := cnt_le (r := r) (u := u) o.b1
  have ct2 : u * r.1 ≤ 54 * 12 := Nat.mul_le_mul hu o.t2
  refine ⟨_, rfl, pr, rfl, ⟨_, .inl (.inl hpr)⟩, fun D3 nD3 => ?_⟩
  refine lc_idxT (bs.map V.bl) (by rw [List.length_map]; exact al.1) nD3 (.inl (.inl hpr)) (by omega) (fun j x y hx hy G3 R s3 qq => ?_) (fun G3 s3 hD3 => ?_)
  · rw [List.getElem?_map] at hy
    obtain ⟨b, hb', rfl⟩ := Option.map_eq_some_iff.mp hy
    exact ⟨_, rfl, x, b, rfl, (al.2 j x b hx hb').same s3, qq G3 (Same.refl _)⟩
  · refine ⟨D3, _, rfl, .inl (.inl hD3), ?_⟩
    rw [hf]
    exact ⟨_, rfl, iteT ⟨_, rfl, xin_mk fun dd nd => bad _ dd (s12.trans s3) nd⟩⟩
end
end K54

namespace K54
open PySem PySem.Spec PyProof.Rows L2 Hk NumM NumT SX Hz
theorem nm1 {x a : Addr} (h : x ≠ a) : x ∉ [a] := fun z => h (List.mem_singleton.mp z)
theorem nm2 {x a b : Addr} (h : x ≠ a) (g : x ≠ b) : x ∉ [a, b] := fun z => by
  rcases List.mem_cons.mp z with q | q
  · exact h q
  · exact g (List.mem_singleton.mp q)
theorem ne_lst {H : Hp} {x D : Addr} {o : HO} (h : H x = some o) (n : H D = none) : D ≠ x := fun z => by rw [z, h] at n; cases n
/-! pairs of the law -/
def PairV (H : Hp) (x : V) (q : Rat) : Prop := ∃ p, x = .ref p ∧ H p = some (.tup [.int q.num, .int (q.den : Int)])
theorem framed_pair {N : List Addr} : Framed N PairV := fun H H' v b l s ⟨p, e, hp⟩ => ⟨p, e, s _ _ (l.no hp fun _ q => nomatch q) hp⟩
theorem pair_mono : ∀ (H H' : Hp) (v : V) (b : Rat), Same H H' → PairV H v b → PairV H' v b := fun H H' v b s h => framed_pair (N := []) H H' v b Ls.nil (Fm.same s) h
/-- a display of pairs -/
inductive MkPairs : TA → List (Int × Int) → Prop
  | nil : MkPairs tNil []
  | pp {t : TA} {qs : List (Int × Int)} (a b : Int) : MkPairs t qs → MkPairs (tCons (tTup (tCons (tC (.int a)) (tCons (tC (.int b)) tNil))) t) ((a, b) :: qs)
  | np {t : TA} {qs : List (Int × Int)} (a b : Int) : MkPairs t qs → MkPairs (tCons (tTup (tCons (tUn (rU fun i => .int (-i)) (tC (.int a))) (tCons (tC (.int b)) tNil))) t) ((-a, b) :: qs)
def PrAt (H : Hp) (x : V) (q : Int × Int) : Prop := ∃ p, x = .ref p ∧ H p = some (.tup [.int q.1, .int q.2])
theorem PrAt.same {H H' : Hp} {x : V} {q : Int × Int} (h : PrAt H x q) (s : Same H H') : PrAt H' x q := by
  obtain ⟨p, e, hp⟩ := h
  exact ⟨p, e, s _ _ hp⟩
theorem MkPairs.run {t : TA} {qs : List (Int × Int)} (m : MkPairs t qs) : ∀ (σ : L2.St) (H : Hp) (R : List V → Hp → Prop), (∀ H' vs, Same H H' → All2 (PrAt H') vs qs → R vs H') → t σ H R := by
  induction m with
  | nil => exact fun σ H R k => k H [] (Same.refl H) All2.nil
  | pp a b m ih =>
    intro σ H R k
    refine ⟨(by show 2 ≤ sizeLine; decide), fun p np => ?_⟩
    refine ih σ _ _ fun H' vs s al => ?_
    have s1 := (same_upd np (o := HO.tup [.int a, .int b]))
    exact k H' _ (s1.trans s) (All2.cons ⟨p, rfl, s _ _ upd_same⟩ al)
  | np a b m ih =>
    intro σ H R k
    refine ⟨_, rfl, (by show 2 ≤ sizeLine; decide), fun p np => ?_⟩
    refine ih σ _ _ fun H' vs s al => ?_
    have s1 := (same_upd np (o := HO.tup [.int (-a), .int b]))
    exact k H' _ (s1.trans s) (All2.cons ⟨p, rfl, s _ _ upd_same⟩ al)
theorem seq_pairs {t : TA} {qs : List (Int × Int)} {i : Nat} {rest : L2.TS} {D : Ends} {σ : L2.St} {H : Hp} (m : MkPairs t qs) (hz : qs.length ≤ 1000) (k : ∀ (H' : Hp) (vs : List V) (M : Addr), Same H H' → All2 (PrAt H') vs qs → H M = none → H' M = some (.lst vs) → rest D (σ.set i (some (.ref M))) H') : L2.tSeq (tAsg (tLst t) (gName i)) rest D σ H := by
  refine MkPairs.run m σ H _ fun H1 vs s1 al => ⟨?_, fun M nM => ?_⟩
  · exact Nat.le_trans (show vs.length ≤ 1000 by have := al.1; omega) (by decide)
  · have s2 := s1.trans (same_upd nM (o := HO.lst vs))
    refine k _ vs M s2 (al.mono fun _ _ h => h.same (same_upd nM)) ?_ upd_same
    cases e : H M with
    | none => rfl
    | some o => rw [s1 _ _ e] at nM; cases nM
theorem PrAt.pair {H : Hp} {x : V} {q : Int × Int} (h : PrAt H x q) {r : Rat} (e1 : r.num = q.1) (e2 : (r.den : Int) = q.2) : PairV H x r := by
  obtain ⟨p, e, hp⟩ := h
  exact ⟨p, e, by rw [e1, e2]; exact hp⟩
theorem PrAt.rate {H : Hp} {x : V} {q : Int × Int} (h : PrAt H x q) {r : Nat × Nat} (e1 : (r.1 : Int) = q.1) (e2 : (r.2 : Int) = q.2) : RateAt H x r := by
  obtain ⟨p, e, hp⟩ := h
  exact ⟨p, e, by rw [e1, e2]; exact hp⟩
theorem SprAt.ls {a : Addr} {H : Hp} (s : SprAt a H) : Ls [a] H := by
  obtain ⟨d, e, c, h, _⟩ := s
  exact Ls.nil.cons h
theorem Ls.old {a : Addr} {N : List Addr} {H H' : Hp} (l : Ls N H) (o : Old a H H') (s : SprAt a H') : Ls N H' := fun x hx => by
  by_cases e : x = a
  · subst e
    obtain ⟨d, e, c, h, _⟩ := s
    exact ⟨_, h⟩
  · obtain ⟨xs, h⟩ := l x hx
    exact ⟨xs, o _ _ h e⟩
theorem Framed.lstM {β : Type} {N M : List Addr} {Rel : Hp → V → β → Prop} (f : Framed N Rel) (h : ∀ x ∈ N, x ∈ M) : Framed N (LstOf M Rel) := fun H H' v b l s ⟨p, xs, e, n, hp, a⟩ =>
  ⟨p, xs, e, n, s _ _ (fun z => n (h p z)) hp, a.mono fun _ _ o => f _ _ _ _ l s o⟩
theorem nmc {x a : Addr} {N : List Addr} (h : x ≠ a) (g : x ∉ N) : x ∉ a :: N := fun z => by
  rcases List.mem_cons.mp z with q | q
  · exact h q
  · exact g q
theorem SprAt.upd {a D : Addr} {H : Hp} {o : HO} (s : SprAt a H) (n : a ≠ D) : SprAt a (upd H D o) := by
  obtain ⟨d, e, c, h, q⟩ := s
  exact ⟨d, e, c, by rw [upd_ne n]; exact h, q⟩
/-- the law's gains -/
def gains : List (Int × Int) := [(0, 1), (1, 1), (-1, 1), (1, 2), (0, 1), (2, 1), (-2, 3)]
theorem gains_ok : ∀ q ∈ gains, (mkRat q.1 q.2.toNat).num = q.1 ∧ ((mkRat q.1 q.2.toNat).den : Int) = q.2 ∧ Bnd 6 18 (mkRat q.1 q.2.toNat) := by
  intro q hq
  unfold gains at hq
  simp only [List.mem_cons, List.not_mem_nil, or_false] at hq
  rcases hq with rfl | rfl | rfl | rfl | rfl | rfl | rfl
  · exact ⟨by decide +kernel, by decide +kernel, 0, by decide +kernel, by decide⟩
  · exact ⟨by decide +kernel, by decide +kernel, 6, by decide +kernel, by decide⟩
  · exact ⟨by decide +kernel, by decide +kernel, -6, by decide +kernel, by decide⟩
  · exact ⟨by decide +kernel, by decide +kernel, 3, by decide +kernel, by decide⟩
  · exact ⟨by decide +kernel, by decide +kernel, 0, by decide +kernel, by decide⟩
  · exact ⟨by decide +kernel, by decide +kernel, 12, by decide +kernel, by decide⟩
  · exact ⟨by decide +kernel, by decide +kernel, -4, by decide +kernel, by decide⟩
/-- one of a menu of pairs -/
theorem menu_pair {H : Hp} {vs : List V} {qs : List (Int × Int)} {B : Nat} (al : All2 (PrAt H) vs qs) (ok : ∀ q ∈ qs, (mkRat q.1 q.2.toNat).num = q.1 ∧ ((mkRat q.1 q.2.toNat).den : Int) = q.2 ∧ Bnd 6 B (mkRat q.1 q.2.toNat)) {i : Nat} {x : V} (h : vs[i]? = some x) : ∃ r : Rat, Bnd 6 B r ∧ PairV H x r := by
  obtain ⟨q, hq, pr⟩ := al.at h
  obtain ⟨h1, h2, h3⟩ := ok q (List.mem_of_getElem? hq)
  exact ⟨_, h3, pr.pair h1 h2⟩
section
variable {P : Program} {w : World} {K : Fr} {mg : Str → Option Value} {base : Heap}
/-- a row of the law's pairs; a table -/
abbrev PRow (N : List Addr) : Hp → V → List Rat → Prop := LstOf N PairV
abbrev PTab (N : List Addr) : Hp → V → Table → Prop := LstOf N (PRow N)
def spTable : Sp := fun vs H Q _ => ∃ (a : Addr) (r c : Nat) (N : List Addr), vs = [.ref a, .int (r : Int), .int (c : Int)] ∧ SprAt a H ∧ Ls N H ∧ a ∈ N ∧ r ≤ 1000 ∧ c ≤ 1000 ∧ ∀ H' v (t : Table), Old a H H' → SprAt a H' → PTab N H' v t → t.length = r → (∀ x ∈ t, x.length = c ∧ ∀ q ∈ x, Bnd 6 18 q) → Q v H'
abbrev N_l_table : List Str := ["_law_spring_here", "_law_rows", "_law_columns", "_law_menu", "_law_column", "_law_row"]
theorem c_table (T : Tx K mg) : Cal P w K mg base 3 "_law_table" (gAd "_law_table" K) ["_law_spring_here", "_law_rows", "_law_columns"] spTable := by
  have C_l_one := c_one (P := P) (w := w) (base := base) T
  refine cal_of (d := d_l_table) (N := N_l_table) (a_l_table T.c) rfl sc_l_table (g_l_table T) (fun _ _ _ _ _ _ us hl => match us, hl with | [_, _, _], _ => rfl) (fun vs H Q E h => ?_) (fun cdv A outer s H vs Q E hr h => ?_)
  · obtain ⟨a, r, c, N, rfl, _⟩ := h
    rfl
  · obtain ⟨a, r, c, N, rfl, hs, lN, aN, hr1, hc1, k⟩ := h
    refine ⟨_, (pss_cons (ps_set (i := 3) sc_l_table.nd rfl (.inr rfl) (pe_lst (pa_cons (pe_tup (pa_cons pe_int (pa_cons pe_int pa_nil))) (pa_cons (pe_tup (pa_cons pe_int (pa_cons pe_int pa_nil))) (pa_cons (pe_tup (pa_cons (pe_un un_neg pe_int) (pa_cons pe_int pa_nil))) (pa_cons (pe_tup (pa_cons pe_int (pa_cons pe_int pa_nil))) (pa_cons (pe_tup (pa_cons pe_int (pa_cons pe_int pa_nil))) (pa_cons (pe_tup (pa_cons pe_int (pa_cons pe_int pa_nil))) (pa_cons (pe_tup (pa_cons (pe_un un_neg pe_int) (pa_cons pe_int pa_nil))) pa_nil)))))))))
 (pss_one (ps_ret (pe_lc (own := [("_law_row", 5)]) (g := gName 5) (tt := tYes) rfl sc_l_table.nd (pi_range1 (by rfl) (n_range T) (pa_cons (pv 1) pa_nil)) (blkOk_by (N := N_l_table) (sc := defScope s_l_table) (by decide +kernel)) (fun _ _ _ _ _ => pg_name (i := 5) sc_l_table.nd rfl (.inl rfl)) (fun _ _ _ _ _ => pts_nil) (fun _ _ _ _ _ => (pe_lc (own := [("_law_column", 4)]) (g := gName 4) (tt := tYes) rfl sc_l_table.nd (pi_range1 (by rfl) (n_range T) (pa_cons (pv 2) pa_nil)) (blkOk_by (N := N_l_table) (by rfl)) (fun _ _ _ _ _ => pg_name (i := 4) sc_l_table.nd rfl (.inl rfl)) (fun _ _ _ _ _ => pts_nil) (fun _ _ _ _ _ => (pe_c C_l_one (hr.mono (by decide)) (pa_cons (pv 0) (pa_cons (pv 3) pa_nil)))))))))), ?_⟩
    refine seq_pairs (qs := gains) (.pp _ _ (.pp _ _ (.np _ _ (.pp _ _ (.pp _ _ (.pp _ _ (.np _ _ .nil))))))) (by decide) fun G vs M s2 al2 nM0 hM => ?_
    have aM : a ≠ M := hs.ne nM0
    have hs2 := hs.same s2
    have lv : vs.length = 7 := al2.1
    have lN2 := lN.same s2
    have sub : ∀ D : Addr, ∀ x ∈ [D, a], x ∈ D :: N := fun D x hx => by
      rcases List.mem_cons.mp hx with q | q
      · rw [q]; exact List.mem_cons_self
      · rw [List.mem_singleton.mp q]; exact List.mem_cons_of_mem _ aN
    refine ⟨_, rfl, _, rfl, by omega, by omega, fun D nD => ?_⟩
    have Da := hs2.ne nD
    refine lc_fr walk_range [a] (LstOf (D :: N) PairV) (fun i b => b.length = c ∧ ∀ q ∈ b, Bnd 6 18 q) (SprAt a) nD (by omega) (Framed.lstM framed_pair (sub D)) hs2.ls hs2 (fun H o nd h => h.upd Da) (fun _ _ => trivial) ?_ ?_ gName_mono
    · rintro i x G1 G2 hi f1 l1 iv hD ⟨rfl, rfl⟩ R qq
      obtain ⟨ul, hD⟩ := hD
      refine ⟨rfl, ?_⟩
      refine ⟨_, rfl, _, rfl, by omega, by omega, fun D2 nD2 => ?_⟩
      have Da2 := iv.ne nD2
      refine lc_fr walk_range [a] PairV (fun i b => Bnd 6 18 b) (SprAt a) nD2 (by omega) framed_pair l1 iv (fun H o nd h => h.upd Da2) (fun _ _ => trivial) ?_ ?_ gName_mono
      · rintro j y G3 G4 hj f3 l3 iv3 hD3 ⟨rfl, rfl⟩ R3 q3
        have f13 := f1.trans f3
        have hM3 := f13 M _ (by simp; exact fun z => aM z.symm) hM
        refine ⟨rfl, ?_⟩
        refine ⟨_, rfl, _, rfl, a, M, vs, rfl, iv3, hM3, aM, by omega, by omega, fun k' x' H' hx o s => ?_⟩
        obtain ⟨q, bq, pq⟩ := menu_pair al2 gains_ok hx
        exact q3 H' x' q (Fm.old o) s.ls s bq (framed_pair _ _ _ _ hs2.ls (f13.trans (Fm.old o)) pq)
      · rintro G3 us bs f3 l3 iv3 hbl hbp a3 hD3
        refine qq G3 _ bs f3 l3 iv3 ⟨by omega, fun q hq => ?_⟩ ⟨D2, us, rfl, nmc (ne_lst hD nD2) (Ls.out (Ls.old lN2 (Fm.to_old f1) iv) nD2), hD3, a3⟩
        obtain ⟨j, hj⟩ := List.mem_iff_getElem?.mp hq
        exact hbp j q hj
    · rintro G1 us bs f1 l1 iv hbl hbp a1 hD1
      refine k G1 _ bs ((Old.same s2).trans (Fm.to_old f1)) iv ⟨D, us, rfl, lN2.out nD, hD1, a1.mono fun _ _ h => h.less (fun _ z => List.mem_cons_of_mem _ z)⟩ (by omega) (fun x hx => ?_)
      obtain ⟨j, hj⟩ := List.mem_iff_getElem?.mp hx
      exact hbp j x hj
end
end K54

namespace K54
open PySem PySem.Spec PyProof.Rows L2 Hk NumM NumT SX Hz
theorem framed_rate {N : List Addr} : Framed N RateAt := fun H H' v b l s ⟨p, e, hp⟩ => ⟨p, e, s _ _ (l.no hp fun _ q => nomatch q) hp⟩
/-- the law's rates -/
def rmenu : List (Int × Int) := [(1, 1), (1, 1), (1, 2), (2, 1), (1, 3), (3, 2)]
structure RLaw (r : Nat × Nat) : Prop where
  ok : ROk r
  t3 : r.1 ∣ 6
  b3 : r.2 ∣ 6
theorem rmenu_ok : ∀ q ∈ rmenu, (q.1.toNat : Int) = q.1 ∧ (q.2.toNat : Int) = q.2 ∧ RLaw (q.1.toNat, q.2.toNat) := by
  intro q hq
  unfold rmenu at hq
  simp only [List.mem_cons, List.not_mem_nil, or_false] at hq
  rcases hq with rfl | rfl | rfl | rfl | rfl | rfl <;> exact ⟨by decide, by decide, ⟨by decide, by decide, by decide, by decide, by decide⟩, by decide, by decide⟩
theorem menu_rate {H : Hp} {vs : List V} (al : All2 (PrAt H) vs rmenu) {i : Nat} {x : V} (h : vs[i]? = some x) : ∃ r, RLaw r ∧ RateAt H x r := by
  obtain ⟨q, hq, pr⟩ := al.at h
  obtain ⟨h1, h2, h3⟩ := rmenu_ok q (List.mem_of_getElem? hq)
  exact ⟨_, h3, pr.rate h1 h2⟩
/-- a machine of the law -/
structure ModOk (m : Mac) : Prop where
  wf : Wf m
  i2 : m.ins.length ≤ 2
  per : m.per ≤ 6
  s2 : ∀ t, t < m.steps.length → m.size t ≤ 2
  l2 : m.steps.length ≤ 72
/-- the law's own list of it -/
def ModAt (N : List Addr) (H : Hp) (v : V) (m : Mac) : Prop := ∃ p R W S Z, v = .ref p ∧ p ∉ N ∧ H p = some (.lst [R, W, S, Z]) ∧ LstOf N RateAt H R m.ins ∧ LstOf N RateAt H W m.outs ∧ LstOf N (LstOf N (PTab N)) H S m.steps ∧ LstOf N IntV H Z (sizesL m)
theorem ModAt.fm {N : List Addr} {H H' : Hp} {v : V} {m : Mac} (h : ModAt N H v m) (l : Ls N H) (s : Fm N H H') : ModAt N H' v m := by
  obtain ⟨p, R, W, S, Z, e, n, hp, h1, h2, h3, h4⟩ := h
  exact ⟨p, R, W, S, Z, e, n, s _ _ n hp, framed_rate.lst _ _ _ _ l s h1, framed_rate.lst _ _ _ _ l s h2, framed_pair.lst.lst.lst.lst _ _ _ _ l s h3, framed_int.lst _ _ _ _ l s h4⟩
/-! the shape of a law's machine -/
/-- the tables of the step at t are of these sizes -/
structure Shape (I O : Rts) (per : Nat) (zs : List Nat) (t : Nat) (s : List Table) : Prop where
  four : s.length = 4
  g : ∀ u ∈ s, ∀ r ∈ u, ∀ q ∈ r, Bnd 6 18 q
  h0 : (s.getD 0 []).length = zs.getD ((t + 1) % zs.length) 0
  h1 : (s.getD 1 []).length = zs.getD ((t + 1) % zs.length) 0
  h2 : (s.getD 2 []).length = (dueL O per t).length
  h3 : (s.getD 3 []).length = (dueL O per t).length
  r0 : ∀ r ∈ s.getD 0 [] ++ s.getD 2 [], r.length = zs.getD t 0
  r1 : ∀ r ∈ s.getD 1 [] ++ s.getD 3 [], r.length = (dueL I per t).length
theorem lcm_law {rs : Rts} (h : ∀ r ∈ rs, RLaw r) : lcmL (rs.map (·.1)) ∣ 6 ∧ lcmL (rs.map (·.2)) ∣ 6 := ⟨lcmL_dvd fun x hx => by
  obtain ⟨r, hr, rfl⟩ := List.mem_map.mp hx
  exact (h r hr).t3, lcmL_dvd fun x hx => by
  obtain ⟨r, hr, rfl⟩ := List.mem_map.mp hx
  exact (h r hr).b3⟩
theorem modOk {I O : Rts} {steps : List (List Table)} {zs : List Nat} {turn : Nat} (hi : ∀ r ∈ I, RLaw r) (ho : ∀ r ∈ O, RLaw r) (i1 : 1 ≤ I.length) (i2 : I.length ≤ 2) (o1 : 1 ≤ O.length) (o2 : O.length ≤ 2)
    (ht : lcmL ((I ++ O).map (·.2)) ∣ turn) (t1 : 1 ≤ turn) (t2 : turn ≤ 12) (hl : steps.length = turn * lcmL ((I ++ O).map (·.1))) (hz : zs.length = steps.length) (z2 : ∀ z ∈ zs, z ≤ 2)
    (sh : ∀ t s, steps[t]? = some s → Shape I O (lcmL ((I ++ O).map (·.1))) zs t s) : ModOk ⟨I, O, steps⟩ ∧ zs = sizesL ⟨I, O, steps⟩ := by
  have ha : ∀ r ∈ I ++ O, RLaw r := fun r h => by
    rcases List.mem_append.mp h with h | h
    · exact hi r h
    · exact ho r h
  have d6 := (lcm_law ha).1
  have p6 : lcmL ((I ++ O).map (·.1)) ≤ 6 := Nat.le_of_dvd (by decide) d6
  have tops : ∀ x ∈ (I ++ O).map (·.1), 1 ≤ x ∧ x ≤ 12 := fun x hx => by
    obtain ⟨r, hr, rfl⟩ := List.mem_map.mp hx
    exact ⟨(ha r hr).ok.t1, (ha r hr).ok.t2⟩
  have p1 := lcmL_pos tops
  have L1 : 1 ≤ steps.length := by rw [hl]; exact Nat.mul_pos t1 p1
  have L72 : steps.length ≤ 72 := by rw [hl]; exact Nat.mul_le_mul t2 p6
  have st : ∀ t, ∃ s, steps[t % steps.length]? = some s := fun t => ⟨_, List.getElem?_eq_getElem (Nat.mod_lt _ L1)⟩
  have tab : ∀ t s j, steps[t % steps.length]? = some s → (Mac.tab ⟨I, O, steps⟩ t j) = s.getD j [] := fun t s j h => by
    unfold Mac.tab
    dsimp only
    rw [List.getD_eq_getElem?_getD (l := steps), h, Option.getD_some]
  have zz : ∀ t, t < steps.length → Mac.size ⟨I, O, steps⟩ t = zs.getD t 0 := fun t ht => by
    obtain ⟨s, hs⟩ := st (t + steps.length - 1)
    have h0 := (sh _ s hs).h0
    unfold Mac.size
    dsimp only
    rw [List.getD_eq_getElem?_getD (l := steps), hs, Option.getD_some, h0, hz]
    congr 1
    rw [Nat.mod_add_mod, show t + steps.length - 1 + 1 = t + steps.length by omega, Nat.add_mod_right, Nat.mod_eq_of_lt ht]
  have zle : ∀ t, zs.getD t 0 ≤ 2 := fun t => by
    rw [List.getD_eq_getElem?_getD]
    cases e : zs[t]? with
    | none => exact Nat.zero_le _
    | some z => exact z2 z (List.mem_of_getElem? e)
  have lt : ∀ t, t < steps.length → t % steps.length = t := fun t h => Nat.mod_eq_of_lt h
  have wf : Wf ⟨I, O, steps⟩ := {
    i1 := i1, i2 := by dsimp only; omega, o1 := o1, o2 := by dsimp only; omega
    ok := fun r h => (ha r h).ok
    l1 := L1
    l2 := by dsimp only; omega
    dv := by
      show lcmL ((I ++ O).map (·.1)) * lcmL ((I ++ O).map (·.2)) ∣ steps.length
      rw [hl, Nat.mul_comm]
      exact Nat.mul_dvd_mul_right ht _
    four := fun s hs => by
      obtain ⟨t, h⟩ := List.mem_iff_getElem?.mp hs
      exact (sh t s h).four
    hs := fun t ht => by
      rw [zz t ht]
      have := zle t
      omega
    h0 := fun t ht => by
      exact (Mac.size_succ ⟨I, O, steps⟩ L1 t).symm
    h1 := fun t ht => by
      obtain ⟨s, hs⟩ := st t
      rw [tab t s _ hs, tab t s _ hs]
      exact ((sh _ s hs).h1).trans ((sh _ s hs).h0).symm
    h2 := fun t ht => by
      obtain ⟨s, hs⟩ := st t
      rw [tab t s _ hs, (sh _ s hs).h2, lt t ht]
      rfl
    h3 := fun t ht => by
      obtain ⟨s, hs⟩ := st t
      rw [tab t s _ hs, (sh _ s hs).h3, lt t ht]
      rfl
    r0 := fun t ht r hr => by
      obtain ⟨s, hs⟩ := st t
      rw [tab t s _ hs, tab t s _ hs] at hr
      rw [(sh _ s hs).r0 r hr, lt t ht, zz t ht]
    r1 := fun t ht r hr => by
      obtain ⟨s, hs⟩ := st t
      rw [tab t s _ hs, tab t s _ hs] at hr
      rw [(sh _ s hs).r1 r hr, lt t ht]
      rfl
    g := fun s hs => by
      obtain ⟨t, h⟩ := List.mem_iff_getElem?.mp hs
      exact (sh t s h).g }
  refine ⟨⟨wf, i2, p6, fun t ht => by rw [zz t ht]; exact zle t, L72⟩, ?_⟩
  refine list_of (n := steps.length) hz fun i b hb => ?_
  have hi : i < steps.length := by rw [← hz]; exact (List.getElem?_eq_some_iff.mp hb).1
  rw [zz i hi, List.getD_eq_getElem?_getD, hb, Option.getD_some]
/-- the least number of time units -/
theorem turn_iff {rs : Rts} (h : ∀ r ∈ rs, ROk r) (t : Nat) : (∀ r ∈ rs, t * r.1 % r.2 = 0) ↔ lcmL (rs.map (·.2)) ∣ t := by
  constructor
  · intro g
    refine lcmL_dvd fun x hx => ?_
    obtain ⟨r, hr, rfl⟩ := List.mem_map.mp hx
    have c : Nat.Coprime r.2 r.1 := by
      have := (h r hr).cop
      unfold Nat.Coprime
      rw [Nat.gcd_comm]
      exact this
    exact c.dvd_of_dvd_mul_right (Nat.dvd_of_mod_eq_zero (g r hr))
  · intro g r hr
    exact Nat.mod_eq_zero_of_dvd (Nat.dvd_trans (Nat.dvd_trans (dvd_lcmL (List.mem_map.mpr ⟨r, hr, rfl⟩)) g) (Nat.dvd_mul_right _ _))
end K54

namespace K54
open PySem PySem.Spec PyProof.Rows L2 Hk NumM NumT SX Hz
def allTurn (rs : Rts) (t : Nat) : List Bool := rs.map fun r => decide (t * r.1 % r.2 = 0)
theorem allTurn_iff {rs : Rts} (h : ∀ r ∈ rs, ROk r) (t : Nat) : (allTurn rs t).all id = true ↔ lcmL (rs.map (·.2)) ∣ t := by
  rw [← turn_iff h]
  unfold allTurn
  rw [List.all_map, List.all_eq_true]
  constructor
  · intro g r hr
    exact of_decide_eq_true (g r hr)
  · intro g r hr
    exact decide_eq_true (g r hr)
theorem turn_if {σ : L2.St} {H : Hp} {Q : VK} {a : Addr} {m PT : Nat} (s : SprAt a H) (h0 : σ[0]? = some (some (.ref a))) (h3 : σ[3]? = some (some (.int (m : Int)))) (h5 : σ[5]? = some (some (.int (PT : Int)))) (hm : m ≤ 400000) (hp : PT ≤ 400000)
    (k : ∀ (c : Nat) (H' : Hp), c = 1 ∨ c = 2 → Old a H H' → SprAt a H' → Q (.int (c : Int)) H') :
    tIf (tAnd (tTest (tOp rEq (tCall spNextO [] E0 (tCons (tVar 0) (tCons (tC (.int 4)) tNil))) (tC (.int 0)))) (tTest (tOp (rI0 fun i j => V.bl (decide (i < j))) (tOp (rI CMulW fun i j => V.int (i * j)) (tVar 3) (tVar 5)) (tC (.int 7))))) (tC (.int 2)) (tC (.int 1)) σ H Q := by
  refine ⟨_, h0, a, 4, rfl, s, by decide, by decide, fun v H' v0 v1 o s' => ?_⟩
  refine ⟨rfl, _, rfl, ?_⟩
  refine ite2 (fun _ => ?_) (fun _ => ?_)
  · refine ⟨_, h3, _, h5, _, _, rfl, rfl, cmul hm hp, _, _, rfl, rfl, _, rfl, ?_⟩
    exact ite2 (fun _ => k 2 H' (.inr rfl) o s') (fun _ => k 1 H' (.inl rfl) o s')
  · exact k 1 H' (.inl rfl) o s'
section
variable {P : Program} {w : World} {K : Fr} {mg : Str → Option Value} {base : Heap}
def spMach : Sp := fun vs H Q _ => ∃ (a : Addr), vs = [.ref a] ∧ SprAt a H ∧ ∀ H' v (m : Mac), Old a H H' → SprAt a H' → ModAt [a] H' v m → ModOk m → Q v H'
abbrev N_l_machine : List Str := ["_law_spring_here", "_law_menu", "_law_reads", "_law_turn", "_law_writes", "_law_ticks_here", "_law_top", "_law_bottom", "_law_sizes", "_law_tick", "_law_steps_here", "_law_before", "_law_after", "_law_read", "_law_written", "_law_shapes", "_law_rows", "_law_columns"]
theorem c_machine (T : Tx K mg) : Cal P w K mg base 4 "_law_machine" (gAd "_law_machine" K) ["_law_spring_here"] spMach := by
  have C_l_one := c_one (P := P) (w := w) (base := base) T
  have C_l_next := c_nextO (P := P) (w := w) (base := base) T
  have C_l_ticks := c_ticks (P := P) (w := w) (base := base) T
  have C_l_many := c_many (P := P) (w := w) (base := base) T
  have C_l_table := c_table (P := P) (w := w) (base := base) T
  refine cal_of (d := d_l_machine) (N := N_l_machine) (a_l_machine T.c) rfl sc_l_machine (g_l_machine T) (fun _ _ _ _ _ _ us hl => match us, hl with | [_], _ => rfl) (fun vs H Q E h => ?_) (fun cdv A outer s H vs Q E hr h => ?_)
  · obtain ⟨a, rfl, _⟩ := h
    rfl
  · obtain ⟨a, rfl, hs, k⟩ := h
    refine ⟨_, (pss_cons (ps_set (i := 1) sc_l_machine.nd rfl (.inr rfl) (pe_lst (pa_cons (pe_tup (pa_cons pe_int (pa_cons pe_int pa_nil))) (pa_cons (pe_tup (pa_cons pe_int (pa_cons pe_int pa_nil))) (pa_cons (pe_tup (pa_cons pe_int (pa_cons pe_int pa_nil))) (pa_cons (pe_tup (pa_cons pe_int (pa_cons pe_int pa_nil))) (pa_cons (pe_tup (pa_cons pe_int (pa_cons pe_int pa_nil))) (pa_cons (pe_tup (pa_cons pe_int (pa_cons pe_int pa_nil))) pa_nil))))))))
 (pss_cons (ps_setLc (i := 2) (own := [("_law_turn", 3)]) (g := gName 3) (tt := tYes) rfl sc_l_machine.nd rfl rfl (sw_true rfl rfl rfl (by decide +kernel)) (pi_range1 (by rfl) (n_range T) (pa_cons (pe_op op_add pe_int (pe_c C_l_next (hr.mono (by decide)) (pa_cons (pv 0) (pa_cons pe_int pa_nil)))) pa_nil)) (blkOk_by (N := N_l_machine) (sc := defScope s_l_machine) (by decide +kernel)) (fun _ _ _ _ _ => pg_name (i := 3) sc_l_machine.nd rfl (.inl rfl)) (fun _ _ _ _ _ => pts_nil) (fun _ _ _ _ _ => (pe_c C_l_one (hr.mono (by decide)) (pa_cons (pv 0) (pa_cons (pv 1) pa_nil)))))
 (pss_cons (ps_setLc (i := 4) (own := [("_law_turn", 3)]) (g := gName 3) (tt := tYes) rfl sc_l_machine.nd rfl rfl (sw_true rfl rfl rfl (by decide +kernel)) (pi_range1 (by rfl) (n_range T) (pa_cons (pe_op op_add pe_int (pe_c C_l_next (hr.mono (by decide)) (pa_cons (pv 0) (pa_cons pe_int pa_nil)))) pa_nil)) (blkOk_by (N := N_l_machine) (sc := defScope s_l_machine) (by decide +kernel)) (fun _ _ _ _ _ => pg_name (i := 3) sc_l_machine.nd rfl (.inl rfl)) (fun _ _ _ _ _ => pts_nil) (fun _ _ _ _ _ => (pe_c C_l_one (hr.mono (by decide)) (pa_cons (pv 0) (pa_cons (pv 1) pa_nil)))))
 (pss_cons (ps_asg (pe_tup (pa_cons (pe_c C_l_ticks (hr.mono (by decide)) (pa_cons (pe_op op_cat (pv 2) (pv 4)) pa_nil)) (pa_cons pe_int pa_nil))) (pg_tup (by rfl) (pgs_cons (pg_name (i := 5) sc_l_machine.nd rfl (.inl rfl)) (pgs_cons (pg_name (i := 3) sc_l_machine.nd rfl (.inr rfl)) pgs_nil))))
 (pss_cons (ps_while PassesOwn.never (pt_not (pt_val (pe_callB (cr_all rfl) (by rfl) (n_all T) bo_all (pa_cons (pe_lc (own := [("_law_top", 6), ("_law_bottom", 7)]) (g := gTup K 2 (gCons (gName 6) (gCons (gName 7) gNil))) (tt := tYes) rfl sc_l_machine.nd (pi_list (pe_op op_cat (pv 2) (pv 4))) (blkOk_by (N := N_l_machine) (sc := defScope s_l_machine) (by decide +kernel)) (fun _ _ _ _ _ => pg_tup (by rfl) (pgs_cons (pg_name (i := 6) sc_l_machine.nd rfl (.inl rfl)) (pgs_cons (pg_name (i := 7) sc_l_machine.nd rfl (.inl rfl)) pgs_nil))) (fun _ _ _ _ _ => pts_nil) (fun _ _ _ _ _ => (pe_cmpR op_eq (pe_op op_modN (pe_op op_mulW (pv 3) (pv 6)) (pv 7)) pe_int (nomark _)))) pa_nil))))
 (pss_one (ps_set (i := 3) sc_l_machine.nd rfl (.inr rfl) (pe_op op_add (pv 3) pe_int))))
 (pss_cons (ps_set (i := 3) sc_l_machine.nd rfl (.inr rfl) (pe_op op_mulW (pv 3) (pe_ifExp (PW.pt (pw_and (pt_cmpR op_eq (pe_c C_l_next (hr.mono (by decide)) (pa_cons (pv 0) (pa_cons pe_int pa_nil))) pe_int (nomark _)) (pw_and1 (pt_cmpR op_lt (pe_op op_mulW (pv 3) (pv 5)) pe_int (nomark _))))) pe_int pe_int)))
 (pss_cons (ps_setLc (i := 8) (own := [("_law_tick", 9)]) (g := gName 9) (tt := tYes) rfl sc_l_machine.nd rfl rfl (sw_true rfl rfl rfl (by decide +kernel)) (pi_range1 (by rfl) (n_range T) (pa_cons (pe_op op_mulW (pv 3) (pv 5)) pa_nil)) (blkOk_by (N := N_l_machine) (sc := defScope s_l_machine) (by decide +kernel)) (fun _ _ _ _ _ => pg_name (i := 9) sc_l_machine.nd rfl (.inl rfl)) (fun _ _ _ _ _ => pts_nil) (fun _ _ _ _ _ => (pe_c C_l_next (hr.mono (by decide)) (pa_cons (pv 0) (pa_cons pe_int pa_nil)))))
 (pss_cons (ps_set (i := 10) sc_l_machine.nd rfl (.inl rfl) (pe_lst pa_nil))
 (pss_cons (ps_for PassesOwn.never rfl (pi_range1 (by rfl) (n_range T) (pa_cons (pe_op op_mulW (pv 3) (pv 5)) pa_nil)) (pg_name (i := 9) sc_l_machine.nd rfl (.inl rfl))
 (pss_cons (ps_par (i := 11) (j := 12) (by rfl) sc_l_machine.nd rfl rfl (by decide) rfl rfl (pa_cons (pe_ix ix_list (pv 8) (pv 9) (fun _ _ => rfl)) (pa_cons (pe_ix ix_list (pv 8) (pe_op op_modN (pe_callTy call_int1 (by rfl) (n_int T) bo_int (pa_cons (pe_op op_add (pv 9) pe_int) pa_nil)) (pe_callB call_len_seq (by rfl) (n_len T) bo_len (pa_cons (pv 8) pa_nil))) (fun _ _ => rfl)) pa_nil)) (by rfl))
 (pss_cons (ps_par (i := 13) (j := 14) (by rfl) sc_l_machine.nd rfl rfl (by decide) rfl rfl (pa_cons (pe_c C_l_many (hr.mono (by decide)) (pa_cons (pv 2) (pa_cons (pv 9) (pa_cons (pv 5) pa_nil)))) (pa_cons (pe_c C_l_many (hr.mono (by decide)) (pa_cons (pv 4) (pa_cons (pv 9) (pa_cons (pv 5) pa_nil)))) pa_nil)) (by rfl))
 (pss_cons (ps_set (i := 15) sc_l_machine.nd rfl (.inl rfl) (pe_lst (pa_cons (pe_tup (pa_cons (pv 12) (pa_cons (pv 11) pa_nil))) (pa_cons (pe_tup (pa_cons (pv 12) (pa_cons (pv 13) pa_nil))) (pa_cons (pe_tup (pa_cons (pv 14) (pa_cons (pv 11) pa_nil))) (pa_cons (pe_tup (pa_cons (pv 14) (pa_cons (pv 13) pa_nil))) pa_nil))))))
 (pss_one (ps_expr (pe_bm PySem.F.plainAttrs_list PySem.F.slot_list_append PySem.F.type_list_append mt_append (pv 10) (pa_cons (pe_lc (own := [("_law_rows", 16), ("_law_columns", 17)]) (g := gTup K 2 (gCons (gName 16) (gCons (gName 17) gNil))) (tt := tYes) rfl sc_l_machine.nd (pi_list (pv 15)) (blkOk_by (N := N_l_machine) (sc := defScope s_l_machine) (by decide +kernel)) (fun _ _ _ _ _ => pg_tup (by rfl) (pgs_cons (pg_name (i := 16) sc_l_machine.nd rfl (.inl rfl)) (pgs_cons (pg_name (i := 17) sc_l_machine.nd rfl (.inl rfl)) pgs_nil))) (fun _ _ _ _ _ => pts_nil) (fun _ _ _ _ _ => (pe_c C_l_table hr (pa_cons (pv 0) (pa_cons (pv 16) (pa_cons (pv 17) pa_nil)))))) pa_nil))))))))
 (pss_one (ps_ret (pe_lst (pa_cons (pv 2) (pa_cons (pv 4) (pa_cons (pv 10) (pa_cons (pv 8) pa_nil)))))))))))))))), ?_⟩
    refine seq_pairs (qs := rmenu) (.pp _ _ (.pp _ _ (.pp _ _ (.pp _ _ (.pp _ _ (.pp _ _ .nil)))))) (by decide) fun G vs M s0 al0 nM0 hM => ?_
    have aM : M ≠ a := fun z => hs.ne nM0 z.symm
    have hs0 := hs.same s0
    have lv : vs.length = 6 := al0.1
    -- reads
    refine ⟨_, rfl, a, 2, rfl, hs0, by decide, by decide, fun v1 G1 v10 v11 o1 hs1 => ?_⟩
    refine ⟨_, _, rfl, rfl, _, rfl, by omega, by omega, fun R nR => ?_⟩
    have hM1 := o1 _ _ hM aM
    have Ra := hs1.ne nR
    refine lc_fr walk_range [a] RateAt (fun i b => RLaw b) (SprAt a) nR (by omega) framed_rate hs1.ls hs1 (fun H o nd h => h.upd Ra) (fun _ _ => trivial) ?_ ?_ gName_mono
    · rintro j y G3 G4 hj f3 l3 iv3 hD3 ⟨rfl, rfl⟩ R3 q3
      have hM3 := f3 M _ (nm1 aM) hM1
      refine ⟨rfl, ?_⟩
      refine ⟨_, rfl, _, rfl, a, M, vs, rfl, iv3, hM3, Ne.symm aM, by omega, by omega, fun k' x' H' hx o s => ?_⟩
      obtain ⟨q, bq, pq⟩ := menu_rate al0 hx
      exact q3 H' x' q (Fm.old o) s.ls s bq (framed_rate _ _ _ _ hs0.ls (((Fm.old o1).trans f3).trans (Fm.old o)) pq)
    rintro G2 ur I f2 l2 hs2 hIl hIp aR hR
    have hIall : ∀ r ∈ I, RLaw r := fun r hr => by
      obtain ⟨j, hj⟩ := List.mem_iff_getElem?.mp hr
      exact hIp j r hj
    have nRa : R ∉ [a] := nm1 (fun z => Ra z.symm)
    have hM2 := f2 M _ (nm1 aM) hM1
    -- writes
    refine ⟨_, rfl, a, 2, rfl, hs2, by decide, by decide, fun v2 G3 v20 v21 o3 hs3 => ?_⟩
    refine ⟨_, _, rfl, rfl, _, rfl, by omega, by omega, fun Wr nW => ?_⟩
    have hM3 := o3 _ _ hM2 aM
    have Wa := hs3.ne nW
    refine lc_fr walk_range [a] RateAt (fun i b => RLaw b) (SprAt a) nW (by omega) framed_rate hs3.ls hs3 (fun H o nd h => h.upd Wa) (fun _ _ => trivial) ?_ ?_ gName_mono
    · rintro j y G4 G5 hj f4 l4 iv4 hD4 ⟨rfl, rfl⟩ R3 q3
      have hM4 := f4 M _ (nm1 aM) hM3
      refine ⟨rfl, ?_⟩
      refine ⟨_, rfl, _, rfl, a, M, vs, rfl, iv4, hM4, Ne.symm aM, by omega, by omega, fun k' x' H' hx o s => ?_⟩
      obtain ⟨q, bq, pq⟩ := menu_rate al0 hx
      exact q3 H' x' q (Fm.old o) s.ls s bq (framed_rate _ _ _ _ hs0.ls (((((Fm.old o1).trans f2).trans (Fm.old o3)).trans f4).trans (Fm.old o)) pq)
    rintro G4 uw O f4 l4 hs4 hOl hOp aW hW
    have hOall : ∀ r ∈ O, RLaw r := fun r hr => by
      obtain ⟨j, hj⟩ := List.mem_iff_getElem?.mp hr
      exact hOp j r hj
    have nWa : Wr ∉ [a] := nm1 (fun z => Wa z.symm)
    have f24 : Fm [a] G2 G4 := (Fm.old o3).trans f4
    have hR4 := f24 _ _ nRa hR
    have aR4 : All2 (RateAt G4) ur I := aR.mono fun _ _ h => framed_rate _ _ _ _ l2 f24 h
    have fall : Fm [a] G G4 := (((Fm.old o1).trans f2).trans (Fm.old o3)).trans f4
    have olds : Old a H G4 := (Old.same s0).trans (Fm.to_old fall)
    have hal : ∀ r ∈ I ++ O, RLaw r := fun r h => by
      rcases List.mem_append.mp h with h | h
      · exact hIall r h
      · exact hOall r h
    have lu := aR4.1
    have lw := aW.1
    have hI1 : 1 ≤ I.length ∧ I.length ≤ 2 := by omega
    have hO1 : 1 ≤ O.length ∧ O.length ≤ 2 := by omega
    have lal : (I ++ O).length ≤ 12 := by rw [List.length_append]; omega
    have tops : ∀ x ∈ (I ++ O).map (·.1), 1 ≤ x ∧ x ≤ 12 := fun x hx => by
      obtain ⟨r, hr, rfl⟩ := List.mem_map.mp hx
      exact ⟨(hal r hr).ok.t1, (hal r hr).ok.t2⟩
    have bots : ∀ x ∈ (I ++ O).map (·.2), 1 ≤ x ∧ x ≤ 12 := fun x hx => by
      obtain ⟨r, hr, rfl⟩ := List.mem_map.mp hx
      exact ⟨(hal r hr).ok.b1, (hal r hr).ok.b2⟩
    have d6 := lcm_law hal
    have p1 := lcmL_pos tops
    have p6 : lcmL ((I ++ O).map (·.1)) ≤ 6 := Nat.le_of_dvd (by decide) d6.1
    have b1 := lcmL_pos bots
    have b6 : lcmL ((I ++ O).map (·.2)) ≤ 6 := Nat.le_of_dvd (by decide) d6.2
    obtain ⟨PT, eP⟩ : ∃ PT, PT = lcmL ((I ++ O).map (·.1)) := ⟨_, rfl⟩
    obtain ⟨B, eB⟩ : ∃ B, B = lcmL ((I ++ O).map (·.2)) := ⟨_, rfl⟩
    rw [← eP] at p1 p6
    rw [← eB] at b1 b6
    have szc : ur.length + uw.length ≤ sizeLine := Nat.le_trans (show _ ≤ 4 by omega) (by decide)
    -- ticks, 1
    refine ⟨_, rfl, _, rfl, R, Wr, ur, uw, rfl, rfl, hR4, hW, szc, fun p np => ?_⟩
    have sp := same_upd np (o := HO.lst (ur ++ uw))
    have rt : ∀ H', Same G4 H' → RtT H' (ur ++ uw) (I ++ O) := fun H' s => (aR4.app aW).mono fun _ _ h => framed_rate (N := []) _ _ _ _ Ls.nil (Fm.same s) h
    refine ⟨p, ur ++ uw, I ++ O, rfl, .inl (.inl upd_same), rt _ sp, fun r hr => (hal r hr).ok, lal, fun G5 s5 => ?_⟩
    rw [← eP]
    refine ⟨(by show 2 ≤ sizeLine; decide), fun q nq => ?_⟩
    have s45 := (sp.trans s5).trans (same_upd nq (o := HO.tup [.int (PT : Int), .int 1]))
    refine ⟨q, _, rfl, .inl (.inl upd_same), rfl, _, _, rfl, _, _, rfl, rfl, ?_⟩
    generalize upd G5 q (HO.tup [.int (PT : Int), .int 1]) = G6 at s45
    have hok : ∀ r ∈ I ++ O, ROk r := fun r hr => (hal r hr).ok
    refine ⟨fun z σ H' => Same G6 H' ∧ ∃ m : Nat, 1 ≤ m ∧ m ≤ B ∧ z = B - m ∧ ∃ x6 x7 : Option V, σ = [some (.ref a), some (.ref M), some (.ref R), some (.int (m : Int)), some (.ref Wr), some (.int (PT : Int)), x6, x7, none, none, none, none, none, none, none, none, none, none], ⟨_, Same.refl G6, 1, Nat.le_refl 1, b1, rfl, none, none, rfl⟩, ?_⟩
    rintro z σ G7 ⟨s7, m, m1, m2, rfl, x6, x7, rfl⟩
    have s47 := s45.trans s7
    refine ⟨_, rfl, _, rfl, R, Wr, ur, uw, rfl, rfl, s47 _ _ hR4, s47 _ _ hW, szc, fun p7 np7 => ?_⟩
    have sp7 := same_upd np7 (o := HO.lst (ur ++ uw))
    have hp7 : (upd G7 p7 (HO.lst (ur ++ uw))) p7 = some (.lst (ur ++ uw)) := upd_same
    generalize upd G7 p7 (HO.lst (ur ++ uw)) = G8 at sp7 hp7
    have s48 := s47.trans sp7
    have ral := rt _ s48
    refine ⟨p7, rfl, ⟨_, .inl (.inl hp7)⟩, fun D nD => ?_⟩
    refine lc_list (a := p7) (xs := ur ++ uw) (fun i H' => Same G8 H' ∧ H' D = some (.lst ((allTurn ((I ++ O).take i) m).map V.bl))) ⟨same_upd nD, upd_same⟩ (fun i H' _ h => .inl (.inl (h.1 _ _ hp7))) ?_ ?_
    · rintro i x H2 hi ⟨s2, hD⟩
      obtain ⟨r, hr', pr, rfl, hpr⟩ := ral.at hi
      have o := hok r (List.mem_of_getElem? hr')
      have o1 := o.t1; have o2 := o.t2; have o3 := o.b1; have o4 := o.b2
      refine ⟨pr, _, rfl, .inl (.inl (s2 _ _ hpr)), rfl, _, _, rfl, _, _, rfl, rfl, ?_⟩
      refine ⟨rfl, ?_⟩
      unfold tYes
      dsimp only
      rw [if_pos rfl]
      refine ⟨_, rfl, _, rfl, _, _, rfl, rfl, cmul (by omega) (by omega), _, rfl, _, _, rfl, rfl, by omega, rfl, _, hD, ?_, same_upd' s2 nD, ?_⟩
      · rw [List.length_map]
        unfold allTurn
        rw [List.length_map, List.length_take]
        exact Nat.lt_of_lt_of_le (show min i (I ++ O).length < 13 by omega) (by decide)
      · rw [upd_same]
        unfold allTurn
        rw [List.take_add_one, hr', List.map_append, List.map_append]
        have ev : decide (V.int (((m : Int) * (r.1 : Int)).fmod (r.2 : Int)) = V.int 0) = decide (m * r.1 % r.2 = 0) := by
          rw [← Int.natCast_mul, Int.fmod_eq_emod_of_nonneg _ (by omega), ← Int.natCast_emod]
          exact decide_eq_decide.mpr ⟨fun h => by have := V.int.inj h; omega, fun h => by rw [h]; rfl⟩
        show some (HO.lst (_ ++ [V.bl (decide (V.int (((m : Int) * (r.1 : Int)).fmod (r.2 : Int)) = V.int 0))])) = _
        rw [ev]
        rfl
    rintro G9 ⟨s9, hD⟩
    rw [show (ur ++ uw).length = (I ++ O).length from ral.1, List.take_length] at hD
    refine ⟨D, _, rfl, .inl (.inl hD), _, rfl, ?_⟩
    have s49 := s48.trans s9
    cases hv : (allTurn (I ++ O) m).all id with
    | false =>
      have hne : m ≠ B := fun e => by
        have := (allTurn_iff hok m).mpr (by rw [← eB, e]; exact Nat.dvd_refl _)
        rw [hv] at this
        cases this
      refine iteT ⟨fun σ' H' => Same G6 H' ∧ ∃ x6 x7 : Option V, σ' = [some (.ref a), some (.ref M), some (.ref R), some (.int ((m + 1 : Nat) : Int)), some (.ref Wr), some (.int (PT : Int)), x6, x7, none, none, none, none, none, none, none, none, none, none], fun σ' H' h => ?_, ?_⟩
      · obtain ⟨h1, x6, x7, rfl⟩ := h
        exact ⟨B - (m + 1), by omega, h1, m + 1, by omega, by omega, rfl, x6, x7, rfl⟩
      · exact ⟨_, rfl, _, _, rfl, rfl, (s7.trans sp7).trans s9, x6, x7, rfl⟩
    | true =>
      have hd := (allTurn_iff hok m).mp hv
      rw [← eB] at hd
      have := Nat.le_of_dvd (by omega) hd
      have e : m = B := by omega
      subst e
      refine iteF ?_
      have s49' := s49
      have hs9 := hs4.same s49
      refine ⟨_, rfl, turn_if hs9 rfl rfl rfl (by omega) (by omega) fun c H10 hc o10 hs10 => ?_⟩
      have hB : lcmL ((I ++ O).map (·.2)) ∣ m * c := by
        rw [← eB]
        exact Nat.dvd_mul_right _ _
      have t1 : 1 ≤ m * c := Nat.mul_pos m1 (by omega)
      have t2 : m * c ≤ 12 := by
        have := Nat.mul_le_mul b6 (show c ≤ 2 by omega)
        omega
      refine ⟨_, _, rfl, rfl, cmul (by omega) (by omega), ?_⟩
      obtain ⟨tn, htn⟩ : ∃ tn, tn = m * c := ⟨_, rfl⟩
      rw [← htn] at hB t1 t2
      rw [show (fun i j => V.int (i * j)) (m : Int) (c : Int) = V.int (tn : Int) from by rw [htn]; rfl]
      have f410 : Fm [a] G4 H10 := (Fm.same s49).trans (Fm.old o10)
      have hn72 : tn * PT ≤ 12 * 6 := Nat.mul_le_mul t2 p6
      -- sizes
      refine ⟨_, rfl, _, rfl, _, _, rfl, rfl, cmul (by omega) (by omega), _, rfl, by rw [← Int.natCast_mul]; omega, by rw [← Int.natCast_mul]; omega, fun Z nZ => ?_⟩
      have en : ((tn : Int) * (PT : Int)).toNat = tn * PT := by rw [← Int.natCast_mul]; rfl
      have Za := hs10.ne nZ
      refine lc_fr walk_range [a] IntV (fun i b => b ≤ 2) (SprAt a) nZ (by omega) framed_int hs10.ls hs10 (fun H o nd h => h.upd Za) (fun _ _ => trivial) ?_ ?_ gName_mono
      · rintro j y G11 G12 hj f11 l11 iv11 hD11 ⟨rfl, rfl⟩ R3 q3
        refine ⟨rfl, ?_⟩
        refine ⟨_, rfl, a, 3, rfl, iv11, by decide, by decide, fun v H' v0 v1 o s => ?_⟩
        refine q3 H' _ v.toNat (Fm.old o) s.ls s (by omega) ?_
        show V.int v = V.int ((v.toNat : Nat) : Int)
        rw [Int.toNat_of_nonneg v0]
      rintro G11 uz zs f11 l11 hs11 hzl hzp aZ hZ
      rw [en] at hzl
      have z2 : ∀ z ∈ zs, z ≤ 2 := fun z hz => by
        obtain ⟨j, hj⟩ := List.mem_iff_getElem?.mp hz
        exact hzp j z hj
      have nZa : Z ∉ [a] := nm1 (fun z => Za z.symm)
      have f411 := f410.trans f11
      have hR11 := f411 _ _ nRa hR4
      have hW11 := f411 _ _ nWa hW
      have aR11 : All2 (RateAt G11) ur I := aR4.mono fun _ _ h => framed_rate _ _ _ _ hs4.ls f411 h
      have aW11 : All2 (RateAt G11) uw O := aW.mono fun _ _ h => framed_rate _ _ _ _ hs4.ls f411 h
      have o411 : Old a G4 G11 := Fm.to_old f411
      -- steps_here = []
      refine ⟨(by show 0 ≤ sizeLine; decide), fun SL nSL => ?_⟩
      have sS := same_upd nSL (o := HO.lst [])
      have hSL : (upd G11 SL (.lst [])) SL = some (.lst []) := upd_same
      have SLa : SL ≠ a := fun z => hs11.ne nSL z.symm
      have RSL : R ≠ SL := fun z => by rw [← z, hR11] at nSL; cases nSL
      have WSL : Wr ≠ SL := fun z => by rw [← z, hW11] at nSL; cases nSL
      have ZSL : Z ≠ SL := fun z => by rw [← z, hZ] at nSL; cases nSL
      have hs12 := hs11.same sS
      have hR12 := sS _ _ hR11
      have hW12 := sS _ _ hW11
      have hZ12 := sS _ _ hZ
      have aR12 : All2 (RateAt (upd G11 SL (.lst []))) ur I := aR11.mono fun _ _ h => framed_rate (N := []) _ _ _ _ Ls.nil (Fm.same sS) h
      have aW12 : All2 (RateAt (upd G11 SL (.lst []))) uw O := aW11.mono fun _ _ h => framed_rate (N := []) _ _ _ _ Ls.nil (Fm.same sS) h
      have o412 := o411.trans (Old.same sS)
      generalize upd G11 SL (.lst []) = G12 at sS hSL hs12 hR12 hW12 hZ12 aR12 aW12 o412
      have ls12 : Ls [SL, a] G12 := hs12.ls.cons hSL
      refine ⟨_, rfl, _, rfl, _, _, rfl, rfl, cmul (by omega) (by omega), _, rfl, by rw [← Int.natCast_mul]; omega, by rw [← Int.natCast_mul]; omega, ?_⟩
      refine for_range (fun i σ H' => Fm [SL, a] G12 H' ∧ SprAt a H' ∧ (∃ (us : List V) (sts : List (List Table)), H' SL = some (.lst us) ∧ sts.length = i ∧ (∀ t s, sts[t]? = some s → Shape I O PT zs t s) ∧ All2 (LstOf [SL, a] (PTab [SL, a]) H') us sts) ∧ ∃ (x9 x11 x12 x13 x14 x15 x16 x17 : Option V), σ = [some (.ref a), some (.ref M), some (.ref R), some (.int (tn : Int)), some (.ref Wr), some (.int (PT : Int)), x6, x7, some (.ref Z), x9, some (.ref SL), x11, x12, x13, x14, x15, x16, x17]) ⟨Fm.refl _ _, hs12, ⟨[], [], hSL, rfl, fun t s h => by simp at h, All2.nil⟩, none, none, none, none, none, none, none, none, rfl⟩ ?_ ?_
      · rintro i σ G13 hi ⟨f13, hs13, ⟨us, sts, hSL13, hsl, hsh, ast⟩, x9, x11, x12, x13, x14, x15, x16, x17, rfl⟩
        rw [en] at hi
        have e0 : (0 : Int) + (i : Int) = ((i : Nat) : Int) := by omega
        rw [e0]
        have nR2 : R ∉ [SL, a] := nm2 RSL (fun z => Ra z.symm)
        have nW2 : Wr ∉ [SL, a] := nm2 WSL (fun z => Wa z.symm)
        have nZ2 : Z ∉ [SL, a] := nm2 ZSL (fun z => Za z.symm)
        have hR13 := f13 _ _ nR2 hR12
        have hW13 := f13 _ _ nW2 hW12
        have hZ13 := f13 _ _ nZ2 hZ12
        have lz := aZ.1
        have gz : ∀ t, t < tn * PT → ∃ z, zs[t]? = some z ∧ uz[t]? = some (V.int (z : Nat)) := fun t ht => by
          have e : zs[t]? = some (zs[t]'(by omega)) := List.getElem?_eq_getElem _
          obtain ⟨x, hx, ex⟩ := aZ.at2 e
          exact ⟨_, e, by rw [hx]; exact congrArg some ex⟩
        obtain ⟨bf, hbf, hbf'⟩ := gz i hi
        have hn0 : 0 < tn * PT := by omega
        obtain ⟨af, haf, haf'⟩ := gz ((i + 1) % (tn * PT)) (Nat.mod_lt _ hn0)
        refine ⟨_, rfl, _, rfl, Z, _, _, _, rfl, rfl, .inl (.inl hZ13), atI_nat hbf', _, rfl, _, rfl, _, _, rfl, rfl, .inl ⟨_, rfl, _, rfl, Z, _, rfl, .inl (.inl (.inl hZ13)), _, _, rfl, rfl, (by show ((uz.length : Nat) : Int) ≠ 0; omega), Z, _, _, V.int (af : Nat), rfl, rfl, .inl (.inl hZ13), ?_, _, _, rfl, ?_⟩⟩
        · show atI uz (((i : Int) + 1).fmod ((uz.length : Nat) : Int)) = _
          rw [lz, hzl, show ((i : Int) + 1) = ((i + 1 : Nat) : Int) by omega, Int.fmod_eq_emod_of_nonneg _ (by omega), ← Int.natCast_emod]
          exact atI_nat haf'
        have ls13 : Ls [SL, a] G13 := hs13.ls.cons hSL13
        have aR13 : All2 (RateAt G13) ur I := aR12.mono fun _ _ h => framed_rate _ _ _ _ ls12 f13 h
        have aW13 : All2 (RateAt G13) uw O := aW12.mono fun _ _ h => framed_rate _ _ _ _ ls12 f13 h
        refine ⟨_, rfl, _, rfl, _, rfl, R, ur, I, PT, i, rfl, .inl (.inl hR13), aR13, fun r hr => (hIall r hr).ok, by omega, p1, by omega, by omega, fun G14 t14 => ?_⟩
        refine ⟨_, rfl, _, rfl, _, rfl, Wr, uw, O, PT, i, rfl, .inl (.inl (t14 _ _ hW13)), aW13.mono fun _ _ h => framed_rate (N := []) _ _ _ _ Ls.nil (Fm.same t14) h, fun r hr => (hOall r hr).ok, by omega, p1, by omega, by omega, fun G15 t15 => ?_⟩
        refine ⟨_, _, rfl, ?_⟩
        have t35 := t14.trans t15
        obtain ⟨rd, erd⟩ : ∃ rd, rd = (dueL I PT i).length := ⟨_, rfl⟩
        obtain ⟨wr, ewr⟩ : ∃ wr, wr = (dueL O PT i).length := ⟨_, rfl⟩
        rw [← erd, ← ewr]
        have rd2 : rd ≤ I.length := by rw [erd]; exact dueN_le I PT i I.length
        have wr2 : wr ≤ O.length := by rw [ewr]; exact dueN_le O PT i O.length
        have bf2 := z2 bf (List.mem_of_getElem? hbf)
        have af2 := z2 af (List.mem_of_getElem? haf)
        refine ⟨_, rfl, _, rfl, (by show 2 ≤ sizeLine; decide), fun q1 n1 => ?_⟩
        have u1 := same_upd n1 (o := HO.tup [.int (af : Int), .int (bf : Int)])
        have w1 : RateAt (upd G15 q1 (.tup [.int (af : Int), .int (bf : Int)])) (.ref q1) (af, bf) := ⟨q1, rfl, upd_same⟩
        refine ⟨_, rfl, _, rfl, (by show 2 ≤ sizeLine; decide), fun q2 n2 => ?_⟩
        generalize upd G15 q1 (.tup [.int (af : Int), .int (bf : Int)]) = J1 at u1 w1 n2
        have u2 := same_upd n2 (o := HO.tup [.int (af : Int), .int (rd : Int)])
        have w2 : RateAt (upd J1 q2 (.tup [.int (af : Int), .int (rd : Int)])) (.ref q2) (af, rd) := ⟨q2, rfl, upd_same⟩
        refine ⟨_, rfl, _, rfl, (by show 2 ≤ sizeLine; decide), fun q3 n3 => ?_⟩
        generalize upd J1 q2 (.tup [.int (af : Int), .int (rd : Int)]) = J2 at u2 w2 n3
        have u3 := same_upd n3 (o := HO.tup [.int (wr : Int), .int (bf : Int)])
        have w3 : RateAt (upd J2 q3 (.tup [.int (wr : Int), .int (bf : Int)])) (.ref q3) (wr, bf) := ⟨q3, rfl, upd_same⟩
        refine ⟨_, rfl, _, rfl, (by show 2 ≤ sizeLine; decide), fun q4 n4 => ?_⟩
        generalize upd J2 q3 (.tup [.int (wr : Int), .int (bf : Int)]) = J3 at u3 w3 n4
        have u4 := same_upd n4 (o := HO.tup [.int (wr : Int), .int (rd : Int)])
        have w4 : RateAt (upd J3 q4 (.tup [.int (wr : Int), .int (rd : Int)])) (.ref q4) (wr, rd) := ⟨q4, rfl, upd_same⟩
        refine ⟨(by show 4 ≤ sizeLine; decide), fun SH nSH => ?_⟩
        generalize upd J3 q4 (.tup [.int (wr : Int), .int (rd : Int)]) = J4 at u4 w4 nSH
        have u5 := same_upd nSH (o := HO.lst [.ref q1, .ref q2, .ref q3, .ref q4])
        have hSH : (upd J4 SH (.lst [.ref q1, .ref q2, .ref q3, .ref q4])) SH = some (.lst [.ref q1, .ref q2, .ref q3, .ref q4]) := upd_same
        have rs : ∀ {A B : Hp} {x : V} {r : Nat × Nat}, Same A B → RateAt A x r → RateAt B x r := fun s h => framed_rate (N := []) _ _ _ _ Ls.nil (Fm.same s) h
        have aSH : All2 (RateAt (upd J4 SH (.lst [.ref q1, .ref q2, .ref q3, .ref q4]))) [.ref q1, .ref q2, .ref q3, .ref q4] [(af, bf), (af, rd), (wr, bf), (wr, rd)] :=
          All2.cons (rs (((u2.trans u3).trans u4).trans u5) w1) (All2.cons (rs ((u3.trans u4).trans u5) w2) (All2.cons (rs (u4.trans u5) w3) (All2.cons (rs u5 w4) All2.nil)))
        have t315 : Same G13 _ := ((((t35.trans u1).trans u2).trans u3).trans u4).trans u5
        generalize upd J4 SH (.lst [.ref q1, .ref q2, .ref q3, .ref q4]) = G16 at t315 hSH aSH
        have hs16 := hs13.same t315
        have hSL16 := t315 _ _ hSL13
        have SHa : SH ≠ a := fun z => by
          have : SprAt a J4 := hs13.same ((((t35.trans u1).trans u2).trans u3).trans u4)
          exact this.ne nSH z.symm
        have SHSL : SH ≠ SL := fun z => by
          have : J4 SL = some (.lst us) := ((((t35.trans u1).trans u2).trans u3).trans u4) _ _ hSL13
          rw [← z, nSH] at this
          cases this
        have ls16 : Ls [SL, a] G16 := hs16.ls.cons hSL16
        refine ⟨_, rfl, .inl ⟨rfl, _, .inl (.inl hSL16)⟩, ?_⟩
        refine ⟨_, rfl, SH, rfl, ⟨_, .inl (.inl hSH)⟩, fun D nD => ?_⟩
        have Da := hs16.ne nD
        have DSL : D ≠ SL := fun z => by rw [z, hSL16] at nD; cases nD
        refine lc_fr walk_list [a] (PTab [D, SL, a]) (fun i b => ∀ rc, ([(af, bf), (af, rd), (wr, bf), (wr, rd)] : List (Nat × Nat))[i]? = some rc → b.length = rc.1 ∧ ∀ x ∈ b, x.length = rc.2 ∧ ∀ q ∈ x, Bnd 6 18 q) (SprAt a) nD (by show 4 ≤ 100000; decide) (Framed.lstM (Framed.lstM framed_pair (by simp +contextual)) (by simp +contextual)) hs16.ls hs16 (fun H o nd h => h.upd Da) (fun H' f => .inl (.inl (f SH _ (nm1 SHa) hSH))) ?_ ?_ gT2_mono
        · rintro j x G17 G18 hj f17 l17 iv17 ⟨ul, hD17⟩ ⟨rfl, hx⟩ R3 q3
          obtain ⟨rc, hrc, pr, rfl, hpr⟩ := aSH.at hx
          have hpr17 := f17 _ _ (hs16.ls.no hpr fun _ q => nomatch q) hpr
          have hSL17 := f17 SL _ (nm1 SLa) hSL16
          have rcle : rc.1 ≤ 1000 ∧ rc.2 ≤ 1000 := by
            have := List.mem_of_getElem? hrc
            simp only [List.mem_cons, List.not_mem_nil, or_false] at this
            rcases this with rfl | rfl | rfl | rfl <;> exact ⟨by dsimp only; omega, by dsimp only; omega⟩
          refine ⟨pr, _, rfl, .inl (.inl hpr17), rfl, _, _, rfl, _, _, rfl, rfl, rfl, ?_⟩
          refine ⟨_, rfl, _, rfl, _, rfl, a, rc.1, rc.2, [D, SL, a], rfl, iv17, (iv17.ls.cons hSL17).cons hD17, by simp, rcle.1, rcle.2, fun H' v tb o s pt tl th => ?_⟩
          exact q3 H' v tb (Fm.old o) s.ls s (fun rc' hrc' => by rw [hrc] at hrc'; cases hrc'; exact ⟨tl, th⟩) pt
        · rintro G17 ut bs f17 l17 hs17 hbl hbp at17 hD17
          have hSL17 := f17 SL _ (nm1 SLa) hSL16
          have hbl4 : bs.length = 4 := hbl
          refine ⟨SL, us, .ref D, rfl, rfl, hSL17, ?_, ?_⟩
          · have := ast.1
            exact Nat.lt_of_le_of_lt (show us.length ≤ 1000 by omega) (by decide)
          have f1317 : Fm [SL, a] G13 G17 := (Fm.same t315).trans (f17.mono (by simp +contextual))
          have fput : Fm [SL, a] G17 (upd G17 SL (.lst (us ++ [.ref D]))) := (Fm.refl _ _).put (by simp)
          have ls17 : Ls [SL, a] G17 := hs17.ls.cons hSL17
          have fT : Framed [SL, a] (LstOf [SL, a] (PTab [SL, a])) := framed_pair.lst.lst.lst
          refine ⟨(f13.trans f1317).trans fput, hs17.upd (Ne.symm SLa), ⟨us ++ [.ref D], sts ++ [bs], upd_same, by rw [List.length_append, hsl]; rfl, ?_, ?_⟩, _, _, _, _, _, _, _, _, rfl⟩
          · intro t s ht
            by_cases c1 : t < sts.length
            · rw [List.getElem?_append_left c1] at ht
              exact hsh t s ht
            · rw [List.getElem?_append_right (by omega)] at ht
              have e1 : t = i := by
                have := (List.getElem?_eq_some_iff.mp ht).1
                simp at this
                omega
              subst e1
              rw [hsl, Nat.sub_self] at ht
              have e2 : bs = s := Option.some.inj ht
              subst e2
              have g0 : bs[0]? = some (bs.getD 0 []) := by rw [List.getD_eq_getElem?_getD, List.getElem?_eq_getElem (by omega)]; rfl
              have g1 : bs[1]? = some (bs.getD 1 []) := by rw [List.getD_eq_getElem?_getD, List.getElem?_eq_getElem (by omega)]; rfl
              have g2 : bs[2]? = some (bs.getD 2 []) := by rw [List.getD_eq_getElem?_getD, List.getElem?_eq_getElem (by omega)]; rfl
              have g3 : bs[3]? = some (bs.getD 3 []) := by rw [List.getD_eq_getElem?_getD, List.getElem?_eq_getElem (by omega)]; rfl
              have k0 := hbp 0 _ g0 _ rfl
              have k1 := hbp 1 _ g1 _ rfl
              have k2 := hbp 2 _ g2 _ rfl
              have k3 := hbp 3 _ g3 _ rfl
              have ea : zs.getD ((t + 1) % zs.length) 0 = af := by rw [hzl, List.getD_eq_getElem?_getD, haf]; rfl
              have eb : zs.getD t 0 = bf := by rw [List.getD_eq_getElem?_getD, hbf]; rfl
              refine ⟨hbl4, ?_, by rw [ea]; exact k0.1, by rw [ea]; exact k1.1, by rw [← ewr]; exact k2.1, by rw [← ewr]; exact k3.1, ?_, ?_⟩
              · intro u hu r hr q hq
                obtain ⟨j, hj⟩ := List.mem_iff_getElem?.mp hu
                have lj := (List.getElem?_eq_some_iff.mp hj).1
                have hj4 : j < 4 := by omega
                obtain ⟨rc, hrc⟩ : ∃ rc, ([(af, bf), (af, rd), (wr, bf), (wr, rd)] : List (Nat × Nat))[j]? = some rc := ⟨_, List.getElem?_eq_getElem (by simp; omega)⟩
                exact ((hbp j u hj rc hrc).2 r hr).2 q hq
              · intro r hr
                rw [eb]
                rcases List.mem_append.mp hr with h | h
                · exact (k0.2 r h).1
                · exact (k2.2 r h).1
              · intro r hr
                rw [← erd]
                rcases List.mem_append.mp hr with h | h
                · exact (k1.2 r h).1
                · exact (k3.2 r h).1
          · refine All2.app ?_ (All2.cons ?_ All2.nil)
            · exact ast.mono fun x b h => fT _ _ _ _ ls17 fput (fT _ _ _ _ ls13 f1317 h)
            · refine fT _ _ _ _ ls17 fput ⟨D, ut, rfl, nm2 DSL (fun z => Da z.symm), hD17, at17.mono fun x b h => ?_⟩
              exact (h.imp fun _ _ g => g.less (by simp +contextual)).less (by simp +contextual)
      · rintro σ G13 ⟨f13, hs13, ⟨us, sts, hSL13, hsl, hsh, ast⟩, x9, x11, x12, x13, x14, x15, x16, x17, rfl⟩
        rw [en] at hsl
        refine ⟨_, rfl, _, rfl, _, rfl, _, rfl, (by show 4 ≤ sizeLine; decide), fun pm npm => ?_⟩
        have sm := same_upd npm (o := HO.lst [.ref R, .ref Wr, .ref SL, .ref Z])
        have nR2 : R ∉ [SL, a] := nm2 RSL (fun z => Ra z.symm)
        have nW2 : Wr ∉ [SL, a] := nm2 WSL (fun z => Wa z.symm)
        have nZ2 : Z ∉ [SL, a] := nm2 ZSL (fun z => Za z.symm)
        have aR13 : All2 (RateAt G13) ur I := aR12.mono fun _ _ h => framed_rate _ _ _ _ ls12 f13 h
        have aW13 : All2 (RateAt G13) uw O := aW12.mono fun _ _ h => framed_rate _ _ _ _ ls12 f13 h
        have hs14 := hs13.same sm
        obtain ⟨mo, ez⟩ := modOk hIall hOall hI1.1 hI1.2 hO1.1 hO1.2 hB t1 t2 (by rw [hsl, ← eP]) (by omega) z2 (by rw [← eP]; exact hsh)
        have rs : ∀ {x : V} {r : Nat × Nat}, RateAt G13 x r → RateAt _ x r := fun h => framed_rate (N := []) _ _ _ _ Ls.nil (Fm.same sm) h
        have oall : Old a H G13 := fun x o h n => f13 x o (nm2 (fun e => by
          have := (olds.trans o411) x o h n
          rw [e, nSL] at this
          cases this) n) ((olds.trans o412) x o h n)
        refine k _ _ ⟨I, O, sts⟩ (oall.trans (Old.same sm)) hs14 ⟨pm, .ref R, .ref Wr, .ref SL, .ref Z, rfl, nm1 (fun z => hs13.ne npm z.symm), upd_same, ⟨R, ur, rfl, nRa, sm _ _ (f13 _ _ nR2 hR12), aR13.mono fun _ _ h => rs h⟩, ⟨Wr, uw, rfl, nWa, sm _ _ (f13 _ _ nW2 hW12), aW13.mono fun _ _ h => rs h⟩, ⟨SL, us, rfl, nm1 SLa, sm _ _ hSL13, ?_⟩, ⟨Z, uz, rfl, nZa, sm _ _ (f13 _ _ nZ2 hZ12), by rw [← ez]; exact aZ⟩⟩ mo
        exact ast.mono fun x b h => (((framed_pair (N := [SL, a])).lst.lst.lst _ _ _ _ (hs13.ls.cons hSL13) (Fm.same sm) h).imp fun _ _ g => (g.imp fun _ _ g => g.less (by simp +contextual)).less (by simp +contextual)).less (by simp +contextual)
end
end K54

namespace K54
open PySem PySem.Spec PyProof.Rows L2 Hk NumM NumT SX Hz
theorem framed_opd {K : Fr} {N : List Addr} : Framed N (OpdQ K) := fun H H' v b l s h => by
  rcases h with ⟨q, rfl, n⟩ | h
  · obtain ⟨p, e, n'⟩ := framed_num (K := K) (N := N) H H' _ b l s ⟨q, rfl, n⟩
    cases e
    exact .inl ⟨q, rfl, n'⟩
  · exact .inr h
theorem rowAt_iff {K : Fr} : RowAt K = TupOf (OpdQ K) := rfl
theorem framed_row {K : Fr} {N : List Addr} : Framed N (RowAt K) := (framed_opd (K := K) (N := N)).tup
theorem framed_tab {K : Fr} {N : List Addr} : Framed N (TabAt K) := (framed_row (K := K) (N := N)).tup
theorem framed_step {K : Fr} {N : List Addr} : Framed N (StepAt K) := (framed_tab (K := K) (N := N)).tup
def tTru (K : Fr) (ta : TE) : TT := fun σ H Q => ta σ H fun x H' => ∃ k, TruV K x H' k ∧ Q k H'
def BlV (H : Hp) (x : V) (b : Bool) : Prop := x = .bl b
theorem framed_bl {N : List Addr} : Framed N BlV := fun _ _ _ _ _ _ h => h
theorem Old.fm {a : Addr} {N : List Addr} {H H' : Hp} (o : Old a H H') (h : a ∈ N) : Fm N H H' := fun x u n e => o x u e (fun z => n (z ▸ h))
theorem list_eq {α : Type} {bs cs : List α} (h : bs.length = cs.length) (g : ∀ (i : Nat) (b : α), bs[i]? = some b → cs[i]? = some b) : bs = cs := by
  refine List.ext_getElem? fun j => ?_
  by_cases cj : j < bs.length
  · rw [List.getElem?_eq_getElem cj, g j _ (List.getElem?_eq_getElem cj)]
  · rw [List.getElem?_eq_none (by omega), List.getElem?_eq_none (by omega)]
section
variable {P : Program} {w : World} {K : Fr} {mg : Str → Option Value} {base : Heap}
abbrev rTupOf (K : Fr) : List V → Hp → VK → Prop := fun xs H Q => ∃ p ys, xs = [.ref p] ∧ ((SqL K H p ys ∧ ∀ l, H l = none → Q (.ref l) (upd H l (.tup ys))) ∨ (SqT K H p ys ∧ Q (.ref p) H))
def spPassed (K : Fr) : Sp := fun vs H Q _ => ∃ (a : Addr) (x : V) (t : Table), vs = [.ref a, x] ∧ SprAt a H ∧ PTab [a] H x t ∧ t.length ≤ 1000 ∧ (∀ r ∈ t, r.length ≤ 1000 ∧ ∀ q ∈ r, SmQ q) ∧ ∀ H' v, Old a H H' → SprAt a H' → TabAt K H' v t → Q v H'
abbrev N_l_passed : List Str := ["_law_spring_here", "_law_table_here", "_law_found", "_law_row", "_law_pairs", "_law_top", "_law_bottom", "_law_whole", "_law_each", "_law_is_whole"]
theorem c_passed (T : Tx K mg) : Cal P w K mg base 4 "_law_passed" (gAd "_law_passed" K) ["_law_spring_here", "_law_table_here"] (spPassed K) := by
  have C_l_next := c_nextO (P := P) (w := w) (base := base) T
  obtain ⟨f0, D0, F0⟩ := f_init (P := P) (w := w) (base := base) T
  obtain ⟨f1, D1, F1⟩ := f_top (P := P) (w := w) (base := base) T
  obtain ⟨f2, D2, F2⟩ := f_bottom (P := P) (w := w) (base := base) T
  have b1 : Binds K f1 ["self"] [] := FunD.bindsN D1 fun _ _ _ _ _ _ us hl => match us, hl with | [_], _ => rfl
  have b2 : Binds K f2 ["self"] [] := FunD.bindsN D2 fun _ _ _ _ _ _ us hl => match us, hl with | [_], _ => rfl
  refine cal_of (d := d_l_passed) (N := N_l_passed) (a_l_passed T.c) rfl sc_l_passed (g_l_passed T) (fun _ _ _ _ _ _ us hl => match us, hl with | [_, _], _ => rfl) (fun vs H Q E h => ?_) (fun cdv A outer s H vs Q E hr h => ?_)
  · obtain ⟨a, x, t, rfl, _⟩ := h
    rfl
  · obtain ⟨a, x, t, rfl, hs, hx, t1, tr, k⟩ := h
    refine ⟨_, (pss_cons (ps_set (i := 2) sc_l_passed.nd rfl (.inl rfl) (pe_lst pa_nil))
 (pss_cons (ps_for PassesOwn.never rfl (pi_list (pv 1)) (pg_name (i := 3) sc_l_passed.nd rfl (.inl rfl))
 (pss_cons (ps_setLc (i := 4) (own := [("_law_top", 5), ("_law_bottom", 6)]) (g := gTup K 2 (gCons (gName 5) (gCons (gName 6) gNil))) (tt := tYes) rfl sc_l_passed.nd rfl rfl (sw_true rfl rfl rfl (by decide +kernel)) (pi_list (pv 3)) (blkOk_by (N := N_l_passed) (sc := defScope s_l_passed) (by decide +kernel)) (fun _ _ _ _ _ => pg_tup (by rfl) (pgs_cons (pg_name (i := 5) sc_l_passed.nd rfl (.inl rfl)) (pgs_cons (pg_name (i := 6) sc_l_passed.nd rfl (.inl rfl)) pgs_nil))) (fun _ _ _ _ _ => pts_nil) (fun _ _ _ _ _ => (pe_num (mkN T) F0 (hr.mono (by decide)) (g_Number T) (b_init2 D0) .nil (pa_cons (pv 5) (pa_cons (pv 6) pa_nil)))))
 (pss_cons (ps_setLc (i := 7) (own := [("_law_each", 8)]) (g := gName 8) (tt := tYes) rfl sc_l_passed.nd rfl rfl (sw_true rfl rfl rfl (by decide +kernel)) (pi_list (pv 4)) (blkOk_by (N := N_l_passed) (sc := defScope s_l_passed) (by decide +kernel)) (fun _ _ _ _ _ => pg_name (i := 8) sc_l_passed.nd rfl (.inl rfl)) (fun _ _ _ _ _ => pts_nil) (fun _ _ _ _ _ => (pe_and (pe_cmpR op_eq (pe_prop (pv 8) (cl T) (prop_ok (f_prop_bottom T.c)) F2 (hr.mono (by decide)) b2 .nil pass0 rfl) pe_int (nomark _)) (pe_one (pe_cmpR op_eq (pe_c C_l_next (hr.mono (by decide)) (pa_cons (pv 0) (pa_cons pe_int pa_nil))) pe_int (nomark _))))))
 (pss_one (ps_expr (pe_bm PySem.F.plainAttrs_list PySem.F.slot_list_append PySem.F.type_list_append mt_append (pv 2) (pa_cons (pe_callTy call_tuple_of (by rfl) (n_tuple T) bo_tuple (pa_cons (pe_lc (own := [("_law_each", 8), ("_law_is_whole", 9)]) (g := gTup K 2 (gCons (gName 8) (gCons (gName 9) gNil))) (tt := tYes) rfl sc_l_passed.nd (pi_zip2 false false (by rfl) (n_zip T) (pa_cons (pv 4) (pa_cons (pv 7) pa_nil))) (blkOk_by (N := N_l_passed) (sc := defScope s_l_passed) (by decide +kernel)) (fun _ _ _ _ _ => pg_tup (by rfl) (pgs_cons (pg_name (i := 8) sc_l_passed.nd rfl (.inl rfl)) (pgs_cons (pg_name (i := 9) sc_l_passed.nd rfl (.inl rfl)) pgs_nil))) (fun _ _ _ _ _ => pts_nil) (fun _ _ _ _ _ => (pe_ifExp (pt_truth (pv 9) (by intro _; rfl) : PT _ _ (tTru K (tVar 9))) (pe_prop (pv 8) (cl T) (prop_ok (f_prop_top T.c)) F1 (hr.mono (by decide)) b1 .nil pass0 rfl) (pv 8)))) pa_nil)) pa_nil)))))))
 (pss_one (ps_ret (pe_callTy call_tuple_of (by rfl) (n_tuple T) bo_tuple (pa_cons (pv 2) pa_nil)))))), ?_⟩
    obtain ⟨tl, xs, rfl, ntl, htl, atl⟩ := hx
    refine ⟨(by show 0 ≤ sizeLine; decide), fun F nF => ?_⟩
    have sF := same_upd nF (o := HO.lst [])
    have hF : (upd H F (.lst [])) F = some (.lst []) := upd_same
    have Fa : F ≠ a := fun z => hs.ne nF z.symm
    have hs1 := hs.same sF
    have o1 : Old a H (upd H F (.lst [])) := Old.same sF
    generalize upd H F (.lst []) = G1 at sF hF hs1 o1
    refine ⟨_, rfl, tl, rfl, ⟨_, .inl (.inl (sF _ _ htl))⟩, ?_⟩
    have tla : tl ≠ a := fun z => ntl (by rw [z]; simp)
    refine for_it walk_list (fun i σ H' => Old a H H' ∧ SprAt a H' ∧ (∃ us, H' F = some (.lst us) ∧ All2 (RowAt K H') us (t.take i)) ∧ ∃ (x3 x4 x7 : Option V), σ = [some (.ref a), some (.ref tl), some (.ref F), x3, x4, none, none, x7, none, none]) ⟨o1, hs1, ⟨[], hF, All2.nil⟩, none, none, none, rfl⟩ (fun i σ H' _ h => .inl (.inl (h.1 _ _ htl tla))) ?_ ?_
    · rintro i y σ G2 G2' hi ⟨o2, hs2, ⟨us, hF2, au⟩, x3, x4, x7, rfl⟩ ⟨rfl, hy⟩
      obtain ⟨r, hr', pr⟩ := atl.at hy
      obtain ⟨lr, smr⟩ := tr r (List.mem_of_getElem? hr')
      have pr2 := framed_pair.lst _ _ _ _ hs.ls (Fm.old o2) pr
      obtain ⟨rp, rx, rfl, nrp, hrp, arp⟩ := pr2
      -- pairs
      refine ⟨_, rfl, rp, rfl, ⟨_, .inl (.inl hrp)⟩, fun D3 nD3 => ?_⟩
      have lrx := arp.1
      refine lc_fr walk_list [] (NumV K) (fun j b => r[j]? = some b) (fun _ => True) nD3 (by omega) framed_num Ls.nil trivial (fun _ _ _ _ => trivial) (fun H' s' => .inl (.inl (s'.to_same _ _ hrp))) ?_ ?_ gT2_mono
      · rintro j y G3 G4 hj f3 - - hD ⟨rfl, hy⟩ R qq
        obtain ⟨q, hq, pp, rfl, hpp⟩ := arp.at hy
        have hpp3 := f3.to_same _ _ hpp
        refine ⟨pp, _, rfl, .inl (.inl hpp3), rfl, _, _, rfl, _, _, rfl, rfl, rfl, ?_⟩
        refine ⟨_, rfl, _, rfl, _, _, rfl, by have := q.den_pos; omega, (smr q (List.mem_of_getElem? hq)).sz.2, fun G5 z s5 nz N5 => ?_⟩
        have e1 := low_red (t := q.num) (b := (q.den : Int)) (by have := q.den_pos; omega) (by have := q.reduced; simpa using this)
        rw [e1.1, e1.2] at N5
        exact qq G5 _ q (Fm.same s5) Ls.nil trivial hq ⟨z, rfl, N5⟩
      rintro G3 ups bs f3 - - hbl hbp a3 hD3
      have ebs : bs = r := list_eq (by omega) hbp
      subst ebs
      have s3 := f3.to_same
      have hs3 := hs2.same s3
      have hF3 := s3 _ _ hF2
      have D3a : D3 ≠ a := fun z => hs2.ne nD3 z.symm
      have D3F : D3 ≠ F := fun z => by rw [z, hF2] at nD3; cases nD3
      -- whole
      refine ⟨_, rfl, D3, rfl, ⟨_, .inl (.inl hD3)⟩, fun D4 nD4 => ?_⟩
      have D4a := hs3.ne nD4
      have l3 := a3.1
      refine lc_fr walk_list [a] BlV (fun j b => b = true → ∀ q, bs[j]? = some q → q.den = 1) (SprAt a) nD4 (by omega) framed_bl hs3.ls hs3 (fun H o nd h => h.upd D4a) (fun H' f => .inl (.inl (f D3 _ (nm1 D3a) hD3))) ?_ ?_ gName_mono
      · rintro j y G4 G5 hj f4 l4 iv4 hD4 ⟨rfl, hy⟩ R qq
        obtain ⟨q, hq, nv⟩ := a3.at hy
        obtain ⟨z, rfl, nz⟩ := framed_num _ _ _ _ hs3.ls f4 nv
        have mq := smr q (List.mem_of_getElem? hq)
        obtain ⟨dz, hz⟩ := id nz.at_
        refine ⟨rfl, ?_⟩
        refine ⟨_, rfl, z, dz, _, rfl, hz, z, _, _, rfl, nz, mq.sz.1, mq.sz.2, rfl, _, rfl, ?_⟩
        refine ite2 (fun e => ?_) (fun e => ?_)
        · have e1 : (q.den : Int) = 1 := V.int.inj (of_decide_eq_true e)
          refine ⟨_, rfl, a, 2, rfl, iv4, by decide, by decide, fun v H' v0 v1 o s => ?_⟩
          refine ⟨rfl, ?_⟩
          refine qq H' _ _ (Fm.old o) s.ls s (fun _ q' hq' => ?_) rfl
          rw [hq] at hq'
          cases hq'
          omega
        · have e' : decide (V.int (q.den : Int) = V.int 1) = false := by
            cases h : decide (V.int (q.den : Int) = V.int 1) with
            | true => exact absurd h e
            | false => rfl
          exact qq _ _ false (Fm.refl _ _) l4 iv4 (fun h => nomatch h) rfl
      rintro G4 wbs ws f4 l4 hs4 hwl hwp a4 hD4
      have hF4 := f4 F _ (nm1 Fa) hF3
      have hD34 := f4 D3 _ (nm1 D3a) hD3
      have a34 := a3.mono fun x b h => framed_num _ _ _ _ hs3.ls f4 h
      have l4' := a4.1
      refine ⟨_, rfl, .inl ⟨rfl, _, .inl (.inl hF4)⟩, ?_⟩
      refine ⟨_, rfl, _, rfl, D3, D4, _, _, rfl, .inl (.inl hD34), .inl (.inl hD4), fun D5 nD5 => ?_⟩
      refine lc_fr walk_zip2 [] (OpdQ K) (fun j b => bs[j]? = some b) (fun _ => True) nD5 (by omega) framed_opd Ls.nil trivial (fun _ _ _ _ => trivial) (fun H' s' => ⟨.inl (.inl (s'.to_same _ _ hD34)), .inl (.inl (s'.to_same _ _ hD4))⟩) ?_ ?_ gT2_mono
      · rintro j y G5 G6 hj f5 - - hD ⟨TT, v1, v2, rfl, nT, rfl, w1, w2⟩ R qq
        dsimp only at w1 w2
        have s6 := f5.to_same.trans (same_upd nT (o := HO.tup [v1, v2]))
        obtain ⟨q, hq, nv⟩ := a34.at w1
        obtain ⟨b, hb, eb⟩ := a4.at w2
        cases (show v2 = V.bl b from eb)
        obtain ⟨z, rfl, nz⟩ := nv.same s6
        have mq := smr q (List.mem_of_getElem? hq)
        obtain ⟨dz, hz⟩ := id nz.at_
        refine ⟨TT, _, rfl, .inl (.inl upd_same), rfl, _, _, rfl, _, _, rfl, rfl, rfl, ?_⟩
        refine ⟨_, rfl, b, rfl, ?_⟩
        refine ite2 (fun e => ?_) (fun _ => ?_)
        · refine ⟨_, rfl, z, dz, _, rfl, hz, z, _, _, rfl, nz, mq.sz.1, mq.sz.2, ?_⟩
          have e1 := hwp j b hb e q hq
          exact qq _ _ q (Fm.same (same_upd nT)) Ls.nil trivial hq (.inr ⟨rfl, by omega⟩)
        · exact ⟨_, rfl, qq _ _ q (Fm.same (same_upd nT)) Ls.nil trivial hq (.inl ⟨z, rfl, nz⟩)⟩
      rintro G5 xv cs f5 - - hcl hcp a5 hD5
      have ecs : cs = bs := list_eq (by omega) hcp
      subst ecs
      have s5 := f5.to_same
      refine ⟨D5, xv, rfl, .inl ⟨.inl (.inl hD5), fun l nl => ?_⟩⟩
      have sl := same_upd nl (o := HO.tup xv)
      have s5l := s5.trans sl
      have hF6 := s5l _ _ hF4
      refine ⟨F, us, .ref l, rfl, rfl, hF6, ?_, ?_⟩
      · have := au.1
        rw [List.length_take] at this
        exact Nat.lt_of_le_of_lt (show us.length ≤ 1000 by omega) (by decide)
      have hs6 := hs4.same s5l
      have fput : Fm [F, a] (upd G5 l (.tup xv)) (upd (upd G5 l (.tup xv)) F (.lst (us ++ [.ref l]))) := (Fm.refl _ _).put (by simp)
      have ls6 : Ls [F, a] (upd G5 l (.tup xv)) := hs6.ls.cons hF6
      have f26 : Fm [a] _ (upd G5 l (.tup xv)) := ((Fm.same s3).trans f4).trans (Fm.same s5l)
      have row5 : RowAt K (upd G5 l (.tup xv)) (.ref l) cs := ⟨l, xv, rfl, upd_same, a5.mono fun _ _ h => h.same sl⟩
      refine ⟨?_, hs6.upd (Ne.symm Fa), ⟨us ++ [.ref l], upd_same, ?_⟩, _, _, _, rfl⟩
      · refine fun x o h n => ?_
        have : (upd G5 l (.tup xv)) x = some o := Fm.to_old f26 x o (o2 x o h n) n
        rw [upd_ne (fun z => by rw [z, nF] at h; cases h)]
        exact this
      · rw [List.take_add_one, hr']
        refine All2.app (au.mono fun x b h => ?_) (All2.cons ?_ All2.nil)
        · exact framed_row _ _ _ _ ls6 fput (framed_row _ _ _ _ hs2.ls f26 h)
        · exact framed_row _ _ _ _ ls6 fput row5
    · rintro σ G2 ⟨o2, hs2, ⟨us, hF2, au⟩, x3, x4, x7, rfl⟩
      rw [atl.1, List.take_length] at au
      refine ⟨_, rfl, F, us, rfl, .inl ⟨.inl (.inl hF2), fun l nl => ?_⟩⟩
      have sl := same_upd nl (o := HO.tup us)
      exact k _ _ (o2.trans (Old.same sl)) (hs2.same sl) ⟨l, us, rfl, upd_same, au.mono fun _ _ h => h.same sl⟩
/-- the steps as they are passed -/
def spLSteps (K : Fr) : Sp := fun vs H Q _ => ∃ (a : Addr) (x : V) (st : List (List Table)), vs = [.ref a, x] ∧ SprAt a H ∧ LstOf [a] (LstOf [a] (PTab [a])) H x st ∧ st.length ≤ 1000 ∧ (∀ s ∈ st, s.length ≤ 1000 ∧ ∀ t ∈ s, t.length ≤ 1000 ∧ ∀ r ∈ t, r.length ≤ 1000 ∧ ∀ q ∈ r, SmQ q) ∧ ∀ H' v, Old a H H' → SprAt a H' → StepsAt K H' v st → Q v H'
abbrev N_l_steps : List Str := ["_law_spring_here", "_law_steps_here", "_law_table_here", "_law_step"]
theorem c_lsteps (T : Tx K mg) : Cal P w K mg base 5 "_law_steps" (gAd "_law_steps" K) ["_law_spring_here", "_law_steps_here"] (spLSteps K) := by
  have C_l_passed := c_passed (P := P) (w := w) (base := base) T
  refine cal_of (d := d_l_steps) (N := N_l_steps) (a_l_steps T.c) rfl sc_l_steps (g_l_steps T) (fun _ _ _ _ _ _ us hl => match us, hl with | [_, _], _ => rfl) (fun vs H Q E h => ?_) (fun cdv A outer s H vs Q E hr h => ?_)
  · obtain ⟨a, x, t, rfl, _⟩ := h
    rfl
  · obtain ⟨a, x, st, rfl, hs, hx, t1, tr, k⟩ := h
    refine ⟨_, (pss_one (ps_ret (pe_callTy call_tuple_of (by rfl) (n_tuple T) bo_tuple (pa_cons (pe_lc (own := [("_law_step", 3)]) (g := gName 3) (tt := tYes) rfl sc_l_steps.nd (pi_list (pv 1)) (blkOk_by (N := N_l_steps) (sc := defScope s_l_steps) (by decide +kernel)) (fun _ _ _ _ _ => pg_name (i := 3) sc_l_steps.nd rfl (.inl rfl)) (fun _ _ _ _ _ => pts_nil) (fun _ _ _ _ _ => (pe_callTy (call_tuple_of : CallR _ _ (rTupOf K)) (by rfl) (n_tuple T) bo_tuple (pa_cons (pe_lc (wi := iList K (tVar 3)) (own := [("_law_table_here", 2)]) (g := gName 2) (tt := tYes) rfl sc_l_steps.nd (pi_list (pv 3)) (blkOk_by (N := N_l_steps) (by rfl)) (fun _ _ _ _ _ => pg_name (i := 2) sc_l_steps.nd rfl (.inl rfl)) (fun _ _ _ _ _ => pts_nil) (fun _ _ _ _ _ => (pe_c C_l_passed hr (pa_cons (pv 0) (pa_cons (pv 2) pa_nil))))) pa_nil)))) pa_nil)))), ?_⟩
    obtain ⟨sl, xs, rfl, nsl, hsl, asl⟩ := hx
    have lx := asl.1
    refine ⟨_, rfl, sl, rfl, ⟨_, .inl (.inl hsl)⟩, fun D nD => ?_⟩
    have Da := hs.ne nD
    refine lc_fr walk_list [a] (StepAt K) (fun i b => st[i]? = some b) (SprAt a) nD (by omega) framed_step hs.ls hs (fun H o nd h => h.upd Da) (fun H' f => .inl (.inl (f sl _ nsl hsl))) ?_ ?_ gName_mono
    · rintro i y G1 G2 hi f1 l1 iv1 ⟨_, hD⟩ ⟨rfl, hy⟩ R qq
      obtain ⟨s', hs', ps⟩ := asl.at hy
      obtain ⟨z1, z2⟩ := tr s' (List.mem_of_getElem? hs')
      obtain ⟨pl, xl, rfl, npl, hpl, apl⟩ := framed_pair.lst.lst.lst _ _ _ _ hs.ls f1 ps
      have lp := apl.1
      refine ⟨rfl, ?_⟩
      refine ⟨_, rfl, pl, rfl, ⟨_, .inl (.inl hpl)⟩, fun D2 nD2 => ?_⟩
      have D2a := iv1.ne nD2
      refine lc_fr walk_list [a] (TabAt K) (fun i b => s'[i]? = some b) (SprAt a) nD2 (by omega) framed_tab l1 iv1 (fun H o nd h => h.upd D2a) (fun H' f => .inl (.inl (f pl _ npl hpl))) ?_ ?_ gName_mono
      · rintro j y G3 G4 hj f3 l3 iv3 hD3 ⟨rfl, hy⟩ R3 q3
        obtain ⟨tb, htb, pt⟩ := apl.at hy
        obtain ⟨y1, y2⟩ := z2 tb (List.mem_of_getElem? htb)
        have pt3 := framed_pair.lst.lst _ _ _ _ l1 f3 pt
        refine ⟨rfl, ?_⟩
        refine ⟨_, rfl, _, rfl, a, y, tb, rfl, iv3, pt3, y1, y2, fun H' v o s tv => ?_⟩
        exact q3 H' v tb (Fm.old o) s.ls s htb tv
      · rintro G3 us bs f3 l3 iv3 hbl hbp a3 hD3
        have ebs : bs = s' := list_eq (by omega) hbp
        subst ebs
        refine ⟨D2, us, rfl, .inl ⟨.inl (.inl hD3), fun l nl => ?_⟩⟩
        have sn := same_upd nl (o := HO.tup us)
        exact qq _ _ bs (f3.trans (Fm.same sn)) (iv3.same sn).ls (iv3.same sn) hs' ⟨l, us, rfl, upd_same, a3.mono fun _ _ h => h.same sn⟩
    · rintro G1 us bs f1 l1 iv1 hbl hbp a1 hD1
      have ebs : bs = st := list_eq (by omega) hbp
      subst ebs
      refine ⟨D, us, rfl, .inl ⟨.inl (.inl hD1), fun l nl => ?_⟩⟩
      have sn := same_upd nl (o := HO.tup us)
      exact k _ _ ((Fm.to_old f1).trans (Old.same sn)) (iv1.same sn) ⟨l, us, rfl, upd_same, a1.mono fun _ _ h => h.same sn⟩
end
end K54

namespace K54
open PySem PySem.Spec PyProof.Rows L2 Hk NumM NumT SX Hz
theorem look_none {f : Str} : ∀ {l : List (Str × V)}, (∀ k ∈ l.map Prod.fst, k ≠ f) → l.lookup f = none
  | [], _ => rfl
  | (k, v) :: l, h => by
    have h1 : k ≠ f := h k List.mem_cons_self
    have h2 := look_none (f := f) (l := l) fun x hx => h x (List.mem_cons_of_mem _ hx)
    rw [List.lookup_cons, beq_false_of_ne (Ne.symm h1)]
    exact h2
theorem kdrun : ∀ k ∈ (["_per_unit", "_input_rates", "_output_rates", "_sizes", "_reads", "_steps"] : List Str), k ≠ ("run" : Str) := by decide +kernel
theorem lkrun (v1 v2 v3 v4 v5 v6 : V) : (macF v1 v2 v3 v4 v5 v6).lookup ("run" : Str) = none := look_none kdrun
theorem MacFs.run {K : Fr} {H : Hp} {m : Mac} {fs : List (Str × V)} (h : MacFs K H m fs) : fs.lookup ("run" : Str) = none := by
  obtain ⟨a, b, e, c, d, xa, xb, xe, rfl, _⟩ := h
  exact lkrun _ _ _ _ _ _
def spRunL (K : Fr) : Sp := fun vs H Q _ => ∃ (p l : Addr) (u : Nat) (m : Mac) (rows : List (List Rat)) (xs : List V), vs = [.ref p, .int (u : Int), .ref l] ∧ MachAt K H p m ∧ Wf m ∧ RowsOk m rows u ∧ u * m.per ≤ 54 ∧ H l = some (.lst xs) ∧ All2 (RowAt K H) xs rows ∧ m.ins.length ≤ 2 ∧
  ∀ H' v, Same H H' → NTab K H' v (m.shown rows (u * m.per)) → Q v H'
def spRunLX (K : Fr) : Sp := fun vs H Q E => ∃ (p l : Addr) (y : V) (m : Mac) (xs : List V), vs = [.ref p, y, .ref l] ∧ MachAt K H p m ∧ Wf m ∧ H l = some (.lst xs) ∧ xs.length ≤ 3 ∧ RunBad K H E m y xs
abbrev N_l_run : List Str := ["_law_machine_here", "_law_until", "_law_rows"]
section
variable {P : Program} {w : World} {K : Fr} {mg : Str → Option Value} {base : Heap}
theorem c_run (T : Tx K mg) : Cal P w K mg base 9 "_law_run" (gAd "_law_run" K) N_l_run (spRunL K) := by
  have FR := f_mrun (P := P) (w := w) (base := base) T
  refine cal_of (d := d_l_run) (N := N_l_run) (a_l_run T.c) rfl sc_l_run (g_l_run T) (fun _ _ _ _ _ _ us hl => match us, hl with | [_, _, _], _ => rfl) (fun vs H Q E h => ?_) (fun cdv A outer s H vs Q E hr h => ?_)
  · obtain ⟨p, l, u, m, rows, xs, rfl, _⟩ := h
    rfl
  obtain ⟨p, l, u, m, rows, xs, rfl, hM, W, RO, hu, hl, al, i2, k⟩ := h
  refine ⟨_, (pss_cons (ps_if (pt_cmpR op_eq (pe_callB call_len_seq (by rfl) (n_len T) bo_len (pa_cons (pv 2) pa_nil)) pe_int (nomark _))
 (pss_one (ps_ret (pe_methR (pv 0) (clM T) (He.meth_ok (f_meth_run T.c)) FR hr pass0 (pa_cons (pv 1) pa_nil))))
 pss_nil)
 (pss_cons (ps_if (pt_cmpR op_eq (pe_callB call_len_seq (by rfl) (n_len T) bo_len (pa_cons (pv 2) pa_nil)) pe_int (nomark _))
 (pss_one (ps_ret (pe_methR (pv 0) (clM T) (He.meth_ok (f_meth_run T.c)) FR hr pass0 (pa_cons (pv 1) (pa_cons (pe_ix ix_list (pv 2) pe_int (fun _ _ => rfl)) pa_nil)))))
 pss_nil)
 (pss_one (ps_ret (pe_ifExp (pt_cmpR op_eq (pe_callB call_len_seq (by rfl) (n_len T) bo_len (pa_cons (pv 2) pa_nil)) pe_int (nomark _)) (pe_methR (pv 0) (clM T) (He.meth_ok (f_meth_run T.c)) FR hr pass0 (pa_cons (pv 1) (pa_cons (pe_ix ix_list (pv 2) pe_int (fun _ _ => rfl)) (pa_cons (pe_ix ix_list (pv 2) pe_int (fun _ _ => rfl)) pa_nil)))) (pe_methR (pv 0) (clM T) (He.meth_ok (f_meth_run T.c)) FR hr pass0 (pa_cons (pv 1) (pa_cons (pe_ix ix_list (pv 2) pe_int (fun _ _ => rfl)) (pa_cons (pe_ix ix_list (pv 2) pe_int (fun _ _ => rfl)) (pa_cons (pe_ix ix_list (pv 2) pe_int (fun _ _ => rfl)) pa_nil)))))))))), ?_⟩
  have i1 := W.i1
  have lx : xs.length = m.ins.length := by rw [al.1, RO.len]
  obtain ⟨dx, fs, hp, hF⟩ := id hM
  have fin : ∀ (t : Addr) (ys : List V), ys = xs → H t = none → spRun K [.ref p, .int (u : Int), .ref t] (upd H t (.tup ys)) Q E0 := fun t ys e nt => by
    subst e
    have s := same_upd nt (o := HO.tup ys)
    exact ⟨p, t, u, m, rows, ys, rfl, hM.same s, W, RO, hu, upd_same, al.mono fun _ _ h => h.same s, fun H' v s' tv => k H' v (s.trans s') tv⟩
  refine ⟨_, rfl, l, xs, rfl, .inl (.inl (.inl hl)), rfl, _, rfl, ?_⟩
  rw [show decide (V.int ((xs.length : Nat) : Int) = V.int 0) = false from decide_eq_false fun z => by have := V.int.inj z; omega]
  refine iteF ?_
  refine ⟨_, rfl, l, xs, rfl, .inl (.inl (.inl hl)), rfl, _, rfl, ?_⟩
  match xs, lx, al, hl, fin with
  | [], lx, _, _, _ => exact absurd lx.symm (by show m.ins.length ≠ 0; omega)
  | [x0], lx, al, hl, fin =>
    refine iteT ?_
    refine ⟨_, rfl, p, dx, fs, rfl, hp, hF.run, _, rfl, _, rfl, l, _, _, _, rfl, rfl, .inl (.inl hl), rfl, ?_⟩
    exact ⟨[.ref p, .int (u : Int)], [x0], rfl, rfl, (by show 1 ≤ sizeLine; decide), fun t nt => fin t _ rfl nt⟩
  | [x0, x1], lx, al, hl, fin =>
    refine iteF ?_
    refine ⟨_, rfl, l, _, rfl, .inl (.inl (.inl hl)), rfl, _, rfl, iteT ?_⟩
    refine ⟨_, rfl, p, dx, fs, rfl, hp, hF.run, _, rfl, _, rfl, l, _, _, _, rfl, rfl, .inl (.inl hl), rfl, _, rfl, l, _, _, _, rfl, rfl, .inl (.inl hl), rfl, ?_⟩
    exact ⟨[.ref p, .int (u : Int)], [x0, x1], rfl, rfl, (by show 2 ≤ sizeLine; decide), fun t nt => fin t _ rfl nt⟩
  | x0 :: x1 :: x2 :: r, lx, _, _, _ => exact absurd lx (by simp only [List.length_cons]; omega)
theorem c_runX (T : Tx K mg) : CalN P w K mg base 9 "_law_run" (gAd "_law_run" K) N_l_run (spRunLX K) := by
  obtain ⟨fd, D⟩ := a_l_run T.c
  have FR := f_mrunX (P := P) (w := w) (base := base) T
  refine ⟨fd, okn_of (k := 8) (N := N_l_run) D sc_l_run (fun vs H Q E h => ?_) (fun cdv A outer s H vs Q E hr h => ?_), FunD.bindsN D fun _ _ _ _ _ _ us hl => match us, hl with | [_, _, _], _ => rfl, D.kp, g_l_run T⟩
  · obtain ⟨p, l, y, m, xs, rfl, _⟩ := h
    rfl
  obtain ⟨p, l, y, m, xs, rfl, hM, W, hl, l3, bad⟩ := h
  refine ⟨_, (pss_cons (ps_if (pt_cmpR op_eq (pe_callB call_len_seq (by rfl) (n_len T) bo_len (pa_cons (pv 2) pa_nil)) pe_int (nomark _))
 (pss_one (ps_ret (pe_methR (E := E) (pv 0) (clM T) (He.meth_ok (f_meth_run T.c)) FR hr (L2N.passes_call tk0 (fun _ _ _ _ z => z)) (pa_cons (pv 1) pa_nil))))
 pss_nil)
 (pss_cons (ps_if (pt_cmpR op_eq (pe_callB call_len_seq (by rfl) (n_len T) bo_len (pa_cons (pv 2) pa_nil)) pe_int (nomark _))
 (pss_one (ps_ret (pe_methR (E := E) (pv 0) (clM T) (He.meth_ok (f_meth_run T.c)) FR hr (L2N.passes_call tk0 (fun _ _ _ _ z => z)) (pa_cons (pv 1) (pa_cons (pe_ix ix_list (pv 2) pe_int (fun _ _ => rfl)) pa_nil)))))
 pss_nil)
 (pss_one (ps_ret (pe_ifExp (pt_cmpR op_eq (pe_callB call_len_seq (by rfl) (n_len T) bo_len (pa_cons (pv 2) pa_nil)) pe_int (nomark _)) (pe_methR (E := E) (pv 0) (clM T) (He.meth_ok (f_meth_run T.c)) FR hr (L2N.passes_call tk0 (fun _ _ _ _ z => z)) (pa_cons (pv 1) (pa_cons (pe_ix ix_list (pv 2) pe_int (fun _ _ => rfl)) (pa_cons (pe_ix ix_list (pv 2) pe_int (fun _ _ => rfl)) pa_nil)))) (pe_methR (E := E) (pv 0) (clM T) (He.meth_ok (f_meth_run T.c)) FR hr (L2N.passes_call tk0 (fun _ _ _ _ z => z)) (pa_cons (pv 1) (pa_cons (pe_ix ix_list (pv 2) pe_int (fun _ _ => rfl)) (pa_cons (pe_ix ix_list (pv 2) pe_int (fun _ _ => rfl)) (pa_cons (pe_ix ix_list (pv 2) pe_int (fun _ _ => rfl)) pa_nil)))))))))), ?_⟩
  obtain ⟨dx, fs, hp, hF⟩ := id hM
  have fin : ∀ (t : Addr) (ys : List V), ys = xs → H t = none → spRunX K [.ref p, y, .ref t] (upd H t (.tup ys)) Q E := fun t ys e nt => by
    subst e
    have s := same_upd nt (o := HO.tup ys)
    exact ⟨p, t, y, m, ys, rfl, hM.same s, W, upd_same, bad.same s⟩
  refine ⟨_, rfl, l, xs, rfl, .inl (.inl (.inl hl)), rfl, _, rfl, ?_⟩
  match xs, l3, hl, fin with
  | [], _, hl, fin =>
    refine iteT ?_
    refine ⟨_, rfl, p, dx, fs, rfl, hp, hF.run, _, rfl, ?_⟩
    exact ⟨[.ref p, y], [], rfl, rfl, (by show 0 ≤ sizeLine; decide), fun t nt => fin t _ rfl nt⟩
  | [x0], _, hl, fin =>
    refine iteF ?_
    refine ⟨_, rfl, l, _, rfl, .inl (.inl (.inl hl)), rfl, _, rfl, iteT ?_⟩
    refine ⟨_, rfl, p, dx, fs, rfl, hp, hF.run, _, rfl, _, rfl, l, _, _, _, rfl, rfl, .inl (.inl hl), rfl, ?_⟩
    exact ⟨[.ref p, y], [x0], rfl, rfl, (by show 1 ≤ sizeLine; decide), fun t nt => fin t _ rfl nt⟩
  | [x0, x1], _, hl, fin =>
    refine iteF ?_
    refine ⟨_, rfl, l, _, rfl, .inl (.inl (.inl hl)), rfl, _, rfl, iteF ?_⟩
    refine ⟨_, rfl, l, _, rfl, .inl (.inl (.inl hl)), rfl, _, rfl, iteT ?_⟩
    refine ⟨_, rfl, p, dx, fs, rfl, hp, hF.run, _, rfl, _, rfl, l, _, _, _, rfl, rfl, .inl (.inl hl), rfl, _, rfl, l, _, _, _, rfl, rfl, .inl (.inl hl), rfl, ?_⟩
    exact ⟨[.ref p, y], [x0, x1], rfl, rfl, (by show 2 ≤ sizeLine; decide), fun t nt => fin t _ rfl nt⟩
  | [x0, x1, x2], _, hl, fin =>
    refine iteF ?_
    refine ⟨_, rfl, l, _, rfl, .inl (.inl (.inl hl)), rfl, _, rfl, iteF ?_⟩
    refine ⟨_, rfl, l, _, rfl, .inl (.inl (.inl hl)), rfl, _, rfl, iteF ?_⟩
    refine ⟨_, rfl, p, dx, fs, rfl, hp, hF.run, _, rfl, _, rfl, l, _, _, _, rfl, rfl, .inl (.inl hl), rfl, _, rfl, l, _, _, _, rfl, rfl, .inl (.inl hl), rfl, _, rfl, l, _, _, _, rfl, rfl, .inl (.inl hl), rfl, ?_⟩
    exact ⟨[.ref p, y], [x0, x1, x2], rfl, rfl, (by show 3 ≤ sizeLine; decide), fun t nt => fin t _ rfl nt⟩
  | x0 :: x1 :: x2 :: x3 :: r, l3, _, _ => exact absurd l3 (by simp only [List.length_cons]; omega)
end
end K54

namespace K54
open PySem PySem.Spec PyProof.Rows L2 Hk NumM NumT SX Hz L2H LamX
/-- z is what repr shows of x, which is data -/
def DShow (K : Fr) (H : Hp) (x : V) (z : Str) : Prop := ∃ d, Dp K H x d ∧ d.showable = true ∧ d.depth ≤ 60 ∧ d.shown.length ≤ sizeLine ∧ z = d.shown
theorem DShow.same {K : Fr} {H H' : Hp} {x : V} {z : Str} (h : DShow K H x z) (s : Same H H') : DShow K H' x z := by
  obtain ⟨d, h1, h2⟩ := h
  exact ⟨d, dp_same s d _ h1, h2⟩
/-- a list of two is new -/
abbrev Two (H : Hp) (Q : VK) (a b : V) : Prop := ∀ (l : Addr) (H' : Hp), Same H H' → H l = none → H' l = some (.lst [a, b]) → Q (.ref l) H'
def TTt (K : Fr) : (XK → Hp → VK → Prop) → Hp → VK → Prop := fun tl H Q =>
  tl (fun cls d H' => (cls = .ref (He.ga K "InvalidCount") ∧ ∃ dd x z, d = some dd ∧ H' dd = some (.xd [("value", x)]) ∧ DShow K H' x z ∧ Two H' Q (.str "count") (.str z)) ∨
      (cls = .ref (He.ga K "InvalidInputs") ∧ ∃ dd x z, d = some dd ∧ H' dd = some (.xd [("index", x)]) ∧ DShow K H' x z ∧ Two H' Q (.str "inputs") (.str z)))
    H (fun _ H' => [V.str "given", .str ""].length ≤ sizeLine ∧ ∀ l, H' l = none → Q (.ref l) (upd H' l (.lst [.str "given", .str ""])))
abbrev N_told : List Str := ["_law_act", "e"]
section
variable {P : Program} {w : World} {K : Fr} {mg : Str → Option Value} {base : Heap}
theorem g_told (T : Tx K mg) {X : Cx} (hP : X.prog = P) (hw : X.w = w) (hK : X.K = K) (hm : X.mg = mg) (hbase : X.base = base) (hc : Calm X.A) (q : Str) (cdv : Value) :
    GivesN 9 X N_told d_l_told.ql (defScope d_l_told.st) (d_l_told.ad X.K) cdv (defBody d_l_told.st) "_law_act" q (TTt K) := by
  subst hP hw hK hm hbase
  intro f c' s H Q tl act hr hco h
  have hu : (X.A.deeper (envOfC d_l_told.ql (defScope d_l_told.st) s.heap.objs.size (d_l_told.ad X.K) cdv)).units + 200 < cLine := by
    have := hr.un
    omega
  have RR : ∀ (a : Addr) (oe : Obj) (cls : Value) (d : Option Addr) (pn : List (Addr × Obj)), L2N.Zn cls d oe → (∃ vs, oe.data = .fields vs) →
      CallR (Cx.suite (cxOf CX0 X.prog X.w X.K X.mg X.base N_told d_l_told.ql (defScope d_l_told.st) (d_l_told.ad X.K) cdv X.A X.stack s H E0).nox a ((a, oe) :: pn)) (.builtin "repr") (rRepr X.K) := fun a oe cls d pn hz hf => call_reprDU hc hu
  refine ⟨_, pss_cons (ps_try_A (l := [(_, 1, _)]) rfl rfl sc_l_told.nd (takesN0 _)
      (tb := fun W D σ H => ∃ Ech : XK, (∀ cls d (σ' : L2.St) H', σ'.length = 2 → Ech cls d H' → W cls d σ' H') ∧ σ[0]? = some (some (.ref f)) ∧ H c' = some (CodeO c' q) ∧ tl Ech H (fun _ H' => D.nx σ H'))
      (fun W pn xe tk _ => ?body)
      (.cons (head_name ⟨rfl, by decide, .inl (g_InputError T)⟩) rfl rfl (fun a oe cls d pn hz hf =>
          pss_cons (ps_if (pt_val (pe_callB (call_isX hz.zc hf) (by rfl) (n_isinstance T) bo_isinstance (pa_cons (pv 1) (pa_cons (pe_glob (v := .ref (gAd "InvalidCount" X.K)) rfl (g_InvalidCount T) rfl) pa_nil))))
            (pss_one (ps_ret (pe_lst (pa_cons pe_str (pa_cons (pe_callB (RR a oe cls d pn hz hf) (by rfl) (n_repr T) bo_repr (pa_cons (pe_xfX hz.zc hf (pv 1)) pa_nil)) pa_nil))))) pss_nil)
          (pss_one (ps_ret (pe_ifExp (pt_val (pe_callB (call_isX hz.zc hf) (by rfl) (n_isinstance T) bo_isinstance (pa_cons (pv 1) (pa_cons (pe_glob (v := .ref (gAd "InvalidInputs" X.K)) rfl (g_InvalidInputs T) rfl) pa_nil))))
            (pe_lst (pa_cons pe_str (pa_cons (pe_callB (RR a oe cls d pn hz hf) (by rfl) (n_repr T) bo_repr (pa_cons (pe_xfX hz.zc hf (pv 1)) pa_nil)) pa_nil)))
            (pe_lst (pa_cons pe_str (pa_cons pe_str pa_nil))))))) .nil))
      (pss_one (ps_ret (pe_lst (pa_cons pe_str (pa_cons pe_str pa_nil))))), ?_⟩
  case body =>
    refine ⟨fun pins s' σ H' D I h' => ?_⟩
    obtain ⟨Ech, hW, h1, h2, h3⟩ := h'
    exact (pss_one (ps_expr (act W pn xe Ech _ _ tk hW))).run pins s' σ H' D I ⟨h1, h2, h3⟩
  have len2 : ∀ {σ' : L2.St} {v : V}, σ'.length = 2 → (σ'.set 1 (some v))[1]? = some (some v) := fun {σ' v} hl => by
    rw [List.getElem?_set_self (by omega)]
  refine ⟨_, fun cls d σ' H' hl he => ?_, rfl, hco, h⟩
  rcases he with ⟨rfl, dd, x, z, rfl, hdd, ⟨dz, g1, g2, g3, g4, rfl⟩, k⟩ | ⟨rfl, dd, x, z, rfl, hdd, ⟨dz, g1, g2, g3, g4, rfl⟩, k⟩
  · have xc := (veB_ok (f_ve_InvalidCount T.c)).x
    refine ⟨true, of_decide_eq_true (f_exm_InvalidCount T.c), fun _ ax nax => ?_, fun z => nomatch z⟩
    refine ⟨_, len2 hl, _, _, _, true, rfl, xc, .inr ⟨dd, _, rfl, hdd⟩, rfl, fun u h => h, of_decide_eq_true (f_kit_InvalidCount_InvalidCount T.c), true, rfl, iteT ?_⟩
    refine ⟨_, len2 hl, rfl, _, dd, _, x, rfl, xfB_ok (f_xfc_InvalidCount T.c), He.eqO_ok (f_nof_InvalidCount T.c), rfl, hdd, rfl, x, dz, rfl, g1, g2, g3, g4, ?_⟩
    exact ⟨(by show 2 ≤ sizeLine; decide), fun l nl => k l _ (same_upd nl) nl upd_same⟩
  · have xc := (veB_ok (f_ve_InvalidInputs T.c)).x
    refine ⟨true, of_decide_eq_true (f_exm_InvalidInputs T.c), fun _ ax nax => ?_, fun z => nomatch z⟩
    refine ⟨_, len2 hl, _, _, _, false, rfl, xc, .inr ⟨dd, _, rfl, hdd⟩, rfl, fun u h => h, of_decide_eq_true (f_kit_InvalidInputs_InvalidCount T.c), false, rfl, iteF ?_⟩
    refine ⟨_, len2 hl, _, _, _, true, rfl, xc, .inr ⟨dd, _, rfl, hdd⟩, rfl, fun u h => h, of_decide_eq_true (f_kit_InvalidInputs_InvalidInputs T.c), true, rfl, iteT ?_⟩
    refine ⟨_, len2 hl, rfl, _, dd, _, x, rfl, xfB_ok (f_xfc_InvalidInputs T.c), He.eqO_ok (f_nof_InvalidInputs T.c), rfl, hdd, rfl, x, dz, rfl, g1, g2, g3, g4, ?_⟩
    exact ⟨(by show 2 ≤ sizeLine; decide), fun l nl => k l _ (same_upd nl) nl upd_same⟩
end
end K54

namespace K54
open PySem PySem.Spec PyProof.Rows L2 Hk NumM NumT SX Hz
theorem cut0 (xs : List V) (n : Nat) : cutV xs none (some (n : Int)) = xs.take n := by
  unfold cutV
  rw [HT.sIx_none, HT.sIx_nat, List.drop_zero, Nat.sub_zero]
  by_cases c : n ≤ xs.length
  · rw [show min n xs.length = n by omega]
  · rw [show min n xs.length = xs.length by omega, List.take_length, List.take_of_length_le (by omega)]
theorem cut1 (xs : List V) (n : Nat) : cutV xs (some (n : Int)) none = xs.drop n := by
  unfold cutV
  rw [HT.sIx_none, HT.sIx_nat]
  by_cases c : n ≤ xs.length
  · rw [show min n xs.length = n by omega, List.take_of_length_le (by rw [List.length_drop]; omega)]
  · rw [show min n xs.length = xs.length by omega, List.drop_length, List.drop_of_length_le (by omega), List.take_nil]
theorem slice_tup {K : Fr} {H : Hp} {Q : VK} {p : Addr} {xs : List V} {lo hi : Option Int} (hp : H p = some (.tup xs)) (q : ∀ p' H', Same H H' → H' p' = some (.tup (cutV xs lo hi)) → Q (.ref p') H') : rSlA K (.ref p) lo hi H Q := by
  refine ⟨p, xs, rfl, .inl (.inl hp), fun h => q p H (Same.refl H) ?_, fun _ l nl => q l _ (same_upd nl) upd_same⟩
  have e : cutV xs lo hi = xs := by
    unfold cutV
    rw [h.1, h.2, List.drop_zero, Nat.sub_zero, List.take_length]
  rw [e]
  exact hp
theorem bo_list : bootBuiltins "list" = some (.type "list") := by decide +kernel
theorem shaped_ints (cs : List Int) : SeqAt.shaped (.tuple (cs.map PyData.int)) = true := by
  have h1 : PyData.canLayAll0 (cs.map PyData.int) = true := by
    induction cs with
    | nil => rfl
    | cons t r ih => simpa [PyData.canLayAll0, PyData.canLay0] using ih
  have h2 : PyData.depthAll (cs.map PyData.int) ≤ 1 := by
    induction cs with
    | nil => decide
    | cons t r ih => simpa [PyData.depthAll, PyData.depth] using ih (by simpa [PyData.canLayAll0, PyData.canLay0] using h1)
  unfold SeqAt.shaped
  rw [Bool.and_eq_true]
  refine ⟨h1, decide_eq_true ?_⟩
  simp only [PyData.depth]
  omega
theorem all2_take {α β : Type} {R : α → β → Prop} {xs : List α} {ys : List β} (h : All2 R xs ys) (n : Nat) : All2 R (xs.take n) (ys.take n) := ⟨by rw [List.length_take, List.length_take, h.1], fun i x y h1 h2 => by
  rw [List.getElem?_take] at h1 h2
  split at h1
  · rename_i c
    rw [if_pos c] at h2
    exact h.2 i x y h1 h2
  · cases h1⟩
theorem all2_drop {α β : Type} {R : α → β → Prop} {xs : List α} {ys : List β} (h : All2 R xs ys) (n : Nat) : All2 R (xs.drop n) (ys.drop n) := ⟨by rw [List.length_drop, List.length_drop, h.1], fun i x y h1 h2 => by
  rw [List.getElem?_drop] at h1 h2
  exact h.2 _ x y h1 h2⟩
/-- what is no tuple, wherever a has changed -/
theorem bad_ty {K : Fr} {a : Addr} {H : Hp} {y : V} {n : Nat} {ty : Value} (h : ∀ H', Old a H H' → TyX K H' y ty) (k : PySem.W.kitOne K ty (.type "tuple") = some false) : ∀ H', Old a H H' → BadRow K H' y n := fun H' o => .inl ⟨ty, h H' o, k⟩
theorem smp_ints {K : Fr} {H : Hp} (cs : List Int) : All2 (Smp K H) (cs.map V.int) (List.replicate cs.length true) := ⟨by rw [List.length_map, List.length_replicate], fun i x b h1 h2 => by
  rw [List.getElem?_map] at h1
  obtain ⟨c, hc, rfl⟩ := Option.map_eq_some_iff.mp h1
  rw [List.getElem?_replicate] at h2
  split at h2
  · cases h2
    exact ⟨(c : Rat), .inr ⟨rfl, rfl⟩⟩
  · cases h2⟩
def spSpoilt (K : Fr) : Sp := fun vs H Q _ => ∃ (a p : Addr) (cs : List Int), vs = [.ref a, .ref p] ∧ SprAt a H ∧ H p = some (.tup (cs.map V.int)) ∧ cs.length ≤ 1000 ∧ ∀ (y : V) (H' : Hp), Old a H H' → SprAt a H' → BadRow K H' y cs.length → Q y H'
abbrev N_l_spoilt : List Str := ["_law_spring_here", "_law_row", "_law_menu", "_law_at", "_law_odd"]
section
variable {P : Program} {w : World} {K : Fr} {mg : Str → Option Value} {base : Heap}
theorem kN_non (T : Tx K mg) : PySem.W.kitOne K (.type "NoneType") (.ref (CN K)) = some false := of_decide_eq_true (tAll_at (f_kitN T.c) 0)
theorem kN_bl (T : Tx K mg) : PySem.W.kitOne K (.type "bool") (.ref (CN K)) = some false := of_decide_eq_true (tAll_at (f_kitN T.c) 1)
theorem kN_str (T : Tx K mg) : PySem.W.kitOne K (.type "str") (.ref (CN K)) = some false := of_decide_eq_true (tAll_at (f_kitN T.c) 2)
theorem kN_tup (T : Tx K mg) : PySem.W.kitOne K (.type "tuple") (.ref (CN K)) = some false := of_decide_eq_true (tAll_at (f_kitN T.c) 3)
theorem kN_lst (T : Tx K mg) : PySem.W.kitOne K (.type "list") (.ref (CN K)) = some false := of_decide_eq_true (tAll_at (f_kitN T.c) 4)
theorem c_spoilt (T : Tx K mg) : Cal P w K mg base 3 "_law_spoilt" (gAd "_law_spoilt" K) ["_law_spring_here", "_law_row"] (spSpoilt K) := by
  have C_l_next := c_nextO (P := P) (w := w) (base := base) T
  have C_l_one := c_one (P := P) (w := w) (base := base) T
  refine cal_of (d := d_l_spoilt) (N := N_l_spoilt) (a_l_spoilt T.c) rfl sc_l_spoilt (g_l_spoilt T) (fun _ _ _ _ _ _ us hl => match us, hl with | [_, _], _ => rfl) (fun vs H Q E h => ?_) (fun cdv A outer s H vs Q E hr h => ?_)
  · obtain ⟨a, p, cs, rfl, _⟩ := h
    rfl
  obtain ⟨a, p, cs, rfl, hs, hp, hz, k⟩ := h
  refine ⟨_, (pss_cons (ps_set (i := 2) sc_l_spoilt.nd rfl (.inl rfl) (pe_lst (pa_cons (pe_callTy call_list_of (by rfl) (n_list T) bo_list (pa_cons (pv 1) pa_nil)) (pa_cons pe_non (pa_cons pe_str (pa_cons pe_int (pa_cons (pe_op (op_catA : OpR _ _ (rCatA K)) (pv 1) (pe_tup (pa_cons pe_int pa_nil))) (pa_cons pe_dnewK pa_nil))))))))
 (pss_cons (ps_if (pt_cmpR (op_neD hr.units : OpR _ _ (rNeD K)) (pv 1) (pe_tup pa_nil) (nomark _))
 (pss_cons (ps_set (i := 3) sc_l_spoilt.nd rfl (.inl rfl) (pe_c C_l_next (hr.mono (by decide)) (pa_cons (pv 0) (pa_cons (pe_callB call_len_seq (by rfl) (n_len T) bo_len (pa_cons (pv 1) pa_nil)) pa_nil))))
 (pss_cons (ps_set (i := 4) sc_l_spoilt.nd rfl (.inl rfl) (pe_c C_l_one hr (pa_cons (pv 0) (pa_cons (pe_lst (pa_cons pe_non (pa_cons pe_bl (pa_cons pe_str (pa_cons (pe_tup (pa_cons pe_int pa_nil)) (pa_cons (pe_lst (pa_cons pe_int pa_nil)) pa_nil)))))) pa_nil))))
 (pss_one (ps_set (i := 2) sc_l_spoilt.nd rfl (.inl rfl) (pe_op op_cat (pv 2) (pe_op op_rep (pe_lst (pa_cons (pe_slice (sl_tupA : SlR _ (rSlA K)) (pv 1) (po_some pe_int) po_none) (pa_cons (pe_op (op_catA : OpR _ _ (rCatA K)) (pe_op (op_catA : OpR _ _ (rCatA K)) (pe_slice (sl_tupA : SlR _ (rSlA K)) (pv 1) po_none (po_some (pv 3))) (pe_tup (pa_cons (pv 4) pa_nil))) (pe_slice (sl_tupA : SlR _ (rSlA K)) (pv 1) (po_some (pe_op op_add (pv 3) pe_int)) po_none)) pa_nil))) pe_int))))))
 pss_nil)
 (pss_one (ps_ret (pe_c C_l_one hr (pa_cons (pv 0) (pa_cons (pv 2) pa_nil))))))), ?_⟩
  obtain ⟨d0, e0, c0, ha, _⟩ := id hs
  -- the first menu
  refine ⟨_, rfl, p, cs.map V.int, rfl, .inr (.inl (.inl hp)), fun l1 n1 => ?_⟩
  have s1 := same_upd n1 (o := HO.lst (cs.map V.int))
  have h1 : (upd H l1 (.lst (cs.map V.int))) l1 = some (.lst (cs.map V.int)) := upd_same
  generalize upd H l1 (.lst (cs.map V.int)) = G1 at s1 h1 ⊢
  refine ⟨_, rfl, (by show 1 ≤ sizeLine; decide), fun t1 nt1 => ?_⟩
  have s2 := same_upd nt1 (o := HO.tup [.int 0])
  have h2 : (upd G1 t1 (.tup [.int 0])) t1 = some (.tup [.int 0]) := upd_same
  generalize upd G1 t1 (.tup [.int 0]) = G2 at s2 h2 ⊢
  refine cat_tup ((s1.trans s2) _ _ hp) h2 (by rw [List.length_map]; show cs.length + 1 ≤ _; omega) fun p2 G3 s3 h3 => ?_
  intro p4 n4
  have s4 := same_upd n4 (o := HO.dK [])
  have h4 : (upd G3 p4 (.dK [])) p4 = some (.dK []) := upd_same
  generalize upd G3 p4 (.dK []) = G4 at s4 h4 ⊢
  refine ⟨(by show 6 ≤ sizeLine; decide), fun pL nL => ?_⟩
  have s5 := same_upd nL (o := HO.lst [V.ref l1, .non, .str "", .int 5, .ref p2, .ref p4])
  have h5 : (upd G4 pL (.lst [V.ref l1, .non, .str "", .int 5, .ref p2, .ref p4])) pL = some (.lst [V.ref l1, .non, .str "", .int 5, .ref p2, .ref p4]) := upd_same
  generalize upd G4 pL (.lst [V.ref l1, .non, .str "", .int 5, .ref p2, .ref p4]) = G5 at s5 h5 ⊢
  have q4 := s3.trans s4
  have q3 := s2.trans q4
  have q2 := s1.trans q3
  have s05 := q2.trans s5
  have ha5 := s05 _ _ ha
  have hp5 := s05 _ _ hp
  have nl1 : l1 ≠ a := fun z => by rw [z, ha] at n1; cases n1
  have np4 : p4 ≠ a := fun z => by rw [z, (s1.trans (s2.trans s3)) _ _ ha] at n4; cases n4
  have npL : pL ≠ a := fun z => by rw [z, q2 _ _ ha] at nL; cases nL
  have np : p ≠ a := fun z => by rw [z, ha] at hp; cases hp
  have h15 := (q3.trans s5) _ _ h1
  have h35 := (s4.trans s5) _ _ h3
  have h45 := s5 _ _ h4
  have np2 : p2 ≠ a := fun z => by rw [z, ha5] at h35; cases h35
  have good1 : ∀ y ∈ ([V.ref l1, .non, .str "", .int 5, .ref p2, .ref p4] : List V), ∀ H', Old a G5 H' → BadRow K H' y cs.length := by
    intro y hy
    simp only [List.mem_cons, List.not_mem_nil, or_false] at hy
    rcases hy with rfl | rfl | rfl | rfl | rfl | rfl
    · exact bad_ty (ty := .type "list") (fun H' o => .base (.lst (o _ _ h15 nl1))) (kit_ty (by decide +kernel))
    · exact bad_ty (ty := .type "NoneType") (fun H' o => .base .non) (kit_ty (by decide +kernel))
    · exact bad_ty (ty := .type "str") (fun H' o => .base (.str _)) (kit_ty (by decide +kernel))
    · exact bad_ty (ty := .type "int") (fun H' o => .base (.int _)) (kit_ty (by decide +kernel))
    · exact fun H' o => .inr ⟨p2, _, rfl, o _ _ h35 np2, .inl (by rw [List.length_append, List.length_map]; show cs.length + 1 ≠ _; omega)⟩
    · exact bad_ty (ty := .type "dict") (fun H' o => .base (.dK (o _ _ h45 np4))) (kit_ty (by decide +kernel))
  have last : ∀ (x3 x4 : Option V) (menu : Addr) (ys : List V) (G : Hp), Old a H G → SprAt a G → G menu = some (.lst ys) → menu ≠ a → 1 ≤ ys.length → ys.length ≤ 1000 → (∀ y ∈ ys, ∀ H', Old a G H' → BadRow K H' y cs.length) →
      tSeq (tRet (tCall spOne [] E0 (tCons (tVar 0) (tCons (tVar 2) tNil)))) tNext { nx := fun _ H' => Q .non H', rt := Q } [some (.ref a), some (.ref p), some (.ref menu), x3, x4] G := fun x3 x4 menu ys G o sp hm nm z1 z2 g => by
    exact ⟨_, rfl, _, rfl, a, menu, ys, rfl, sp, hm, Ne.symm nm, z1, z2, fun i x H' hx o' sp' => k x H' (o.trans o') sp' (g x (List.mem_of_getElem? hx) H' o')⟩
  -- if the row is not empty
  have hp5' : Dp K G5 (.ref p) (.tuple (cs.map PyData.int)) := .tup (.inl (.inl hp5)) (by
    clear hp hz k hp5 h1 h3 h15 h35 good1 last
    induction cs with
    | nil => exact .nil
    | cons c r ih => exact .cons (.int c) (ih))
  refine ⟨_, rfl, (by show 0 ≤ sizeLine; decide), fun t6 nt6 => ?_⟩
  have s6 := same_upd nt6 (o := HO.tup [])
  have h6 : (upd G5 t6 (.tup [])) t6 = some (.tup []) := upd_same
  generalize upd G5 t6 (.tup []) = G6 at s6 h6 ⊢
  refine ⟨_, _, dp_same s6 _ _ hp5', .tup (.inl (.inl h6)) .nil, shaped_ints _, rfl, _, rfl, ?_⟩
  have s06 := s05.trans s6
  have ha6 := s06 _ _ ha
  have sp6 := hs.same s06
  cases cs with
  | nil =>
    rw [show (!PyData.eqv (.tuple (([] : List Int).map PyData.int)) (.tuple [])) = false from by decide +kernel]
    refine iteF ?_
    exact last _ _ pL _ G6 (Old.same s06) sp6 (s6 _ _ h5) npL (by show 1 ≤ 6; decide) (by show 6 ≤ 1000; decide) fun y hy H' o => good1 y hy H' ((Old.same s6).trans o)
  | cons c r =>
    rw [show (!PyData.eqv (.tuple ((c :: r).map PyData.int)) (.tuple [])) = true from by simp [PyData.eqv, PyData.eqvAll]]
    refine iteT ?_
    have hp6 := s06 _ _ hp
    refine ⟨_, rfl, _, rfl, p, (c :: r).map V.int, rfl, .inr (.inl (.inl hp6)), a, _, rfl, sp6, (by rw [List.length_map, List.length_cons]; omega), (by rw [List.length_map]; exact Nat.lt_of_le_of_lt (show _ ≤ 1000 by omega) (by decide +kernel)), fun v H7 v0 v1 o7 sp7 => ?_⟩
    rw [List.length_map] at v1
    obtain ⟨j, rfl⟩ := Int.eq_ofNat_of_zero_le v0
    have hp7 := o7 _ _ hp6 np
    refine ⟨_, rfl, (by show 1 ≤ sizeLine; decide), fun t7 nt7 => ?_⟩
    have s7 := same_upd nt7 (o := HO.tup [.int 1])
    have h7 : (upd H7 t7 (.tup [.int 1])) t7 = some (.tup [.int 1]) := upd_same
    generalize upd H7 t7 (.tup [.int 1]) = G7 at s7 h7 ⊢
    refine ⟨(by show 1 ≤ sizeLine; decide), fun l8 nl8 => ?_⟩
    have s8 := same_upd nl8 (o := HO.lst [.int 2])
    have h8 : (upd G7 l8 (.lst [.int 2])) l8 = some (.lst [.int 2]) := upd_same
    generalize upd G7 l8 (.lst [.int 2]) = G8 at s8 h8 ⊢
    refine ⟨(by show 5 ≤ sizeLine; decide), fun L9 nL9 => ?_⟩
    have s9 := same_upd nL9 (o := HO.lst [.non, .bl true, .str "1", .ref t7, .ref l8])
    have h9 : (upd G8 L9 (.lst [.non, .bl true, .str "1", .ref t7, .ref l8])) L9 = some (.lst [.non, .bl true, .str "1", .ref t7, .ref l8]) := upd_same
    generalize upd G8 L9 (.lst [.non, .bl true, .str "1", .ref t7, .ref l8]) = G9 at s9 h9 ⊢
    have s79 := s7.trans (s8.trans s9)
    have sp9 := sp7.same s79
    have nt7a : t7 ≠ a := fun z => sp7.ne nt7 z.symm
    have nl8a : l8 ≠ a := fun z => (sp7.same s7).ne nl8 z.symm
    have nL9a : L9 ≠ a := fun z => (sp7.same (s7.trans s8)).ne nL9 z.symm
    refine ⟨a, L9, _, rfl, sp9, h9, Ne.symm nL9a, by show 1 ≤ 5; decide, by show 5 ≤ 1000; decide, fun i x H10 hx o10 sp10 => ?_⟩
    have odd : ∀ H', Old a H10 H' → NotNum K H' x := by
      have hm := List.mem_of_getElem? hx
      simp only [List.mem_cons, List.not_mem_nil, or_false] at hm
      have h710 := o10 _ _ ((s8.trans s9) _ _ h7) nt7a
      have h810 := o10 _ _ (s9 _ _ h8) nl8a
      rcases hm with rfl | rfl | rfl | rfl | rfl
      · exact fun H' o => ⟨.inr ⟨.type "NoneType", .base .non, kit_ty (by decide +kernel)⟩, .type "NoneType", .base .non, kN_non T⟩
      · exact fun H' o => ⟨.inl ⟨_, rfl⟩, .type "bool", .base (.bl _), kN_bl T⟩
      · exact fun H' o => ⟨.inr ⟨.type "str", .base (.str _), kit_ty (by decide +kernel)⟩, .type "str", .base (.str _), kN_str T⟩
      · exact fun H' o => ⟨.inr ⟨.type "tuple", .base (.tup (o _ _ h710 nt7a)), kit_ty (by decide +kernel)⟩, .type "tuple", .base (.tup (o _ _ h710 nt7a)), kN_tup T⟩
      · exact fun H' o => ⟨.inr ⟨.type "list", .base (.lst (o _ _ h810 nl8a)), kit_ty (by decide +kernel)⟩, .type "list", .base (.lst (o _ _ h810 nl8a)), kN_lst T⟩
    have o610 : Old a G6 H10 := o7.trans ((Old.same s79).trans o10)
    have hp10 := o610 _ _ hp6 np
    refine ⟨_, rfl, _, rfl, _, rfl, ?_⟩
    dsimp only [tNoPart]
    refine slice_tup hp10 fun p11 H11 s11 h11 => ?_
    rw [show cutV ((c :: r).map V.int) (some (1 : Int)) none = ((c :: r).map V.int).drop 1 from cut1 _ 1] at h11
    have hp11 := s11 _ _ hp10
    refine ⟨_, rfl, _, rfl, _, rfl, ?_⟩
    dsimp only [tNoPart]
    refine slice_tup hp11 fun p12 H12 s12 h12 => ?_
    rw [cut0] at h12
    have hp12 := s12 _ _ hp11
    refine ⟨_, rfl, (by show 1 ≤ sizeLine; decide), fun t13 nt13 => ?_⟩
    have s13 := same_upd nt13 (o := HO.tup [x])
    have h13 : (upd H12 t13 (.tup [x])) t13 = some (.tup [x]) := upd_same
    generalize upd H12 t13 (.tup [x]) = G13 at s13 h13 ⊢
    have lr : ((c :: r).map V.int).length = r.length + 1 := by rw [List.length_map]; rfl
    have rz : r.length ≤ 999 := by simpa using hz
    refine cat_tup (s13 _ _ h12) h13 (by rw [List.length_take, lr]; show _ + 1 ≤ _; omega) fun p14 H14 s14 h14 => ?_
    have hp14 := s14 _ _ (s13 _ _ hp12)
    refine ⟨_, rfl, _, rfl, _, _, rfl, rfl, _, rfl, ?_⟩
    dsimp only [tNoPart]
    refine slice_tup hp14 fun p15 H15 s15 h15 => ?_
    rw [show cutV ((c :: r).map V.int) (some ((j : Int) + 1)) none = ((c :: r).map V.int).drop (j + 1) from cut1 _ (j + 1)] at h15
    refine cat_tup (s15 _ _ h14) h15 (by rw [List.length_append, List.length_take, List.length_drop, lr]; show _ + 1 + _ ≤ _; omega) fun p16 H16 s16 h16 => ?_
    refine ⟨(by show 2 ≤ sizeLine; decide), fun l17 nl17 => ?_⟩
    have s17 := same_upd nl17 (o := HO.lst [V.ref p11, .ref p16])
    have h17 : (upd H16 l17 (.lst [V.ref p11, .ref p16])) l17 = some (.lst [V.ref p11, .ref p16]) := upd_same
    generalize upd H16 l17 (.lst [V.ref p11, .ref p16]) = G17 at s17 h17 ⊢
    refine ⟨l17, 3, _, rfl, rfl, h17, by decide, by decide, (by show 2 * 3 ≤ sizeLine; decide), fun l18 nl18 => ?_⟩
    have s18 := same_upd nl18 (o := HO.lst (List.replicate (3 : Int).toNat [V.ref p11, .ref p16]).flatten)
    have h18 : (upd G17 l18 (.lst (List.replicate (3 : Int).toNat [V.ref p11, .ref p16]).flatten)) l18 = some (.lst [V.ref p11, .ref p16, .ref p11, .ref p16, .ref p11, .ref p16]) := upd_same
    generalize upd G17 l18 (.lst (List.replicate (3 : Int).toNat [V.ref p11, .ref p16]).flatten) = G18 at s18 h18 ⊢
    have t17 := s17.trans s18
    have t16 := s16.trans t17
    have t15 := s15.trans t16
    have t14 := s14.trans t15
    have t13 := s13.trans t14
    have t12 := s12.trans t13
    have t11 := s11.trans t12
    have h5_6 := s6 _ _ h5
    have h5_10 := o610 _ _ h5_6 npL
    refine ⟨pL, l18, _, _, rfl, rfl, t11 _ _ h5_10, h18, (by show 6 + 6 ≤ sizeLine; decide), fun l19 nl19 => ?_⟩
    have s19 := same_upd nl19 (o := HO.lst ([V.ref l1, .non, .str "", .int 5, .ref p2, .ref p4] ++ [V.ref p11, .ref p16, .ref p11, .ref p16, .ref p11, .ref p16]))
    have h19 : (upd G18 l19 (.lst ([V.ref l1, .non, .str "", .int 5, .ref p2, .ref p4] ++ [V.ref p11, .ref p16, .ref p11, .ref p16, .ref p11, .ref p16]))) l19 = some (.lst ([V.ref l1, .non, .str "", .int 5, .ref p2, .ref p4] ++ [V.ref p11, .ref p16, .ref p11, .ref p16, .ref p11, .ref p16])) := upd_same
    generalize upd G18 l19 (.lst ([V.ref l1, .non, .str "", .int 5, .ref p2, .ref p4] ++ [V.ref p11, .ref p16, .ref p11, .ref p16, .ref p11, .ref p16])) = G19 at s19 h19 ⊢
    have s1019 := t11.trans s19
    have nl19a : l19 ≠ a := fun z => (sp10.same t11).ne nl19 z.symm
    have np11 : p11 ≠ a := fun z => by
      obtain ⟨d, e, c', hh, _⟩ := sp10
      rw [z, s11 _ _ hh] at h11
      cases h11
    have h11e := (t12.trans s19) _ _ h11
    have h16e := (t17.trans s19) _ _ h16
    have np16 : p16 ≠ a := fun z => by
      obtain ⟨d, e, c', hh, _⟩ := sp10.same s1019
      rw [z, hh] at h16e
      cases h16e
    refine last _ _ l19 _ G19 ((Old.same s06).trans (o610.trans (Old.same s1019))) (sp10.same s1019) h19 nl19a (by show 1 ≤ 12; decide) (by show 12 ≤ 1000; decide) fun y hy H' o => ?_
    rcases List.mem_append.mp hy with hy | hy
    · exact good1 y hy H' ((Old.same s6).trans (o610.trans ((Old.same s1019).trans o)))
    have lc : (c :: r).length = r.length + 1 := rfl
    simp only [List.mem_cons, List.not_mem_nil, or_false] at hy
    have b11 : BadRow K H' (.ref p11) (c :: r).length := .inr ⟨p11, _, rfl, o _ _ h11e np11, .inl (by rw [List.length_drop, lr, lc]; omega)⟩
    have b16 : BadRow K H' (.ref p16) (c :: r).length := by
      refine .inr ⟨p16, _, rfl, o _ _ h16e np16, .inr ⟨(List.replicate (r.length + 1) true).take j ++ [false] ++ (List.replicate (r.length + 1) true).drop (j + 1), ?_, ?_⟩⟩
      · have ai := smp_ints (K := K) (H := H') (c :: r)
        have nn : Smp K H' x false := odd H' ((Old.same s1019).trans o)
        exact ((all2_take ai j).app (All2.cons nn All2.nil)).app (all2_drop ai (j + 1))
      · rw [List.all_append, List.all_append]
        simp
    rcases hy with rfl | rfl | rfl | rfl | rfl | rfl
    · exact b11
    · exact b16
    · exact b11
    · exact b16
    · exact b11
    · exact b16
end
end K54

namespace K54
open PySem PySem.Spec PyProof.Rows L2 Hk NumM NumT SX Hz
/-- how often a signal stood before a tick -/
def seenN (r : Nat × Nat) (per : Nat) : Nat → Nat
  | 0 => 0
  | t + 1 => seenN r per t + if stand r per t = true then 1 else 0
theorem ceil_succ (t M : Nat) (h : 1 ≤ M) : (t + 1 + M - 1) / M = (t + M - 1) / M + if t % M = 0 then 1 else 0 := by
  have e0 : (t + 1 + M - 1) / M = t / M + 1 := by
    rw [show t + 1 + M - 1 = t + M by omega, Nat.add_div_right _ h]
  rw [e0]
  have h1 := Nat.div_add_mod t M
  have h2 := Nat.mod_lt t h
  by_cases c : t % M = 0
  · rw [if_pos c]
    have e : t + M - 1 = (M - 1) + M * (t / M) := by omega
    rw [e, Nat.add_mul_div_left _ _ h, Nat.div_eq_of_lt (show M - 1 < M by omega)]
    omega
  · rw [if_neg c]
    have e : t + M - 1 = (t % M - 1) + M * (t / M + 1) := by
      rw [Nat.mul_add, Nat.mul_one]
      omega
    rw [e, Nat.add_mul_div_left _ _ h, Nat.div_eq_of_lt (show t % M - 1 < M by omega)]
    omega
/-- between two samples of a signal -/
theorem stand_mul {r : Nat × Nat} {m t : Nat} (o : ROk r) (hm : 1 ≤ m) : stand r (r.1 * m) t = decide (t % (m * r.2) = 0) := by
  unfold stand
  have o1 := o.t1
  have e : t * r.1 % (r.1 * m * r.2) = r.1 * (t % (m * r.2)) := by
    rw [Nat.mul_comm t r.1, Nat.mul_assoc, Nat.mul_mod_mul_left]
  rw [e]
  by_cases c : t % (m * r.2) = 0
  · rw [c, Nat.mul_zero]
  · rw [decide_eq_false c, decide_eq_false]
    intro z
    rcases Nat.mul_eq_zero.mp z with z | z
    · omega
    · exact c z
theorem seen_eq {r : Nat × Nat} {m : Nat} (o : ROk r) (hm : 1 ≤ m) : ∀ t, seenN r (r.1 * m) t = (t + m * r.2 - 1) / (m * r.2)
  | 0 => by
    have : 1 ≤ m * r.2 := Nat.mul_pos hm o.b1
    rw [seenN, Nat.div_eq_of_lt (by omega)]
  | t + 1 => by
    have h : 1 ≤ m * r.2 := Nat.mul_pos hm o.b1
    rw [seenN, seen_eq o hm t, ceil_succ t _ h, stand_mul o hm]
    by_cases c : t % (m * r.2) = 0
    · rw [if_pos c, if_pos (by rw [c]; rfl)]
    · rw [if_neg c, if_neg (by rw [decide_eq_false c]; decide)]
/-- the sample that is read at a tick -/
theorem seen_idx {r : Nat × Nat} {per t : Nat} (o : ROk r) (p1 : 1 ≤ per) (hd : r.1 ∣ per) (h : stand r per t = true) : seenN r per t = idx r per t := by
  obtain ⟨m, rfl⟩ := hd
  have o1 := o.t1
  have hm : 1 ≤ m := by
    rcases Nat.eq_zero_or_pos m with z | z
    · rw [z] at p1; omega
    · exact z
  have hM : 1 ≤ m * r.2 := Nat.mul_pos hm o.b1
  rw [seen_eq o hm]
  rw [stand_mul o hm] at h
  have h := of_decide_eq_true h
  unfold idx
  rw [Nat.mul_comm t r.1, Nat.mul_assoc r.1 m r.2, Nat.mul_div_mul_left _ _ (by omega)]
  have h1 := Nat.div_add_mod t (m * r.2)
  rw [h] at h1
  have e : t + m * r.2 - 1 = (m * r.2 - 1) + (m * r.2) * (t / (m * r.2)) := by omega
  rw [e, Nat.add_mul_div_left _ _ hM, Nat.div_eq_of_lt (show m * r.2 - 1 < m * r.2 by omega), Nat.zero_add]
/-- as many samples as stand below a time -/
theorem seen_cnt {r : Nat × Nat} {per u : Nat} (o : ROk r) (p1 : 1 ≤ per) (hd : r.1 ∣ per) : seenN r per (u * per) = cnt r u := by
  obtain ⟨m, rfl⟩ := hd
  have o1 := o.t1
  have hm : 1 ≤ m := by
    rcases Nat.eq_zero_or_pos m with z | z
    · rw [z] at p1; omega
    · exact z
  have hM : 1 ≤ m * r.2 := Nat.mul_pos hm o.b1
  rw [seen_eq o hm]
  unfold cnt
  have e1 : u * (r.1 * m) + m * r.2 - 1 = m * (u * r.1 + r.2 - 1) + (m - 1) := by
    have h1 := o.b1
    have : m * (u * r.1 + r.2 - 1) = m * (u * r.1) + m * r.2 - m := by rw [Nat.mul_sub, Nat.mul_add, Nat.mul_one]
    have h2 : m * 1 ≤ m * r.2 := Nat.mul_le_mul_left m h1
    have e : u * (r.1 * m) = m * (u * r.1) := by rw [← Nat.mul_assoc, Nat.mul_comm]
    rw [this, e]
    omega
  rw [e1, Nat.mul_comm m r.2, ← Nat.div_div_eq_div_mul, Nat.div_div_eq_div_mul, Nat.mul_comm r.2 m, ← Nat.div_div_eq_div_mul, Nat.mul_add_div hm, Nat.div_eq_of_lt (show m - 1 < m by omega), Nat.add_zero]
theorem seen_le (r : Nat × Nat) (per : Nat) : ∀ t, seenN r per t ≤ t
  | 0 => Nat.le_refl 0
  | t + 1 => by
    have := seen_le r per t
    rw [seenN]
    split <;> omega
end K54

namespace K54
open PySem PySem.Spec PyProof.Rows L2 Hk NumM NumT SX Hz
/-! shorter runs -/
theorem dueN_nodup (rs : Rts) (per t : Nat) : ∀ n, (dueN rs per t n).Nodup
  | 0 => List.nodup_nil
  | n + 1 => by
    rw [dueN]
    refine List.nodup_append.mpr ⟨dueN_nodup rs per t n, ?_, fun a ha b hb => ?_⟩
    · split
      · split <;> simp
      · simp
    · have h1 := (dueN_lt rs per t n a ha).1
      split at hb
      · split at hb
        · rw [List.mem_singleton.mp hb]; omega
        · cases hb
      · cases hb
theorem dueN_mem {rs : Rts} {per t i : Nat} {r : Nat × Nat} (hr : rs[i]? = some r) (hs : stand r per t = true) : ∀ n, i < n → i ∈ dueN rs per t n
  | 0, h => absurd h (by omega)
  | n + 1, h => by
    rw [dueN]
    by_cases c : i < n
    · exact List.mem_append_left _ (dueN_mem hr hs n c)
    · have e : i = n := by omega
      subst e
      refine List.mem_append_right _ ?_
      rw [hr]
      dsimp only
      rw [if_pos hs]
      simp
theorem due_mem {rs : Rts} {per t i : Nat} {r : Nat × Nat} (hr : rs[i]? = some r) : i ∈ dueL rs per t ↔ stand r per t = true := by
  constructor
  · intro h
    obtain ⟨_, r', h1, h2⟩ := dueN_lt rs per t _ i h
    rw [hr] at h1
    cases h1
    exact h2
  · intro h
    exact dueN_mem hr h _ (List.getElem?_eq_some_iff.mp hr).1
theorem putAll_get (is : List Nat) : ∀ (o : List (List Rat)) (vs : List Rat) (i : Nat) (l : List Rat), is.Nodup → is.length ≤ vs.length → o[i]? = some l → ∃ e, (putAll o is vs)[i]? = some (l ++ e) ∧ e.length = (if i ∈ is then 1 else 0) ∧ ∀ q ∈ e, q ∈ vs := by
  induction is with
  | nil => intro o vs i l _ _ h; exact ⟨[], by rw [List.append_nil]; cases vs <;> exact h, rfl, fun q h => nomatch h⟩
  | cons j is ih =>
    intro o vs i l nd hl h
    cases vs with
    | nil => exact absurd hl (by simp)
    | cons v vs =>
      obtain ⟨nj, nd'⟩ := List.nodup_cons.mp nd
      by_cases c : j = i
      · subst c
        have h' : (o.modify j fun l => l ++ [v])[j]? = some (l ++ [v]) := by rw [List.getElem?_modify, h]; simp
        obtain ⟨e, h1, h2, h3⟩ := ih _ vs j _ nd' (by simpa using hl) h'
        rw [if_neg nj] at h2
        have e0 : e = [] := List.length_eq_zero_iff.mp h2
        subst e0
        refine ⟨[v], by rw [List.append_nil] at h1; exact h1, by rw [if_pos (by simp)]; rfl, fun q hq => by rw [List.mem_singleton.mp hq]; simp⟩
      · have h' : (o.modify j fun l => l ++ [v])[i]? = some l := by rw [List.getElem?_modify, h]; simp [c]
        obtain ⟨e, h1, h2, h3⟩ := ih _ vs i _ nd' (by simpa using hl) h'
        refine ⟨e, h1, ?_, fun q hq => List.mem_cons_of_mem _ (h3 q hq)⟩
        rw [h2]
        have : (i ∈ j :: is) ↔ i ∈ is := by simp [Ne.symm c]
        simp only [this]
variable {m : Mac}
theorem Wf.vals_len (w : Wf m) (rows : List (List Rat)) (t : Nat) : (m.vals rows t).length = (dueL m.outs m.per t).length := by
  have e2 : (m.tab t 2).length = (dueL m.outs m.per t).length := by rw [← m.tab_mod, w.h2 _ (w.lt t), w.dueO]
  have e3 : (m.tab t 3).length = (dueL m.outs m.per t).length := by rw [← m.tab_mod, w.h3 _ (w.lt t), w.dueO]
  unfold Mac.vals
  rw [stepV_len, e2, e3, Nat.min_self]
theorem Wf.step (w : Wf m) (rows : List (List Rat)) (t : Nat) {i : Nat} {l : List Rat} {r : Nat × Nat} (h : (m.shown rows t)[i]? = some l) (hr : m.outs[i]? = some r) : ∃ e, (m.shown rows (t + 1))[i]? = some (l ++ e) ∧ e.length = (if stand r m.per t = true then 1 else 0) ∧ ∀ q ∈ e, q ∈ m.vals rows t := by
  obtain ⟨e, h1, h2, h3⟩ := putAll_get (dueL m.outs m.per t) (m.shown rows t) (m.vals rows t) i l (dueN_nodup _ _ _ _) (by rw [w.vals_len]; exact Nat.le_refl _) h
  refine ⟨e, h1, ?_, h3⟩
  rw [h2]
  simp only [due_mem hr]
theorem Wf.more (w : Wf m) (rows : List (List Rat)) (t : Nat) {i : Nat} {l : List Rat} {r : Nat × Nat} (h : (m.shown rows t)[i]? = some l) (hr : m.outs[i]? = some r) : ∀ d, ∃ e, (m.shown rows (t + d))[i]? = some (l ++ e)
  | 0 => ⟨[], by rw [List.append_nil]; exact h⟩
  | d + 1 => by
    obtain ⟨e, h1⟩ := w.more rows t h hr d
    obtain ⟨e2, h2, _⟩ := w.step rows (t + d) h1 hr
    exact ⟨e ++ e2, by rw [← List.append_assoc]; exact h2⟩
theorem Wf.len (w : Wf m) (rows : List (List Rat)) {i : Nat} {r : Nat × Nat} (hr : m.outs[i]? = some r) : ∀ t, ∃ l, (m.shown rows t)[i]? = some l ∧ l.length = seenN r m.per t
  | 0 => by
    refine ⟨[], ?_, rfl⟩
    unfold Mac.shown
    rw [List.getElem?_map, hr]
    rfl
  | t + 1 => by
    obtain ⟨l, h1, h2⟩ := w.len rows hr t
    obtain ⟨e, h3, h4, _⟩ := w.step rows t h1 hr
    exact ⟨l ++ e, h3, by rw [List.length_append, h2, h4, seenN]⟩
/-- a shorter run shows the beginnings -/
theorem Wf.begin (w : Wf m) (rows : List (List Rat)) {t T i : Nat} (h : t ≤ T) {r : Nat × Nat} {l : List Rat} (hr : m.outs[i]? = some r) (hl : (m.shown rows T)[i]? = some l) : (m.shown rows t)[i]? = some (l.take (seenN r m.per t)) := by
  obtain ⟨l0, h1, h2⟩ := w.len rows hr t
  obtain ⟨e, h3⟩ := w.more rows t h1 hr (T - t)
  rw [show t + (T - t) = T by omega, hl] at h3
  cases h3
  rw [h1, ← h2, List.take_left]
/-- the samples of a shorter time -/
def cutRows (m : Mac) (rows : List (List Rat)) (s : Nat) : List (List Rat) := List.zipWith (fun l r => l.take (cnt r s)) rows m.ins
theorem cut_get {rows : List (List Rat)} {s i : Nat} {l : List Rat} {r : Nat × Nat} (hl : rows[i]? = some l) (hr : m.ins[i]? = some r) : (cutRows m rows s)[i]? = some (l.take (cnt r s)) := by
  unfold cutRows
  rw [List.getElem?_zipWith, hl, hr]
theorem cnt_mono {r : Nat × Nat} {s u : Nat} (h : s ≤ u) : cnt r s ≤ cnt r u := by
  unfold cnt
  refine Nat.div_le_div_right ?_
  have := Nat.mul_le_mul_right r.1 h
  omega
theorem cut_ok {rows : List (List Rat)} {s u : Nat} (h : s ≤ u) (ro : RowsOk m rows u) : RowsOk m (cutRows m rows s) s where
  len := by unfold cutRows; rw [List.length_zipWith, ro.len, Nat.min_self]
  cnt := fun i l q h1 h2 => by
    have li := (List.getElem?_eq_some_iff.mp h2).1
    have e : rows[i]? = some (rows[i]'(by rw [ro.len]; exact li)) := List.getElem?_eq_getElem _
    rw [cut_get e h2] at h1
    cases h1
    rw [List.length_take, ro.cnt i _ q e h2]
    have := cnt_mono (r := q) h
    omega
  bnd := fun l hl q hq => by
    obtain ⟨i, hi⟩ := List.mem_iff_getElem?.mp hl
    unfold cutRows at hi
    rw [List.getElem?_zipWith] at hi
    cases e : rows[i]? with
    | none => rw [e] at hi; simp at hi
    | some x =>
      cases e2 : m.ins[i]? with
      | none => rw [e, e2] at hi; simp at hi
      | some r =>
        rw [e, e2] at hi
        cases hi
        exact ro.bnd x (List.mem_of_getElem? e) q (List.mem_of_mem_take hq)
theorem rd_cut (w : Wf m) {rows : List (List Rat)} {s u t : Nat} (h : s ≤ u) (ro : RowsOk m rows u) (ht : t < s * m.per) : m.rd (cutRows m rows s) t = m.rd rows t := by
  unfold Mac.rd
  refine List.map_congr_left fun i hi => ?_
  obtain ⟨_, r, hr, hs⟩ := dueN_lt _ _ _ _ i hi
  have li := (List.getElem?_eq_some_iff.mp hr).1
  have e : rows[i]? = some (rows[i]'(by rw [ro.len]; exact li)) := List.getElem?_eq_getElem _
  have o := w.okI r (List.mem_of_getElem? hr)
  have il := idx_lt o w.p1 hs ht
  have er : rateAt m.ins i = r := by unfold rateAt; rw [List.getD_eq_getElem?_getD, hr]; rfl
  rw [er, List.getD_eq_getElem?_getD (l := cutRows m rows s), cut_get e hr, Option.getD_some, List.getD_eq_getElem?_getD (l := rows), e, Option.getD_some, List.getD_eq_getElem?_getD, List.getD_eq_getElem?_getD, List.getElem?_take, if_pos il]
theorem kept_cut (w : Wf m) {rows : List (List Rat)} {s u : Nat} (h : s ≤ u) (ro : RowsOk m rows u) : ∀ t, t ≤ s * m.per → m.kept (cutRows m rows s) t = m.kept rows t
  | 0, _ => rfl
  | t + 1, ht => by rw [Mac.kept, Mac.kept, kept_cut w h ro t (by omega), rd_cut w h ro (by omega)]
theorem shown_cut (w : Wf m) {rows : List (List Rat)} {s u : Nat} (h : s ≤ u) (ro : RowsOk m rows u) : ∀ t, t ≤ s * m.per → m.shown (cutRows m rows s) t = m.shown rows t
  | 0, _ => rfl
  | t + 1, ht => by
    rw [Mac.shown, Mac.shown, shown_cut w h ro t (by omega)]
    unfold Mac.vals
    rw [kept_cut w h ro t (by omega), rd_cut w h ro (by omega)]
theorem Wf.outs_dv {r : Nat × Nat} (h : r ∈ m.outs) : r.1 ∣ m.per := Wf.top_dv (List.mem_append_right _ h)
/-- what the shorter run shows -/
theorem short_get (w : Wf m) {rows : List (List Rat)} {s u i : Nat} (h : s ≤ u) (ro : RowsOk m rows u) {r : Nat × Nat} {l : List Rat} (hr : m.outs[i]? = some r) (hl : (m.shown rows (u * m.per))[i]? = some l) : (m.shown (cutRows m rows s) (s * m.per))[i]? = some (l.take (cnt r s)) := by
  rw [shown_cut w h ro _ (Nat.le_refl _), w.begin rows (Nat.mul_le_mul_right _ h) hr hl, seen_cnt (w.okO r (List.mem_of_getElem? hr)) w.p1 (Wf.outs_dv (List.mem_of_getElem? hr))]
/-- all that is shown is small -/
theorem shown_sm (w : Wf m) {rows : List (List Rat)} (hb : RowsB rows) : ∀ t, t ≤ 54 → ∀ l ∈ m.shown rows t, ∀ q ∈ l, SmQ q
  | 0, _ => fun l hl => by
    unfold Mac.shown at hl
    obtain ⟨_, _, rfl⟩ := List.mem_map.mp hl
    exact fun q h => nomatch h
  | t + 1, ht => fun l hl q hq => by
    obtain ⟨i, hi⟩ := List.mem_iff_getElem?.mp hl
    have li := (List.getElem?_eq_some_iff.mp hi).1
    rw [m.shown_len] at li
    have hr : m.outs[i]? = some (m.outs[i]'li) := List.getElem?_eq_getElem _
    obtain ⟨l0, h1, _⟩ := w.len rows hr t
    obtain ⟨e, h2, _, h3⟩ := w.step rows t h1 hr
    rw [hi] at h2
    cases h2
    rcases List.mem_append.mp hq with h | h
    · exact shown_sm w hb t (by omega) l0 (List.mem_of_getElem? h1) q h
    · have hB := bK_sm (t := t + 1) (by omega)
      exact Bnd.smq (w.vals_bnd hb t q (h3 q h)) (dK_pos _) hB.2 hB.1
end K54

namespace K54
open PySem PySem.Spec PyProof.Rows L2 Hk NumM NumT SX Hz L2H LamX
/-! what stands wherever a and the tables have changed -/
def Kp (a : Addr) (H H' : Hp) : Prop := ∀ b o, H b = some o → b ≠ a → (∀ ps, o ≠ .tbl ps) → H' b = some o
theorem Kp.trans {a : Addr} {H H1 H2 : Hp} (x : Kp a H H1) (y : Kp a H1 H2) : Kp a H H2 := fun b o h n t => y b o (x b o h n t) n t
theorem Kp.old {a : Addr} {H H' : Hp} (o : Old a H H') : Kp a H H' := fun b u h n _ => o b u h n
theorem Kp.ext {a : Addr} {H H' : Hp} (e : ExtN H H') : Kp a H H' := fun b u h _ t => e b u h t
theorem Kp.same {a : Addr} {H H' : Hp} (s : Same H H') : Kp a H H' := fun b u h _ _ => s b u h
/-- relations that lists and tables do not touch -/
def Ext {β : Type} (R : Hp → V → β → Prop) : Prop := ∀ H H' v b, ExtN H H' → R H v b → R H' v b
theorem Ext.tup {β : Type} {R : Hp → V → β → Prop} (h : Ext R) : Ext (TupOf R) := fun H H' v bs e ⟨p, xs, ev, hp, al⟩ => ⟨p, xs, ev, e _ _ hp (fun ps z => nomatch z), al.mono fun x b r => h H H' x b e r⟩
theorem ext_num {K : Fr} : Ext (NumV K) := fun H H' v b s ⟨p, e, ⟨dx, hp⟩, c, d⟩ => ⟨p, e, ⟨dx, s _ _ hp (fun ps z => nomatch z)⟩, c, d⟩
theorem ext_opd {K : Fr} : Ext (OpdQ K) := fun H H' v b s h => by
  rcases h with ⟨p, e, ⟨dx, hp⟩, c, d⟩ | h
  · exact .inl ⟨p, e, ⟨dx, s _ _ hp (fun ps z => nomatch z)⟩, c, d⟩
  · exact .inr h
theorem ext_rate : Ext RateAt := fun H H' v b s ⟨p, e, hp⟩ => ⟨p, e, s _ _ hp (fun ps z => nomatch z)⟩
theorem MachAt.ext {K : Fr} {H H' : Hp} {p : Addr} {m : Mac} (h : MachAt K H p m) (s : ExtN H H') : MachAt K H' p m := by
  obtain ⟨dx, fs, hp, a, b, e, c, d, xa, xb, xe, rfl, ha, ra, hb, rb, he, ae, hc⟩ := h
  refine ⟨dx, _, s _ _ hp (fun ps z => nomatch z), a, b, e, c, d, xa, xb, xe, rfl, s _ _ ha (fun ps z => nomatch z), ra.mono fun x r q => ext_rate _ _ _ _ s q, s _ _ hb (fun ps z => nomatch z), rb.mono fun x r q => ext_rate _ _ _ _ s q, s _ _ he (fun ps z => nomatch z), ae, ?_⟩
  exact ext_num.tup.tup.tup.tup _ _ _ _ s hc
theorem tyo_ext {K : Fr} {H H' : Hp} {y : V} {ty : Value} (s : ExtN H H') (h : TyOf K H y ty) : TyOf K H' y ty := by
  cases h with
  | lst e => exact .lst (s _ _ e (fun ps z => nomatch z))
  | frz e => exact .frz (s _ _ e (fun ps z => nomatch z))
  | tup e => exact .tup (s _ _ e (fun ps z => nomatch z))
  | dK e => exact .dK (s _ _ e (fun ps z => nomatch z))
  | dT e => exact .dT (s _ _ e (fun ps z => nomatch z))
  | ins e c1 c2 c3 c4 c5 => exact .ins (s _ _ e (fun ps z => nomatch z)) c1 c2 c3 c4 c5
  | _ => constructor
theorem tyx_ext {K : Fr} {H H' : Hp} {y : V} {ty : Value} (s : ExtN H H') (h : TyX K H y ty) : TyX K H' y ty := by
  cases h with
  | base e => exact .base (tyo_ext s e)
  | byt b => exact .byt b
  | set e => exact .set (s _ _ e (fun ps z => nomatch z))
  | kList e c => exact .kList e c
  | kTuple e c => exact .kTuple e c
  | kDict e c => exact .kDict e c
  | fTuple e => exact .fTuple (s _ _ e (fun ps z => nomatch z))
  | fDict e => exact .fDict (s _ _ e (fun ps z => nomatch z))
theorem NotInt.ext {K : Fr} {H H' : Hp} {x : V} (h : NotInt K H x) (s : ExtN H H') : NotInt K H' x := by
  rcases h with h | ⟨ty, h1, h2⟩
  · exact .inl h
  · exact .inr ⟨ty, tyx_ext s h1, h2⟩
theorem Smp.ext {K : Fr} {H H' : Hp} {x : V} {b : Bool} (h : Smp K H x b) (s : ExtN H H') : Smp K H' x b := by
  unfold Smp at h ⊢
  split at h
  · rename_i e
    rw [if_pos e]
    obtain ⟨q, o⟩ := h
    exact ⟨q, ext_opd _ _ _ _ s o⟩
  · rename_i e
    rw [if_neg e]
    obtain ⟨h1, ty, h2, h3⟩ := h
    exact ⟨h1.ext s, ty, tyx_ext s h2, h3⟩
theorem BadRow.ext {K : Fr} {H H' : Hp} {x : V} {n : Nat} (h : BadRow K H x n) (s : ExtN H H') : BadRow K H' x n := by
  rcases h with ⟨ty, h1, h2⟩ | ⟨p, ys, e, hp, h⟩
  · exact .inl ⟨ty, tyx_ext s h1, h2⟩
  · refine .inr ⟨p, ys, e, s _ _ hp (fun ps z => nomatch z), h.imp id fun h => ?_⟩
    obtain ⟨bs, h1, h2⟩ := h
    exact ⟨bs, h1.mono fun _ _ z => z.ext s, h2⟩
/-! the text of a run -/
def nTx (q : Rat) : Str := ("Number(" : Str) ++ S (fL q.num (q.den : Int)) ++ (")" : Str)
def rTx (rows : List (List Rat)) : Str := tupleText ((rows.map (List.map nTx)).map tupleText)
theorem nTx_len {q : Rat} (h : SmQ q) : (nTx q).length ≤ 620 := by
  have hf : (fL q.num (q.den : Int)).length ≤ 610 := f_len h.sz.1 h.sz.2
  unfold nTx
  rw [strLen_append, strLen_append, S_len]
  show 7 + (fL q.num (q.den : Int)).length + 1 ≤ 620
  omega
theorem sum_le {l : List Str} {b n : Nat} (h : ∀ x ∈ l, x.length ≤ b) (hn : l.length ≤ n) : (l.map (·.length)).sum + 2 * l.length ≤ (b + 2) * n := by
  have : (l.map (·.length)).sum + 2 * l.length ≤ (b + 2) * l.length := by
    clear hn
    induction l with
    | nil => simp
    | cons x r ih =>
      have h1 := h x List.mem_cons_self
      have h2 := ih fun y hy => h y (List.mem_cons_of_mem _ hy)
      simp only [List.map_cons, List.sum_cons, List.length_cons, Nat.mul_add]
      omega
  exact Nat.le_trans this (Nat.mul_le_mul_left _ hn)
theorem rTx_len {rows : List (List Rat)} (h6 : rows.length ≤ 6) (h54 : ∀ r ∈ rows, r.length ≤ 54) (hq : ∀ r ∈ rows, ∀ q ∈ r, SmQ q) : (rTx rows).length ≤ sizeLine := by
  have h1 : ∀ x ∈ (rows.map (List.map nTx)).map tupleText, x.length ≤ 40000 := fun x hx => by
    obtain ⟨y, hy, rfl⟩ := List.mem_map.mp hx
    obtain ⟨r, hr, rfl⟩ := List.mem_map.mp hy
    have a := tupleText_len_le (r.map nTx)
    have b := sum_le (l := r.map nTx) (b := 620) (n := 54) (fun z hz => by
      obtain ⟨q, hq', rfl⟩ := List.mem_map.mp hz
      exact nTx_len (hq r hr q hq')) (by rw [List.length_map]; exact h54 r hr)
    omega
  have a := tupleText_len_le ((rows.map (List.map nTx)).map tupleText)
  have b := sum_le h1 (n := 6) (by rw [List.length_map, List.length_map]; exact h6)
  have c : 300000 ≤ sizeLine := by decide
  unfold rTx
  omega
theorem seenN_le (r : Nat × Nat) (per : Nat) : ∀ t, seenN r per t ≤ t
  | 0 => Nat.le_refl _
  | t + 1 => by
    have := seenN_le r per t
    show seenN r per t + (if stand r per t = true then 1 else 0) ≤ t + 1
    split <;> omega
section
variable {P : Program} {w : World} {K : Fr} {mg : Str → Option Value} {base : Heap}
theorem f_repr (T : Tx K mg) : ∃ fd, DAt K d_Number_repr fd ∧ FnOk P w K mg base CX0 4 (d_Number_repr.ad K) fd ["self"] (spGet (CN K) fun t b => .str (("Number(" : Str) ++ S (fL t b) ++ (")" : Str))) := by
  obtain ⟨fd, D⟩ := a_Number_repr T.c
  obtain ⟨fs, Ds, Fs⟩ := f_str (P := P) (w := w) (base := base) T
  have bs : Binds K fs ["self"] [] := FunD.bindsN Ds fun _ _ _ _ _ _ us hl => match us, hl with | [_], _ => rfl
  refine ⟨fd, D, ok_of (N := ["self"]) D sc_Number_repr (fun vs H Q E h => ?_) (fun cdv A outer s H vs Q E hr h => ?_)⟩
  · obtain ⟨p, t, b, rfl, _⟩ := h
    rfl
  · obtain ⟨p, t, b, rfl, N, st, sb, k⟩ := h
    obtain ⟨dx, hp⟩ := id N.at_
    refine ⟨_, (pss_one (ps_ret (pe_joined (.cons pe_str (.cons (pe_fmt (pe_callTy (call_strO (own_ok (f_meth_str T.c)) Fs bs hr) (by rfl) (n_str T) bo_str (pa_cons (pv 0) pa_nil))) (.cons pe_str .nil)))))), ?_⟩
    have l := f_len st sb
    have e1 : Str.empty ++ ("Number(" : Str) = ("Number(" : Str) := by decide +kernel
    have l1 : ("Number(" : Str).length = 7 := by decide +kernel
    have l2 : (")" : Str).length = 1 := by decide +kernel
    have lap : ∀ x y : Str, (x ++ y).length = x.length + y.length := fun x y => by
      show (x.cps ++ y.cps).size = _
      rw [Array.size_append]
      rfl
    refine ⟨_, rfl, ?_, _, rfl, p, dx, _, rfl, hp, p, t, b, rfl, N, st, sb, _, rfl, .inl ⟨_, rfl, ?_, _, rfl, ?_, _, rfl, ?_, ?_⟩⟩
    · rw [e1, l1]
      exact line_ge (by decide)
    · rw [S_len]
      exact line_ge (by omega)
    · rw [e1, lap, l1, S_len]
      exact line_ge (by omega)
    · rw [e1, lap, lap, l1, l2, S_len]
      exact line_ge (by omega)
    · show Q (.str _) H
      rw [e1]
      exact k
abbrev spRep (K : Fr) : Sp := spGet (CN K) fun t b => .str (("Number(" : Str) ++ S (fL t b) ++ (")" : Str))
/-- the text of what a run gives -/
theorem rep_run {m : Mac} {H : Hp} {v : V} {Q : VK} {rows : List (List Rat)} {u : Nat} (W : Wf m) (hb : RowsB rows) (hu : u * m.per ≤ 54) (h : NTab K H v (m.shown rows (u * m.per))) (q : Q (.str (rTx (m.shown rows (u * m.per)))) H) : rTT (CN K) (spRep K) [v] H Q := by
  have lo := m.shown_len rows (u * m.per)
  have o2 := W.o2
  have sm := shown_sm W hb (u * m.per) hu
  have l54 : ∀ r ∈ m.shown rows (u * m.per), r.length ≤ 54 := fun r hr => by
    obtain ⟨i, hi⟩ := List.mem_iff_getElem?.mp hr
    have li := (List.getElem?_eq_some_iff.mp hi).1
    rw [lo] at li
    obtain ⟨l, h1, h2⟩ := W.len rows (List.getElem?_eq_getElem li) (u * m.per)
    rw [hi] at h1
    cases h1
    rw [h2]
    exact Nat.le_trans (seenN_le _ _ _) hu
  generalize m.shown rows (u * m.per) = rs at h q lo sm l54
  obtain ⟨a, ys, rfl, ha, al⟩ := h
  have hz : (rTx rs).length ≤ sizeLine := rTx_len (by omega) l54 sm
  unfold rTx at hz q
  refine ⟨a, ys, rs.map (List.map nTx), rfl, ha, ⟨by rw [List.length_map]; exact al.1, fun i y ts hy ht => ?_⟩, hz, q⟩
  rw [List.getElem?_map] at ht
  obtain ⟨r, hr, rfl⟩ := Option.map_eq_some_iff.mp ht
  obtain ⟨p, zs, rfl, hp, az⟩ := al.2 i y r hy hr
  refine ⟨p, zs, rfl, fun e => ?_, hp, ⟨by rw [List.length_map]; exact az.1, fun j z t hz htt => ?_⟩⟩
  · subst e
    rw [ha] at hp
    cases hp
    obtain ⟨c, hc, ⟨p', e, ⟨dx, hpp⟩, _⟩⟩ := az.at hy
    cases e
    rw [ha] at hpp
    cases hpp
  · rw [List.getElem?_map] at htt
    obtain ⟨c, hc, rfl⟩ := Option.map_eq_some_iff.mp htt
    obtain ⟨p', e, N⟩ := az.2 j z c hz hc
    subst e
    obtain ⟨dx, hpp⟩ := id N.at_
    have s := (sm r (List.mem_of_getElem? hr) c (List.mem_of_getElem? hc)).sz
    exact ⟨p', dx, _, rfl, hpp, p', c.num, (c.den : Int), rfl, N, s.1, s.2, nTx c, rfl, rfl, rfl⟩
/-! what is told of a lambda of _law_right -/
abbrev TR (K : Fr) : List (Addr × Str) := TS.map fun d => (pOf d K, d.ql ++ ".<locals>." ++ "<lambda>")
abbrev LX (P : Program) (w : World) (K : Fr) (mg : Str → Option Value) (base : Heap) (d : Dx) (N : List Str) (A : Around) (outer : List Env) (s : Shared) (H : Hp) (E : XK) : Cx := (cxOf CX0 P w K mg base N d.ql (defScope d.st) (d.ad K) (.ref (cOf d K)) A outer s H E).nox
theorem pe_told {d : Dx} {N : List Str} {i : Nat} {A : Around} {outer : List Env} {s : Shared} {H : Hp} {E0' : XK} {params : Arguments} {body : Expr} {scope : Scope} {t : XK → TE} {p lpos pos : Pos} {ft : FuncData} (T : Tx K mg) (hd : TS[i]? = some d) (TB : TabB base mg (cOf d K) (pOf d K))
    (hr : Room 11 (A.deeper (envOfC d.ql (defScope d.st) s.heap.objs.size (d.ad K) (.ref (cOf d K))))) (hc : Calm (A.deeper (envOfC d.ql (defScope d.st) s.heap.objs.size (d.ad K) (.ref (cOf d K))))) (Dt : DAt K d_l_told ft)
    (L : LamS (defScope d.st) scope) (hdef : defaultsOf params (LX P w K mg base d N A outer s H E0').env = ([], []))
    (hbind : ∀ (q : Str) (cl : List (Str × Addr)) (pm cv ctv : Value), bindArgs (PySem.W.kla_fn "<lambda>" q params body scope cl pm cv ctv) ⟨[], []⟩ = pure [])
    (hbody : ∀ (A' : Around) (outer' : List Env) (s' : Shared) (H' : Hp) (E : XK) (f c' : Addr), Room 9 (A'.deeper (lamEnv (LX P w K mg base d N A outer s H E0') scope s'.heap.objs.size f c')) → PE (lamCxN (LX P w K mg base d N A outer s H E0') A' outer' s' H' E scope f c') body (t E)) (hg : Gl (LX P w K mg base d N A outer s H E0') "_law_told" := by rfl) :
    PE (LX P w K mg base d N A outer s H E0') (.Call (.Name "_law_told" p) [.Lambda params body scope lpos] [] pos) (tLam (TR K) (TTt K) t) := by
  have bt : Binds K ft ["_law_act"] [] := FunD.bindsN Dt fun _ _ _ _ _ _ us hl => match us, hl with | [_], _ => rfl
  have mem : (pOf d K, d.ql ++ ".<locals>." ++ "<lambda>") ∈ TR K := List.mem_map.mpr ⟨d, List.mem_of_getElem? hd, rfl⟩
  have uq : ∀ p ∈ TR K, p.1 = pOf d K → p.2 = d.ql ++ ".<locals>." ++ "<lambda>" := fun p hp e => by
    obtain ⟨d', hd', rfl⟩ := List.mem_map.mp hp
    obtain ⟨j, hj⟩ := List.mem_iff_getElem?.mp hd'
    have ij := tabs_ne (f_ne_tabs T.c) hj hd e
    rw [ij, hd] at hj
    cases hj
    rfl
  exact pe_lamN (X := LX P w K mg base d N A outer s H E0') (T := TR K) (TT := TTt K) (x := "_law_told") (a := "_law_act") (d := d_l_told) (k := 9) (Ng := N_told) (c := cOf d K) (P := pOf d K) hg (g_l_told T) Dt rfl rfl bt sc_l_told rfl (.inl rfl)
    (fun cdv => g_told (P := P) (w := w) (mg := mg) (base := base) T rfl rfl rfl rfl rfl hc _ cdv) TB rfl mem uq hr L hdef hbind hbody
end
end K54

namespace K54
open PySem PySem.Spec PyProof.Rows L2 Hk NumM NumT SX Hz L2H LamX
/-- a row of small integers -/
def IRow (H : Hp) (v : V) (cs : List Int) : Prop := ∃ p, v = .ref p ∧ H p = some (.tup (cs.map V.int))
theorem framed_irow {N : List Addr} : Framed N IRow := fun H H' v b l s ⟨p, e, hp⟩ => ⟨p, e, s _ _ (l.no hp fun _ q => nomatch q) hp⟩
def IV (H : Hp) (v : V) (c : Int) : Prop := v = .int c
theorem framed_iv {N : List Addr} : Framed N IV := fun _ _ _ _ _ _ h => h
theorem all2_iv {H : Hp} : ∀ {us : List V} {cs : List Int}, All2 (IV H) us cs → us = cs.map V.int := fun {us cs} h => by
  refine List.ext_getElem? fun i => ?_
  rw [List.getElem?_map]
  by_cases c : i < us.length
  · have h1 : us[i]? = some (us[i]'c) := List.getElem?_eq_getElem c
    obtain ⟨y, hy, e⟩ := h.at h1
    rw [h1, hy]
    exact congrArg some e
  · rw [List.getElem?_eq_none (by omega), List.getElem?_eq_none (by rw [← h.1]; omega)]
    rfl
theorem irow_row {K : Fr} {H : Hp} {v : V} {cs : List Int} (h : IRow H v cs) : RowAt K H v (cs.map fun c : Int => (c : Rat)) := by
  obtain ⟨p, rfl, hp⟩ := h
  refine ⟨p, _, rfl, hp, by rw [List.length_map, List.length_map], fun i x q h1 h2 => ?_⟩
  rw [List.getElem?_map] at h1 h2
  obtain ⟨c, hc, rfl⟩ := Option.map_eq_some_iff.mp h1
  rw [hc] at h2
  cases h2
  exact .inr ⟨rfl, rfl⟩
theorem bnd_int {c : Int} (h : -4 ≤ c ∧ c ≤ 4) : Bnd 6 66 (c : Rat) := by
  refine ⟨c * 6, ?_, by omega⟩
  have hc : c = -4 ∨ c = -3 ∨ c = -2 ∨ c = -1 ∨ c = 0 ∨ c = 1 ∨ c = 2 ∨ c = 3 ∨ c = 4 := by omega
  rcases hc with rfl | rfl | rfl | rfl | rfl | rfl | rfl | rfl | rfl <;> decide +kernel
/-- all that the lambdas of _law_right speak of -/
structure Fx (K : Fr) (p D B : Addr) (m : Mac) (rows : List (List Rat)) (xs : List V) (u j : Nat) (y yb : V) (z : Str) (H : Hp) : Prop where
  M : MachAt K H p m
  W : Wf m
  hD : H D = some (.lst xs)
  hB : H B = some (.lst (xs.take j ++ [yb] ++ xs.drop (j + 1)))
  al : All2 (RowAt K H) xs rows
  ro : RowsOk m rows u
  i2 : m.ins.length ≤ 2
  u5 : u ≤ 54
  hj : j < xs.length
  bad : ∀ r, m.ins[j]? = some r → BadRow K H yb (cnt r u)
  odd : ∀ H', ExtN H H' → (NotInt K H' y ∨ ∃ n : Int, y = .int n ∧ n < 0) ∧ DShow K H' y z
section
variable {K : Fr} {p D B : Addr} {m : Mac} {rows : List (List Rat)} {xs : List V} {u j : Nat} {y yb : V} {z : Str} {H H' : Hp}
theorem Fx.ext (F : Fx K p D B m rows xs u j y yb z H) (e : ExtN H H') : Fx K p D B m rows xs u j y yb z H' where
  M := F.M.ext e
  W := F.W
  hD := e _ _ F.hD (fun ps z => nomatch z)
  hB := e _ _ F.hB (fun ps z => nomatch z)
  al := F.al.mono fun x b h => ext_opd.tup _ _ _ _ e h
  ro := F.ro
  i2 := F.i2
  u5 := F.u5
  hj := F.hj
  bad := fun r hr => (F.bad r hr).ext e
  odd := fun H2 e2 => F.odd H2 (e.trans e2)
theorem Fx.len (F : Fx K p D B m rows xs u j y yb z H) : xs.length = m.ins.length := by rw [F.al.1, F.ro.len]
theorem Fx.lb (F : Fx K p D B m rows xs u j y yb z H) : (xs.take j ++ [yb] ++ xs.drop (j + 1)).length = m.ins.length := by
  have h := F.len
  have h2 := F.hj
  rw [List.length_append, List.length_append, List.length_take, List.length_drop]
  show min j xs.length + 1 + (xs.length - (j + 1)) = _
  omega
theorem Fx.b1 {E : XK} (F : Fx K p D B m rows xs u j y yb z H) (h : Bad "InvalidCount" "value" K H E y) : RunBad K H E m y (xs.take j ++ [yb] ++ xs.drop (j + 1)) := .inl ⟨(F.odd H (ExtN.refl H)).1, h⟩
theorem Fx.b2 {E : XK} {ws : List V} (F : Fx K p D B m rows xs u j y yb z H) (hw : ws.length ≠ m.ins.length) (h : Bad "InvalidInputs" "index" K H E .non) : RunBad K H E m (.int (u : Int)) ws := .inr ⟨u, rfl, F.u5, .inl ⟨hw, h⟩⟩
theorem Fx.b4 {E : XK} (F : Fx K p D B m rows xs u j y yb z H) (h : Bad "InvalidInputs" "index" K H E (.int (j : Int))) : RunBad K H E m (.int (u : Int)) (xs.take j ++ [yb] ++ xs.drop (j + 1)) := by
  have lx := F.len
  have hj := F.hj
  have lt : (xs.take j).length = j := by rw [List.length_take]; omega
  refine .inr ⟨u, rfl, F.u5, .inr ⟨F.lb, j, yb, m.ins[j]'(by omega), ?_, List.getElem?_eq_getElem _, F.bad _ (List.getElem?_eq_getElem _), fun i v q hi hv hq => ?_, h⟩⟩
  · rw [List.append_assoc, List.getElem?_append_right (by omega), lt, Nat.sub_self]
    rfl
  · rw [List.append_assoc, List.getElem?_append_left (by omega), List.getElem?_take_of_lt hi] at hv
    obtain ⟨r, hr, ra⟩ := F.al.at hv
    exact ⟨r, ra, F.ro.cnt i r q hr hq⟩
theorem Fx.b5 {E : XK} (F : Fx K p D B m rows xs u j y yb z H) (h : Bad "InvalidInputs" "index" K H E (.int ((0 : Nat) : Int))) : RunBad K H E m (.int (u : Int)) (List.replicate xs.length V.non) := by
  have lx := F.len
  have hj := F.hj
  refine .inr ⟨u, rfl, F.u5, .inr ⟨by rw [List.length_replicate, lx], 0, .non, m.ins[0]'(by omega), ?_, List.getElem?_eq_getElem _, .inl ⟨.type "NoneType", .base .non, kit_ty (by decide +kernel)⟩, fun i v q hi _ _ => absurd hi (Nat.not_lt_zero i), h⟩⟩
  rw [List.getElem?_replicate, if_pos (by omega)]
end
theorem ext_put {H H0 H' : Hp} {T : Addr} {o : HO} (e : ExtN H H') (e0 : ExtN H H0) (n : H0 T = none) : ExtN H (upd H' T o) := fun b u h nt => by
  rw [upd_ne (fun z => by have := e0 b u h nt; rw [z, n] at this; cases this)]
  exact e b u h nt
theorem ne_of {H : Hp} {a b : Addr} {u v : HO} (h : H a = some u) (g : H b = some v) (n : u ≠ v) : a ≠ b := fun z => by
  rw [z, g] at h
  exact n (Option.some.inj h).symm
theorem tabs_put {L : List (Addr × Str)} {m : Addr} {xs : List V} {o : HO} {H : Hp} (h : Tabs L H) (hm : H m = some (.lst xs)) : Tabs L (upd H m o) := fun p hp => by
  obtain ⟨ps, e1, e2, e3⟩ := h p hp
  refine ⟨ps, by rw [upd_ne (ne_of e1 hm (by intro z; exact nomatch z))]; exact e1, e2, fun pos cv hc => ?_⟩
  obtain ⟨c', r, g⟩ := e3 pos cv hc
  exact ⟨c', r, by rw [upd_ne (ne_of g hm (by intro z; exact nomatch z))]; exact g⟩
theorem tabs_old {L : List (Addr × Str)} {a : Addr} {H H' : Hp} (h : Tabs L H) (s : SprAt a H) (o : Old a H H') : Tabs L H' := fun p hp => by
  obtain ⟨d, e, c, hs, _⟩ := s
  obtain ⟨ps, e1, e2, e3⟩ := h p hp
  have ne : ∀ {b : Addr} {u : HO}, H b = some u → (∀ xs, u ≠ .lst xs) → b ≠ a := fun {b u} h n z => by
    rw [z, hs] at h
    exact n _ (Option.some.inj h).symm
  refine ⟨ps, o _ _ e1 (ne e1 fun xs z => nomatch z), e2, fun pos cv hc => ?_⟩
  obtain ⟨c', r, g⟩ := e3 pos cv hc
  exact ⟨c', r, o _ _ g (ne g fun xs z => nomatch z)⟩
abbrev two (w z : Str) : PyData := .list [.str w, .str z]
theorem dp_two {K : Fr} {H : Hp} {l : Addr} {w z : Str} (h : H l = some (.lst [.str w, .str z])) : Dp K H (.ref l) (two w z) := .lst (.inl (.inl h)) (.cons (.str w) (.cons (.str z) .nil))
abbrev zN : Str := PyData.none.shown
abbrev zI (j : Nat) : Str := (PyData.int (j : Int)).shown
theorem dshow_non {K : Fr} {H : Hp} : DShow K H .non zN := ⟨.none, .non, by decide +kernel, by decide +kernel, by decide +kernel, rfl⟩
theorem dshow_i {K : Fr} {H : Hp} {j : Nat} (h : j < 2) : DShow K H (.int (j : Int)) (zI j) := by
  match j, h with
  | 0, _ => exact ⟨.int _, .int _, by decide +kernel, by decide +kernel, by decide +kernel, rfl⟩
  | 1, _ => exact ⟨.int _, .int _, by decide +kernel, by decide +kernel, by decide +kernel, rfl⟩
theorem txt_n : ("None" : Str) = zN := by decide +kernel
theorem txt_0 : ("0" : Str) = zI 0 := by decide +kernel
theorem txt_j {j : Nat} (h : j < 2) : Str.ofString (toString (j : Int)) = zI j := by
  match j, h with
  | 0, _ => decide +kernel
  | 1, _ => decide +kernel
def dueD (z : Str) (j : Nat) : PyData := .list [two "count" z, two "inputs" zN, two "inputs" zN, two "inputs" (zI j), two "inputs" (zI 0)]
theorem eqv_due {z : Str} {j : Nat} : PyData.eqv (dueD z j) (dueD z j) = true := by
  simp [dueD, PyData.eqv, PyData.eqvAll]
theorem shaped_due {z : Str} {j : Nat} (hz : Asc z) (hj : j < 2) : SeqAt.shaped (dueD z j) = true := by
  have h1 := hz.ok
  match j, hj with
  | 0, _ =>
    have h2 : Asc (zI 0) := lit_asc (by decide +kernel)
    have h3 : Asc zN := lit_asc (by decide +kernel)
    have h2 := h2.ok
    have h3 := h3.ok
    have h4 := (lit_asc (by decide +kernel) : Asc ("count" : Str)).ok
    have h5 := (lit_asc (by decide +kernel) : Asc ("inputs" : Str)).ok
    simp [dueD, SeqAt.shaped, PyData.canLay0, PyData.canLayAll0, PyData.depth, PyData.depthAll, h1, h2, h3, h4, h5]
  | 1, _ =>
    have h2 : Asc (zI 0) := lit_asc (by decide +kernel)
    have h3 : Asc zN := lit_asc (by decide +kernel)
    have h6 : Asc (zI 1) := lit_asc (by decide +kernel)
    have h2 := h2.ok
    have h3 := h3.ok
    have h6 := h6.ok
    have h4 := (lit_asc (by decide +kernel) : Asc ("count" : Str)).ok
    have h5 := (lit_asc (by decide +kernel) : Asc ("inputs" : Str)).ok
    simp [dueD, SeqAt.shaped, PyData.canLay0, PyData.canLayAll0, PyData.depth, PyData.depthAll, h1, h2, h3, h4, h5, h6]
theorem nil_h {σ : L2.St} {H : Hp} {F : List V → Hp → Prop} (h : F [] H) : tNil σ H F := h
theorem mkM {K : Fr} {mg : Str → Option Value} (T : Tx K mg) : Mk K (CM K) (d_Machine_init.ad K) := He.mkr_ok (f_mkr_Machine T.c)
def spRight (K : Fr) : Sp := fun vs H Q _ => ∃ a : Addr, vs = [.ref a] ∧ SprAt a H ∧ Tabs (TR K) H ∧ ∀ H' : Hp, Kp a H H' → SprAt a H' → Tabs (TR K) H' → Q (.bl true) H'
abbrev N_l_right : List Str := ["_law_spring_here", "_law_model", "_law_until", "_law_rows", "_law_at", "_law_rate", "_law_machine_here", "_law_first", "_law_odd", "_law_bad", "_law_told_here", "_law_due"]
section
variable {P : Program} {w : World} {K : Fr} {mg : Str → Option Value} {base : Heap}
theorem c_right (T : Tx K mg) (TB : TabB base mg (cOf d_l_right K) (pOf d_l_right K)) : CalG P w K mg base 12 "_law_right" (gAd "_law_right" K) ["_law_spring_here"] (spRight K) := by
  have C_l_machine := c_machine (P := P) (w := w) (base := base) T
  have C_l_next := c_nextO (P := P) (w := w) (base := base) T
  have C_l_one := c_one (P := P) (w := w) (base := base) T
  have C_l_count := c_count (P := P) (w := w) (base := base) T
  have C_l_steps := c_lsteps (P := P) (w := w) (base := base) T
  have C_l_spoilt := c_spoilt (P := P) (w := w) (base := base) T
  have C_l_run := c_run (P := P) (w := w) (base := base) T
  have X_run := c_runX (P := P) (w := w) (base := base) T
  obtain ⟨fM, DM, FM⟩ := f_minit (P := P) (w := w) (base := base) T
  have bM : Binds K fM ["self", "input_rates", "output_rates", "steps"] [] := FunD.bindsN DM fun _ _ _ _ _ _ us hl => match us, hl with | [_, _, _, _], _ => rfl
  obtain ⟨fp, Dp', Fp⟩ := f_repr (P := P) (w := w) (base := base) T
  have bp : Binds K fp ["self"] [] := FunD.bindsN Dp' fun _ _ _ _ _ _ us hl => match us, hl with | [_], _ => rfl
  obtain ⟨ft, Dt⟩ := a_l_told T.c
  refine calg_c (d := d_l_right) (N := N_l_right) (a_l_right T.c) rfl sc_l_right (g_l_right T) (fun _ _ _ _ _ _ us hl => match us, hl with | [_], _ => rfl) (fun vs H Q E h => ?_) (fun A outer s H vs Q E hr hc h => ?_)
  · obtain ⟨a, rfl, _⟩ := h
    rfl
  obtain ⟨a, rfl, hs, hT, k⟩ := h
  have hun := hr.un
  have RT : ∀ {X : Cx}, X.A = A.deeper (envOfC d_l_right.ql (defScope d_l_right.st) s.heap.objs.size (d_l_right.ad K) (.ref (cOf d_l_right K))) → X.prog = P → X.w = w → X.K = K → X.mg = mg → X.base = base → CallR X (.builtin "repr") (rTT (CN K) (spRep K)) := fun {X} h1 h2 h3 h4 h5 h6 => by
    have F2 : FnOk X.prog X.w X.K X.mg X.base CX0 4 (d_Number_repr.ad K) fp ["self"] (spRep K) := by
      rw [h2, h3, h4, h5, h6]
      exact Fp
    have O : Own X.K (CN K) "__repr__" (d_Number_repr.ad K) := by
      rw [h4]
      exact own_ok (f_meth_repr T.c)
    exact call_reprTT (by rw [h1]; exact hc) (by rw [h1]; omega) O (runs_calm F2 (by rw [h4]; exact bp) (by rw [h1]; exact hr.mono (by decide)))
  have RD : ∀ {X : Cx}, X.A = A.deeper (envOfC d_l_right.ql (defScope d_l_right.st) s.heap.objs.size (d_l_right.ad K) (.ref (cOf d_l_right K))) → CallR X (.builtin "repr") (rRepr X.K) := fun {X} h1 => by
    exact call_reprDU (by rw [h1]; exact hc) (by rw [h1]; omega)
  have hr11 : Room 11 _ := hr
  have hr9 : Room 9 _ := hr.mono (by decide)
  refine ⟨_, (pss_cons (ps_asg (pe_tup (pa_cons (pe_c C_l_machine (hr.mono (by decide)) (pa_cons (pv 0) pa_nil)) (pa_cons (pe_c C_l_next (hr.mono (by decide)) (pa_cons (pv 0) (pa_cons pe_int pa_nil))) pa_nil))) (pg_tup (by rfl) (pgs_cons (pg_name (i := 1) sc_l_right.nd rfl (.inl rfl)) (pgs_cons (pg_name (i := 2) sc_l_right.nd rfl (.inr rfl)) pgs_nil))))
 (pss_cons (ps_set (i := 3) sc_l_right.nd rfl (.inr rfl) (pe_lc (own := [("_law_rate", 5)]) (g := gName 5) (tt := tYes) rfl sc_l_right.nd (pi_list (pe_ix ix_list (pv 1) pe_int (fun _ _ => rfl))) (blkOk_by (N := N_l_right) (sc := defScope s_l_right) (by decide +kernel)) (fun _ _ _ _ _ => pg_name (i := 5) sc_l_right.nd rfl (.inl rfl)) (fun _ _ _ _ _ => pts_nil) (fun _ _ _ _ _ => (pe_callTy (call_tuple_of : CallR _ _ (rTupOf K)) (by rfl) (n_tuple T) bo_tuple (pa_cons (pe_lc (own := [("_law_at", 4)]) (g := gName 4) (tt := tYes) rfl sc_l_right.nd (pi_range1 (by rfl) (n_range T) (pa_cons (pe_c C_l_count (hr.mono (by decide)) (pa_cons (pv 5) (pa_cons (pv 2) pa_nil))) pa_nil)) (blkOk_by (N := N_l_right) (by rfl)) (fun _ _ _ _ _ => pg_name (i := 4) sc_l_right.nd rfl (.inl rfl)) (fun _ _ _ _ _ => pts_nil) (fun _ _ _ _ _ => (pe_op op_sub (pe_c C_l_next (hr.mono (by decide)) (pa_cons (pv 0) (pa_cons pe_int pa_nil))) pe_int))) pa_nil)))))
 (pss_cons (ps_set (i := 6) sc_l_right.nd rfl (.inr rfl) (pe_make (mkM T) FM (hr.mono (by decide)) rfl (g_Machine T) bM .nil pass0 (pa_cons (pe_callTy (call_tuple_of : CallR _ _ (rTupOf K)) (by rfl) (n_tuple T) bo_tuple (pa_cons (pe_ix ix_list (pv 1) pe_int (fun _ _ => rfl)) pa_nil)) (pa_cons (pe_callTy (call_tuple_of : CallR _ _ (rTupOf K)) (by rfl) (n_tuple T) bo_tuple (pa_cons (pe_ix ix_list (pv 1) pe_int (fun _ _ => rfl)) pa_nil)) (pa_cons (pe_c C_l_steps (hr.mono (by decide)) (pa_cons (pv 0) (pa_cons (pe_ix ix_list (pv 1) pe_int (fun _ _ => rfl)) pa_nil))) pa_nil)))))
 (pss_cons (ps_set (i := 7) sc_l_right.nd rfl (.inl rfl) (pe_callB (RT rfl rfl rfl rfl rfl rfl) (by rfl) (n_repr T) bo_repr (pa_cons (pe_c C_l_run hr9 (pa_cons (pv 6) (pa_cons (pv 2) (pa_cons (pv 3) pa_nil)))) pa_nil)))
 (pss_cons (ps_asg (pe_tup (pa_cons (pe_c C_l_one (hr.mono (by decide)) (pa_cons (pv 0) (pa_cons (pe_lst (pa_cons (pe_un un_neg pe_int) (pa_cons pe_non (pa_cons pe_bl (pa_cons pe_str (pa_cons (pe_tup (pa_cons pe_int pa_nil)) (pa_cons (pe_un un_neg (pe_op op_pow pe_int pe_int)) pa_nil))))))) pa_nil))) (pa_cons (pe_c C_l_next (hr.mono (by decide)) (pa_cons (pv 0) (pa_cons (pe_callB call_len_seq (by rfl) (n_len T) bo_len (pa_cons (pv 3) pa_nil)) pa_nil))) pa_nil))) (pg_tup (by rfl) (pgs_cons (pg_name (i := 8) sc_l_right.nd rfl (.inr rfl)) (pgs_cons (pg_name (i := 4) sc_l_right.nd rfl (.inl rfl)) pgs_nil))))
 (pss_cons (ps_set (i := 9) sc_l_right.nd rfl (.inr rfl) (pe_op op_cat (pe_op op_cat (pe_slice (sl_list : SlR _ (rSlL K)) (pv 3) po_none (po_some (pv 4))) (pe_lst (pa_cons (pe_c C_l_spoilt (hr.mono (by decide)) (pa_cons (pv 0) (pa_cons (pe_ix ix_list (pv 3) (pv 4) (fun _ _ => rfl)) pa_nil))) pa_nil))) (pe_slice (sl_list : SlR _ (rSlL K)) (pv 3) (po_some (pe_op op_add (pv 4) pe_int)) po_none)))
 (pss_cons (ps_set (i := 10) sc_l_right.nd rfl (.inl rfl) (pe_lst (pa_cons (pe_told (i := 0) T rfl TB hr11 hc Dt (lamS_by (by decide +kernel)) rfl (fun _ _ _ _ _ => rfl) (fun A outer s H E f c' hr' => pe_cn X_run takes_lam hr' (pa_cons (pv 6) (pa_cons (pv 8) (pa_cons (pv 9) pa_nil))))) pa_nil)))
 (pss_cons (ps_expr (pe_bm PySem.F.plainAttrs_list PySem.F.slot_list_append PySem.F.type_list_append mt_append (pv 10) (pa_cons (pe_told (i := 0) T rfl TB hr11 hc Dt (lamS_by (by decide +kernel)) rfl (fun _ _ _ _ _ => rfl) (fun A outer s H E f c' hr' => pe_cn X_run takes_lam hr' (pa_cons (pv 6) (pa_cons (pv 2) (pa_cons (pe_slice (sl_list : SlR _ (rSlL K)) (pv 3) (po_some pe_int) po_none) pa_nil))))) pa_nil)))
 (pss_cons (ps_expr (pe_bm PySem.F.plainAttrs_list PySem.F.slot_list_append PySem.F.type_list_append mt_append (pv 10) (pa_cons (pe_told (i := 0) T rfl TB hr11 hc Dt (lamS_by (by decide +kernel)) rfl (fun _ _ _ _ _ => rfl) (fun A outer s H E f c' hr' => pe_cn X_run takes_lam hr' (pa_cons (pv 6) (pa_cons (pv 2) (pa_cons (pe_op op_cat (pv 9) (pe_lst (pa_cons (pe_tup pa_nil) pa_nil))) pa_nil))))) pa_nil)))
 (pss_cons (ps_expr (pe_bm PySem.F.plainAttrs_list PySem.F.slot_list_append PySem.F.type_list_append mt_append (pv 10) (pa_cons (pe_told (i := 0) T rfl TB hr11 hc Dt (lamS_by (by decide +kernel)) rfl (fun _ _ _ _ _ => rfl) (fun A outer s H E f c' hr' => pe_cn X_run takes_lam hr' (pa_cons (pv 6) (pa_cons (pv 2) (pa_cons (pv 9) pa_nil))))) pa_nil)))
 (pss_cons (ps_expr (pe_bm PySem.F.plainAttrs_list PySem.F.slot_list_append PySem.F.type_list_append mt_append (pv 10) (pa_cons (pe_told (i := 0) T rfl TB hr11 hc Dt (lamS_by (by decide +kernel)) rfl (fun _ _ _ _ _ => rfl) (fun A outer s H E f c' hr' => pe_cn X_run takes_lam hr' (pa_cons (pv 6) (pa_cons (pv 2) (pa_cons (pe_op op_rep (pe_lst (pa_cons pe_non pa_nil)) (pe_callB (call_len_seq : CallR _ _ (fun xs H Q => ∃ p ys, xs = [.ref p] ∧ (SqL K H p ys ∨ SqT K H p ys) ∧ Q (.int ys.length) H)) (by rfl) (n_len T) bo_len (pa_cons (pv 3) pa_nil))) pa_nil))))) pa_nil)))
 (pss_cons (ps_set (i := 11) sc_l_right.nd rfl (.inl rfl) (pe_lst (pa_cons (pe_lst (pa_cons pe_str (pa_cons (pe_callB (RD rfl) (by rfl) (n_repr T) bo_repr (pa_cons (pv 8) pa_nil)) pa_nil))) (pa_cons (pe_lst (pa_cons pe_str (pa_cons pe_str pa_nil))) (pa_cons (pe_lst (pa_cons pe_str (pa_cons pe_str pa_nil))) (pa_cons (pe_lst (pa_cons pe_str (pa_cons (pe_callTy call_str_int (by rfl) (n_str T) bo_str (pa_cons (pv 4) pa_nil)) pa_nil))) (pa_cons (pe_lst (pa_cons pe_str (pa_cons pe_str pa_nil))) pa_nil)))))))
 (pss_one (ps_ret (pe_and (pe_cmpR (op_eqD hr.units : OpR _ _ (rEqD K)) (pv 10) (pv 11) (nomark _)) (pe_one (pe_cmpR op_eq (pe_callB (RT rfl rfl rfl rfl rfl rfl) (by rfl) (n_repr T) bo_repr (pa_cons (pe_c C_l_run hr9 (pa_cons (pv 6) (pa_cons (pv 2) (pa_cons (pv 3) pa_nil)))) pa_nil)) (pv 7) (nomark _)))))))))))))))))), ?_⟩
  -- the machine and the time
  refine ⟨_, rfl, a, rfl, hs, fun H1 mv m o1 hs1 hMod MO => ?_⟩
  refine ⟨_, rfl, a, 6, rfl, hs1, by decide, by decide, fun v H2 v0 v1 o2 hs2 => ?_⟩
  obtain ⟨u, rfl⟩ := Int.eq_ofNat_of_zero_le v0
  have u5 : u ≤ 5 := by omega
  refine ⟨(by show 2 ≤ sizeLine; decide), fun q nq => ?_⟩
  have sq := same_upd nq (o := HO.tup [mv, .int (u : Int)])
  refine ⟨q, _, rfl, .inl (.inl upd_same), rfl, _, _, rfl, _, _, rfl, rfl, ?_⟩
  have hs4 := hs2.same sq
  have o4 : Old a H (upd H2 q (.tup [mv, .int (u : Int)])) := (o1.trans o2).trans (Old.same sq)
  have hMod4 := hMod.fm hs1.ls ((Fm.old o2).trans (Fm.same sq))
  generalize upd H2 q (.tup [mv, .int (u : Int)]) = H4 at hs4 o4 hMod4
  have W := MO.wf
  have P1 := W.p1
  have P6 := MO.per
  have I1 := W.i1
  have I2 := MO.i2
  have hu : u * m.per ≤ 54 := by
    have := Nat.mul_le_mul u5 P6
    omega
  obtain ⟨pm, _, _, _, _, rfl, npm, hpm, ⟨R, ur, rfl, nR, hR, aR⟩, ⟨Wr, uw, rfl, nW, hW, aW⟩, ⟨S, us, rfl, nS, hS, aS⟩, ⟨Z, uz, rfl, nZ, hZ, aZ⟩⟩ := id hMod4
  have lu : ur.length = m.ins.length := aR.1
  -- the inputs
  refine ⟨_, rfl, pm, _, _, _, rfl, rfl, .inl (.inl hpm), rfl, R, rfl, ⟨_, .inl (.inl hR)⟩, fun D nD => ?_⟩
  have Da := hs4.ne nD
  refine lc_fr walk_list [a] IRow (fun i b => ∀ r, m.ins[i]? = some r → b.length = cnt r u ∧ ∀ c ∈ b, -4 ≤ c ∧ c ≤ 4) (SprAt a) nD (by omega) framed_irow hs4.ls hs4 (fun H o nd h => h.upd Da) (fun H' f => .inl (.inl (f R _ nR hR))) ?_ ?_ gName_mono
  · rintro i x G1 G2 hi f1 l1 iv ⟨_, hD⟩ ⟨rfl, hx⟩ R1 qq
    obtain ⟨r, hr', ra⟩ := aR.at hx
    have o := W.okI r (List.mem_of_getElem? hr')
    have ra1 := framed_rate _ _ _ _ hs4.ls f1 ra
    refine ⟨rfl, ?_⟩
    refine ⟨_, rfl, _, rfl, x, r, u, rfl, ra1, o, by omega, fun G3 s3 => ?_⟩
    have clt : cnt r u ≤ 60 := by
      have h1 := cnt_le (r := r) (u := u) o.b1
      have h2 := Nat.mul_le_mul u5 o.t2
      omega
    have iv3 := iv.same s3
    refine ⟨_, rfl, by omega, by omega, fun D2 nD2 => ?_⟩
    have Da2 := iv3.ne nD2
    refine lc_fr walk_range [a] IV (fun i c => -4 ≤ c ∧ c ≤ 4) (SprAt a) nD2 (by omega) framed_iv iv3.ls iv3 (fun H o nd h => h.upd Da2) (fun _ _ => trivial) ?_ ?_ gName_mono
    · rintro j y G4 G5 hj f4 l4 iv4 hD4 ⟨rfl, rfl⟩ R3 q3
      refine ⟨rfl, ?_⟩
      refine ⟨_, rfl, a, 9, rfl, iv4, by decide, by decide, fun v H' v0 v1 o s' => ?_⟩
      refine ⟨_, _, rfl, rfl, ?_⟩
      exact q3 H' (.int (v - 4)) (v - 4) (Fm.old o) s'.ls s' (by omega) rfl
    · rintro G4 ud bs f4 l4 iv4 hbl hbp a4 hD4
      have e : ud = bs.map V.int := all2_iv a4
      refine ⟨D2, ud, rfl, .inl ⟨.inl (.inl hD4), fun l nl => ?_⟩⟩
      have sl := same_upd nl (o := HO.tup ud)
      refine qq _ (.ref l) bs (((Fm.same s3).trans f4).trans (Fm.same sl)) (iv4.same sl).ls (iv4.same sl) (fun r' hr2 => ?_) ⟨l, rfl, ?_⟩
      · rw [hr'] at hr2
        cases hr2
        refine ⟨by omega, fun q hq => ?_⟩
        obtain ⟨j, hj⟩ := List.mem_iff_getElem?.mp hq
        exact hbp j q hj
      · rw [← e]
        exact upd_same
  rintro H5 uin rws f5 l5 hs5 hrl hrp ain hD5
  have nDa : D ∉ [a] := nm1 (fun z => Da z.symm)
  have ain5 : All2 (IRow H5) uin rws := ain
  obtain ⟨rows, hrows⟩ : ∃ rows : List (List Rat), rows = rws.map (List.map (fun c : Int => (c : Rat))) := ⟨_, rfl⟩
  have rget : ∀ (i : Nat) (r : List Rat), rows[i]? = some r → ∃ cs, rws[i]? = some cs ∧ r = cs.map (fun c : Int => (c : Rat)) := fun i r h => by
    rw [hrows, List.getElem?_map] at h
    obtain ⟨cs, h1, h2⟩ := Option.map_eq_some_iff.mp h
    exact ⟨cs, h1, h2.symm⟩
  have lrows : rows.length = rws.length := by rw [hrows, List.length_map]
  have RO : RowsOk m rows u := ⟨by omega, fun i r q h1 h2 => by
    obtain ⟨cs, h3, rfl⟩ := rget i r h1
    rw [List.length_map]
    exact (hrp i cs h3 q h2).1, fun r hr q hq => by
    obtain ⟨i, hi⟩ := List.mem_iff_getElem?.mp hr
    have li := (List.getElem?_eq_some_iff.mp hi).1
    obtain ⟨cs, h3, rfl⟩ := rget i r hi
    obtain ⟨c, hc, rfl⟩ := List.mem_map.mp hq
    exact bnd_int ((hrp i cs h3 _ (List.getElem?_eq_getElem (show i < m.ins.length by omega))).2 c hc)⟩
  have RB : RowsB rows := RO.bnd
  have al5 : All2 (RowAt K H5) uin rows := ⟨by rw [ain5.1, lrows], fun i x r h1 h2 => by
    obtain ⟨cs, h3, rfl⟩ := rget i r h2
    exact irow_row (ain5.2 i x cs h1 h3)⟩
  have lin : uin.length = m.ins.length := by rw [ain5.1]; omega
  have o5 := o4.trans (Fm.to_old f5)
  have hMod5 := hMod4.fm hs4.ls f5
  have hpm5 := f5 _ _ npm hpm
  have hR5 := f5 _ _ nR hR
  have hW5 := f5 _ _ nW hW
  have hS5 := f5 _ _ nS hS
  have aS5 : All2 (LstOf [a] (PTab [a]) H5) us m.steps := aS.mono fun _ _ h => framed_pair.lst.lst.lst _ _ _ _ hs4.ls f5 h
  have aR5 : RtT H5 ur m.ins := aR.mono fun _ _ h => framed_rate _ _ _ _ hs4.ls f5 h
  have aW5 : RtT H5 uw m.outs := aW.mono fun _ _ h => framed_rate _ _ _ _ hs4.ls f5 h
  -- the machine
  refine ⟨_, rfl, pm, _, _, _, rfl, rfl, .inl (.inl hpm5), rfl, R, ur, rfl, .inl ⟨.inl (.inl hR5), fun la nla => ?_⟩⟩
  have sa := same_upd nla (o := HO.tup ur)
  have hla : (upd H5 la (.tup ur)) la = some (.tup ur) := upd_same
  refine ⟨_, rfl, pm, _, _, _, rfl, rfl, .inl (.inl (sa _ _ hpm5)), rfl, Wr, uw, rfl, .inl ⟨.inl (.inl (sa _ _ hW5)), fun lb nlb => ?_⟩⟩
  have sb := same_upd nlb (o := HO.tup uw)
  have hlb : (upd (upd H5 la (.tup ur)) lb (.tup uw)) lb = some (.tup uw) := upd_same
  have hla2 := sb _ _ hla
  have sab := sa.trans sb
  generalize upd (upd H5 la (.tup ur)) lb (.tup uw) = H8 at sab hlb hla2 ⊢
  have hs8 := hs5.same sab
  refine ⟨_, rfl, _, rfl, pm, _, _, _, rfl, rfl, .inl (.inl (sab _ _ hpm5)), rfl, a, .ref S, m.steps, rfl, hs8, ⟨S, us, rfl, nS, sab _ _ hS5, aS5.mono fun _ _ h => framed_pair.lst.lst.lst _ _ _ _ hs5.ls (Fm.same sab) h⟩, W.l2, fun st hst => ⟨by rw [W.four st hst]; decide, fun tb htb => ⟨(W.rowlen hst tb htb).1, fun r hr => ⟨(W.rowlen hst tb htb).2 r hr, fun q hq => Bnd.smq (W.g st hst tb htb r hr q hq) (by decide) (by decide +kernel) (by decide +kernel)⟩⟩⟩, fun H9 sv o9 hs9 hsv => ?_⟩
  have f89 := Fm.old o9
  have f59 : Fm [a] H5 H9 := (Fm.same sab).trans f89
  have hla9 := f89 _ _ (hs8.ls.no hla2 fun _ q => nomatch q) hla2
  have hlb9 := f89 _ _ (hs8.ls.no hlb fun _ q => nomatch q) hlb
  refine fun p dx np ndx pne => ?_
  have sn : Same H9 (upd (upd H9 dx (.own p)) p (.ins (CM K) dx [])) := fun x o e => by
    rw [upd_ne (ne_of_none e np), upd_ne (ne_of_none e ndx)]
    exact e
  refine ⟨p, dx, la, lb, sv, ur, uw, m, H9, rfl, upd_same, np, sn, W, hla9, aR5.fm hs5.ls f59, hlb9, aW5.fm hs5.ls f59, hsv, fun H10 s10 hM10 => ⟨rfl, ?_⟩⟩
  have f510 := f59.trans (Fm.same s10)
  have hs10 := hs9.same s10
  have o10 := o5.trans (Fm.to_old f510)
  have hD10 := f510 _ _ nDa hD5
  have al10 : All2 (RowAt K H10) uin rows := al5.mono fun _ _ h => framed_row _ _ _ _ hs5.ls f510 h
  have ain10 : All2 (IRow H10) uin rws := ain5.mono fun _ _ h => framed_irow _ _ _ _ hs5.ls f510 h
  -- the first run
  refine ⟨_, rfl, _, rfl, _, rfl, p, D, u, m, rows, uin, rfl, hM10, W, RO, hu, hD10, al10, I2, fun H11 rv s11 tv => ?_⟩
  refine nil_h ?_
  refine rep_run W RB hu tv ?_
  have hs11 := hs10.same s11
  -- the odd time
  refine ⟨_, rfl, 1, rfl, (by show 1 ≤ sizeLine; decide), fun t12 nt12 => ?_⟩
  have s12 := same_upd nt12 (o := HO.tup [.int 3])
  have h12 : (upd H11 t12 (.tup [.int 3])) t12 = some (.tup [.int 3]) := upd_same
  generalize upd H11 t12 (.tup [.int 3]) = H12 at s12 h12 ⊢
  have hs12 := hs11.same s12
  refine ⟨10, 20, rfl, rfl, ⟨by decide, by decide, by decide⟩, _, rfl, (by show 6 ≤ sizeLine; decide), fun L13 nL13 => ?_⟩
  have s13 := same_upd nL13 (o := HO.lst [V.int (-1), .non, .bl true, .str "3", .ref t12, .int (-(10 ^ (20 : Int).toNat))])
  have h13 : (upd H12 L13 (.lst [V.int (-1), .non, .bl true, .str "3", .ref t12, .int (-(10 ^ (20 : Int).toNat))])) L13 = some (.lst [V.int (-1), .non, .bl true, .str "3", .ref t12, .int (-(10 ^ (20 : Int).toNat))]) := upd_same
  generalize upd H12 L13 (.lst [V.int (-1), .non, .bl true, .str "3", .ref t12, .int (-(10 ^ (20 : Int).toNat))]) = H13 at s13 h13 ⊢
  have hs13 := hs12.same s13
  refine ⟨a, L13, _, rfl, hs13, h13, fun z => hs12.ne nL13 z, by show 1 ≤ 6; decide, by show 6 ≤ 1000; decide, fun i y H14 hy o14 hs14 => ?_⟩
  have nt12a : t12 ≠ a := fun z => hs11.ne nt12 z.symm
  have h1214 := o14 _ _ (s13 _ _ h12) nt12a
  have odd : ∃ z, Asc z ∧ ∀ H', Kp a H14 H' → (NotInt K H' y ∨ ∃ n : Int, y = .int n ∧ n < 0) ∧ DShow K H' y z := by
    have hm := List.mem_of_getElem? hy
    simp only [List.mem_cons, List.not_mem_nil, or_false] at hm
    rcases hm with rfl | rfl | rfl | rfl | rfl | rfl
    · exact ⟨_, lit_asc (by decide +kernel), fun H' o => ⟨.inr ⟨_, rfl, by decide⟩, .int (-1), .int _, by decide +kernel, by decide +kernel, by decide +kernel, rfl⟩⟩
    · exact ⟨_, lit_asc (by decide +kernel), fun H' o => ⟨.inl (.inr ⟨.type "NoneType", .base .non, kit_ty (by decide +kernel)⟩), .none, .non, by decide +kernel, by decide +kernel, by decide +kernel, rfl⟩⟩
    · exact ⟨_, lit_asc (by decide +kernel), fun H' o => ⟨.inl (.inl ⟨_, rfl⟩), .bool true, .bl _, by decide +kernel, by decide +kernel, by decide +kernel, rfl⟩⟩
    · exact ⟨_, lit_asc (by decide +kernel), fun H' o => ⟨.inl (.inr ⟨.type "str", .base (.str _), kit_ty (by decide +kernel)⟩), .str "3", .str _, by decide +kernel, by decide +kernel, by decide +kernel, rfl⟩⟩
    · exact ⟨_, lit_asc (by decide +kernel), fun H' o => ⟨.inl (.inr ⟨.type "tuple", .base (.tup (o _ _ h1214 nt12a fun ps z => nomatch z)), kit_ty (by decide +kernel)⟩), .tuple [.int 3], .tup (.inl (.inl (o _ _ h1214 nt12a fun ps z => nomatch z))) (.cons (.int 3) .nil), by decide +kernel, by decide +kernel, by decide +kernel, rfl⟩⟩
    · exact ⟨_, lit_asc (by decide +kernel), fun H' o => ⟨.inr ⟨_, rfl, by decide +kernel⟩, .int (-(10 ^ (20 : Int).toNat)), .int _, by decide +kernel, by decide +kernel, by decide +kernel, rfl⟩⟩
  obtain ⟨z8, az8, odd⟩ := odd
  have s1013 := s11.trans (s12.trans s13)
  have o1014 : Old a H10 H14 := (Old.same s1013).trans o14
  have hD14 := o1014 _ _ hD10 (Ne.symm Da)
  have lu1 : 1 ≤ uin.length := by omega
  have lu2 : uin.length ≤ 2 := by omega
  refine ⟨_, rfl, _, rfl, D, uin, rfl, .inl (.inl (.inl hD14)), a, _, rfl, hs14, (by omega), (by exact Nat.lt_of_le_of_lt (show _ ≤ 2 by omega) (by decide +kernel)), fun v H15 v0 v1 o15 hs15 => ?_⟩
  obtain ⟨j, rfl⟩ := Int.eq_ofNat_of_zero_le v0
  have hj : j < uin.length := by omega
  refine ⟨(by show 2 ≤ sizeLine; decide), fun q16 nq16 => ?_⟩
  have s16 := same_upd nq16 (o := HO.tup [y, .int (j : Int)])
  refine ⟨q16, _, rfl, .inl (.inl upd_same), rfl, _, _, rfl, _, _, rfl, rfl, ?_⟩
  have hs17 := hs15.same s16
  have o1417 : Old a H14 (upd H15 q16 (.tup [y, .int (j : Int)])) := o15.trans (Old.same s16)
  generalize upd H15 q16 (.tup [y, .int (j : Int)]) = H17 at hs17 o1417 ⊢
  have hD17 := o1417 _ _ hD14 (Ne.symm Da)
  -- the spoilt inputs
  obtain ⟨xj, hxj⟩ : ∃ x, uin[j]? = some x := ⟨_, List.getElem?_eq_getElem hj⟩
  obtain ⟨cs, hcs, pr, rfl, hpr⟩ := ain10.at hxj
  have hcl := hrp j cs hcs _ (List.getElem?_eq_getElem (show j < m.ins.length by omega))
  have o1017 := o1014.trans o1417
  have hpr17 := o1017 _ _ hpr (fun z => by
    obtain ⟨d, e, c, hh, _⟩ := hs10
    rw [z, hh] at hpr
    cases hpr)
  have ccl : cs.length ≤ 60 := by
    have o := W.okI _ (List.mem_of_getElem? (List.getElem?_eq_getElem (show j < m.ins.length by omega)))
    rw [hcl.1]
    have h1 := cnt_le (r := m.ins[j]'(by omega)) (u := u) o.b1
    have h2 := Nat.mul_le_mul u5 o.t2
    omega
  refine ⟨_, rfl, _, rfl, _, rfl, D, uin, rfl, .inl (.inl hD17), fun l18 nl18 => ?_⟩
  have s18 := same_upd nl18 (o := HO.lst (cutV uin none (some (j : Int))))
  have h18 : (upd H17 l18 (.lst (cutV uin none (some (j : Int))))) l18 = some (.lst (uin.take j)) := by rw [upd_same, cut0]
  generalize upd H17 l18 (.lst (cutV uin none (some (j : Int)))) = H18 at s18 h18 ⊢
  have hs18 := hs17.same s18
  have nl18a : l18 ≠ a := fun z => hs17.ne nl18 z.symm
  refine ⟨_, rfl, _, rfl, _, rfl, D, uin, (j : Int), _, rfl, rfl, .inl (.inl (s18 _ _ hD17)), atI_nat hxj, a, pr, cs, rfl, hs18, s18 _ _ hpr17, by omega, fun yb H19 o19 hs19 br => ?_⟩
  refine ⟨(by show 1 ≤ sizeLine; decide), fun l20 nl20 => ?_⟩
  have s20 := same_upd nl20 (o := HO.lst [yb])
  have h20 : (upd H19 l20 (.lst [yb])) l20 = some (.lst [yb]) := upd_same
  generalize upd H19 l20 (.lst [yb]) = H20 at s20 h20 ⊢
  have h1820 := s20 _ _ (o19 _ _ h18 nl18a)
  refine ⟨l18, l20, _, _, rfl, rfl, h1820, h20, (by rw [List.length_take]; exact Nat.le_trans (show _ ≤ 3 by show _ + 1 ≤ 3; omega) (by decide)), fun l21 nl21 => ?_⟩
  have s21 := same_upd nl21 (o := HO.lst (uin.take j ++ [yb]))
  have h21 : (upd H20 l21 (.lst (uin.take j ++ [yb]))) l21 = some (.lst (uin.take j ++ [yb])) := upd_same
  generalize upd H20 l21 (.lst (uin.take j ++ [yb])) = H21 at s21 h21 ⊢
  have s1921 := s20.trans s21
  have hs21 := hs19.same s1921
  have o1721 : Old a H17 H21 := (Old.same s18).trans (o19.trans (Old.same s1921))
  have hD21 := o1721 _ _ hD17 (Ne.symm Da)
  refine ⟨_, rfl, _, rfl, _, _, rfl, rfl, _, rfl, ?_⟩
  dsimp only [tNoPart]
  refine ⟨D, uin, rfl, .inl (.inl hD21), fun l22 nl22 => ?_⟩
  have s22 := same_upd nl22 (o := HO.lst (cutV uin (some ((j : Int) + 1)) none))
  have h22 : (upd H21 l22 (.lst (cutV uin (some ((j : Int) + 1)) none))) l22 = some (.lst (uin.drop (j + 1))) := by
    rw [upd_same]
    exact congrArg (fun q => some (HO.lst q)) (cut1 uin (j + 1))
  generalize upd H21 l22 (.lst (cutV uin (some ((j : Int) + 1)) none)) = H22 at s22 h22 ⊢
  refine ⟨l21, l22, _, _, rfl, rfl, s22 _ _ h21, h22, (by
    rw [List.length_append, List.length_take, List.length_drop]
    exact Nat.le_trans (show _ ≤ 10 by show _ + 1 + _ ≤ 10; omega) (by decide)), fun B nB => ?_⟩
  have sB := same_upd nB (o := HO.lst (uin.take j ++ [yb] ++ uin.drop (j + 1)))
  have hB : (upd H22 B (.lst (uin.take j ++ [yb] ++ uin.drop (j + 1)))) B = some (.lst (uin.take j ++ [yb] ++ uin.drop (j + 1))) := upd_same
  generalize upd H22 B (.lst (uin.take j ++ [yb] ++ uin.drop (j + 1))) = G at sB hB ⊢
  have s19G := s1921.trans (s22.trans sB)
  have o17G : Old a H17 G := o1721.trans (Old.same (s22.trans sB))
  have o10G := o1017.trans o17G
  have hsG := hs19.same s19G
  have F : Fx K p D B m rows uin u j y yb z8 G := by
    refine ⟨hM10.old hs10 o10G, W, o10G _ _ hD10 (Ne.symm Da), hB, al10.mono fun _ _ h => framed_row _ _ _ _ hs10.ls (Fm.old o10G) h, RO, I2, by omega, hj, fun r hr => ?_, fun H' e => odd H' ((Kp.old (o1417.trans o17G)).trans (Kp.ext e))⟩
    have e := (hrp j cs hcs r hr).1
    rw [← e]
    exact br.same s19G
  have hTG : Tabs (TR K) G := tabs_old hT hs (o10.trans o10G)
  have lb3 : (uin.take j ++ [yb] ++ uin.drop (j + 1)).length ≤ 3 := by rw [F.lb]; omega
  -- the first told
  refine ⟨hTG, fun A1 x1 tb1 => ?_⟩
  have F1 := F.ext x1
  refine ⟨_, rfl, _, rfl, _, rfl, p, B, y, m, _, rfl, F1.M, W, F1.hB, lb3, F1.b1 (fun H' d sd nd => .inl ⟨rfl, d, y, z8, rfl, upd_same, (F1.odd _ (ExtN.of (sd.trans (same_upd nd)))).2, fun l1 G1 sl1 nl1 hl1 => ?_⟩)⟩
  have sA1 := (sd.trans (same_upd nd (o := HO.xd [("value", y)]))).trans sl1
  have e1 : ExtN G G1 := x1.trans (ExtN.of sA1)
  have t1 : Tabs (TR K) G1 := tb1.ext sA1
  clear sA1 sl1 nl1 sd nd x1 tb1 F1
  refine ⟨(by show 1 ≤ sizeLine; decide), fun L nL => ?_⟩
  have sL := same_upd nL (o := HO.lst [V.ref l1])
  have hL : (upd G1 L (.lst [V.ref l1])) L = some (.lst [V.ref l1]) := upd_same
  have hl1' := sL _ _ hl1
  have e1' : ExtN G (upd G1 L (.lst [V.ref l1])) := e1.trans (ExtN.of sL)
  have t1' : Tabs (TR K) (upd G1 L (.lst [V.ref l1])) := t1.ext sL
  generalize upd G1 L (.lst [V.ref l1]) = C1 at sL hL hl1' e1' t1' ⊢
  have hL1 := hL
  have ne1 : l1 ≠ L := fun z => by
    rw [z, nL] at hl1
    cases hl1
  -- told 2
  refine ⟨_, rfl, .inl ⟨rfl, _, .inl (.inl hL1)⟩, t1', fun A2 x2 tb2 => ?_⟩
  have F2a := F.ext (e1'.trans x2)
  refine ⟨_, rfl, _, rfl, _, rfl, _, rfl, ?_⟩
  dsimp only [tNoPart]
  refine ⟨D, uin, rfl, .inl (.inl F2a.hD), fun c2 nc2 => ?_⟩
  have ss2 := same_upd nc2 (o := HO.lst (cutV uin (some (1 : Int)) none))
  have hc2 : (upd A2 c2 (.lst (cutV uin (some (1 : Int)) none))) c2 = some (.lst (uin.drop 1)) := by
    rw [upd_same]
    exact congrArg (fun q => some (HO.lst q)) (cut1 uin 1)
  generalize upd A2 c2 (.lst (cutV uin (some (1 : Int)) none)) = A2b at ss2 hc2 ⊢
  have F2 := F2a.ext (ExtN.of ss2)
  refine ⟨p, c2, .int (u : Int), m, uin.drop 1, rfl, F2.M, W, hc2, (by rw [List.length_drop]; omega), F2.b2 (by rw [List.length_drop]; omega) (fun H' d sd nd => .inr ⟨rfl, d, .non, zN, rfl, upd_same, dshow_non, fun l2 G2 sl2 nl2 hl2 => ?_⟩)⟩
  have sd2 := ss2.trans (sd.trans (same_upd nd (o := HO.xd [("index", .non)])))
  have xk := x2.trans (ExtN.of (sd2.trans sl2))
  have eG := e1'.trans xk
  have tG := tb2.ext (sd2.trans sl2)
  have hLG := xk _ _ hL1 (fun ps z => nomatch z)
  have ne2 : l2 ≠ L := fun z => by
    have hh := (x2.trans (ExtN.of sd2)) _ _ hL1 (fun ps z => nomatch z)
    rw [z] at nl2
    rw [nl2] at hh
    cases hh
  refine ⟨L, _, _, rfl, rfl, hLG, (by show 1 < sizeLine; decide), ?_⟩
  have hL2 : (upd G2 L (.lst ([V.ref l1] ++ [V.ref l2]))) L = some (.lst [V.ref l1, V.ref l2]) := upd_same
  have hl1k : (upd G2 L (.lst ([V.ref l1] ++ [V.ref l2]))) l1 = _ := (upd_ne ne1).trans (xk _ _ hl1' (fun ps z => nomatch z))
  have hl2k : (upd G2 L (.lst ([V.ref l1] ++ [V.ref l2]))) l2 = _ := (upd_ne ne2).trans hl2
  have e2' : ExtN G (upd G2 L (.lst ([V.ref l1] ++ [V.ref l2]))) := ext_put eG e1 nL
  have t2' : Tabs (TR K) (upd G2 L (.lst ([V.ref l1] ++ [V.ref l2]))) := tabs_put tG hLG
  generalize upd G2 L (.lst ([V.ref l1] ++ [V.ref l2])) = C2 at hL2 hl1k hl2k e2' t2' ⊢
  clear hl1' hLG tG eG xk sd2 sl2 nl2 hl2 nd sd x2 tb2 hL1 e1' t1'
  have hl1' := hl1k
  clear hl1k
  have hl2' := hl2k
  clear hl2k
  -- told 3
  refine ⟨_, rfl, .inl ⟨rfl, _, .inl (.inl hL2)⟩, t2', fun A3 x3 tb3 => ?_⟩
  have F3a := F.ext (e2'.trans x3)
  refine ⟨_, rfl, _, rfl, _, rfl, (by show 0 ≤ sizeLine; decide), fun c3a nc3a => ?_⟩
  have ss3a := same_upd nc3a (o := HO.tup [])
  refine ⟨(by show 1 ≤ sizeLine; decide), fun c3b nc3b => ?_⟩
  have ss3b := same_upd nc3b (o := HO.lst [V.ref c3a])
  refine ⟨B, c3b, _, _, rfl, rfl, ss3b _ _ (ss3a _ _ F3a.hB), upd_same, (Nat.le_trans (show _ ≤ 4 by rw [F.lb]; show m.ins.length + 1 ≤ 4; omega) (by decide)), fun c3 nc3 => ?_⟩
  have ss3 := (ss3a.trans ss3b).trans (same_upd nc3 (o := HO.lst (uin.take j ++ [yb] ++ uin.drop (j + 1) ++ [V.ref c3a])))
  have hc3 : (upd (upd (upd A3 c3a (.tup [])) c3b (.lst [V.ref c3a])) c3 (.lst (uin.take j ++ [yb] ++ uin.drop (j + 1) ++ [V.ref c3a]))) c3 = some (.lst (uin.take j ++ [yb] ++ uin.drop (j + 1) ++ [V.ref c3a])) := upd_same
  generalize upd (upd (upd A3 c3a (.tup [])) c3b (.lst [V.ref c3a])) c3 (.lst (uin.take j ++ [yb] ++ uin.drop (j + 1) ++ [V.ref c3a])) = A3b at ss3 hc3 ⊢
  have F3 := F3a.ext (ExtN.of ss3)
  have l3b : (uin.take j ++ [yb] ++ uin.drop (j + 1) ++ [V.ref c3a]).length = m.ins.length + 1 := by
    rw [List.length_append, F.lb]
    rfl
  refine ⟨p, c3, .int (u : Int), m, _, rfl, F3.M, W, hc3, (by rw [l3b]; omega), F3.b2 (by rw [l3b]; omega) (fun H' d sd nd => .inr ⟨rfl, d, .non, zN, rfl, upd_same, dshow_non, fun l3 G3 sl3 nl3 hl3 => ?_⟩)⟩
  have sd3 := ss3.trans (sd.trans (same_upd nd (o := HO.xd [("index", .non)])))
  have xk := x3.trans (ExtN.of (sd3.trans sl3))
  have eG := e2'.trans xk
  have tG := tb3.ext (sd3.trans sl3)
  have hLG := xk _ _ hL2 (fun ps z => nomatch z)
  have ne3 : l3 ≠ L := fun z => by
    have hh := (x3.trans (ExtN.of sd3)) _ _ hL2 (fun ps z => nomatch z)
    rw [z] at nl3
    rw [nl3] at hh
    cases hh
  refine ⟨L, _, _, rfl, rfl, hLG, (by show 2 < sizeLine; decide), ?_⟩
  have hL3 : (upd G3 L (.lst ([V.ref l1, V.ref l2] ++ [V.ref l3]))) L = some (.lst [V.ref l1, V.ref l2, V.ref l3]) := upd_same
  have hl1k : (upd G3 L (.lst ([V.ref l1, V.ref l2] ++ [V.ref l3]))) l1 = _ := (upd_ne ne1).trans (xk _ _ hl1' (fun ps z => nomatch z))
  have hl2k : (upd G3 L (.lst ([V.ref l1, V.ref l2] ++ [V.ref l3]))) l2 = _ := (upd_ne ne2).trans (xk _ _ hl2' (fun ps z => nomatch z))
  have hl3k : (upd G3 L (.lst ([V.ref l1, V.ref l2] ++ [V.ref l3]))) l3 = _ := (upd_ne ne3).trans hl3
  have e3' : ExtN G (upd G3 L (.lst ([V.ref l1, V.ref l2] ++ [V.ref l3]))) := ext_put eG e1 nL
  have t3' : Tabs (TR K) (upd G3 L (.lst ([V.ref l1, V.ref l2] ++ [V.ref l3]))) := tabs_put tG hLG
  generalize upd G3 L (.lst ([V.ref l1, V.ref l2] ++ [V.ref l3])) = C3 at hL3 hl1k hl2k hl3k e3' t3' ⊢
  clear hl1' hl2' hLG tG eG xk sd3 sl3 nl3 hl3 nd sd x3 tb3 hL2 e2' t2'
  have hl1' := hl1k
  clear hl1k
  have hl2' := hl2k
  clear hl2k
  have hl3' := hl3k
  clear hl3k
  -- told 4
  refine ⟨_, rfl, .inl ⟨rfl, _, .inl (.inl hL3)⟩, t3', fun A4 x4 tb4 => ?_⟩
  have F4a := F.ext (e3'.trans x4)
  refine ⟨_, rfl, _, rfl, _, rfl, ?_⟩
  refine ⟨p, B, .int (u : Int), m, _, rfl, F4a.M, W, F4a.hB, lb3, F4a.b4 (fun H' d sd nd => .inr ⟨rfl, d, .int (j : Int), zI j, rfl, upd_same, dshow_i (by omega), fun l4 G4 sl4 nl4 hl4 => ?_⟩)⟩
  have sd4 := sd.trans (same_upd nd (o := HO.xd [("index", .int (j : Int))]))
  have xk := x4.trans (ExtN.of (sd4.trans sl4))
  have eG := e3'.trans xk
  have tG := tb4.ext (sd4.trans sl4)
  have hLG := xk _ _ hL3 (fun ps z => nomatch z)
  have ne4 : l4 ≠ L := fun z => by
    have hh := (x4.trans (ExtN.of sd4)) _ _ hL3 (fun ps z => nomatch z)
    rw [z] at nl4
    rw [nl4] at hh
    cases hh
  refine ⟨L, _, _, rfl, rfl, hLG, (by show 3 < sizeLine; decide), ?_⟩
  have hL4 : (upd G4 L (.lst ([V.ref l1, V.ref l2, V.ref l3] ++ [V.ref l4]))) L = some (.lst [V.ref l1, V.ref l2, V.ref l3, V.ref l4]) := upd_same
  have hl1k : (upd G4 L (.lst ([V.ref l1, V.ref l2, V.ref l3] ++ [V.ref l4]))) l1 = _ := (upd_ne ne1).trans (xk _ _ hl1' (fun ps z => nomatch z))
  have hl2k : (upd G4 L (.lst ([V.ref l1, V.ref l2, V.ref l3] ++ [V.ref l4]))) l2 = _ := (upd_ne ne2).trans (xk _ _ hl2' (fun ps z => nomatch z))
  have hl3k : (upd G4 L (.lst ([V.ref l1, V.ref l2, V.ref l3] ++ [V.ref l4]))) l3 = _ := (upd_ne ne3).trans (xk _ _ hl3' (fun ps z => nomatch z))
  have hl4k : (upd G4 L (.lst ([V.ref l1, V.ref l2, V.ref l3] ++ [V.ref l4]))) l4 = _ := (upd_ne ne4).trans hl4
  have e4' : ExtN G (upd G4 L (.lst ([V.ref l1, V.ref l2, V.ref l3] ++ [V.ref l4]))) := ext_put eG e1 nL
  have t4' : Tabs (TR K) (upd G4 L (.lst ([V.ref l1, V.ref l2, V.ref l3] ++ [V.ref l4]))) := tabs_put tG hLG
  generalize upd G4 L (.lst ([V.ref l1, V.ref l2, V.ref l3] ++ [V.ref l4])) = C4 at hL4 hl1k hl2k hl3k hl4k e4' t4' ⊢
  clear hl1' hl2' hl3' hLG tG eG xk sd4 sl4 nl4 hl4 nd sd x4 tb4 hL3 e3' t3'
  have hl1' := hl1k
  clear hl1k
  have hl2' := hl2k
  clear hl2k
  have hl3' := hl3k
  clear hl3k
  have hl4' := hl4k
  clear hl4k
  -- told 5
  refine ⟨_, rfl, .inl ⟨rfl, _, .inl (.inl hL4)⟩, t4', fun A5 x5 tb5 => ?_⟩
  have F5a := F.ext (e4'.trans x5)
  refine ⟨_, rfl, _, rfl, (by show 1 ≤ sizeLine; decide), fun c5a nc5a => ?_⟩
  have ss5a := same_upd nc5a (o := HO.lst [V.non])
  refine ⟨_, rfl, D, uin, rfl, .inl (.inl (.inl (ss5a _ _ F5a.hD))), c5a, _, _, rfl, rfl, upd_same, (by omega), (by omega), (by
    show 1 * ((uin.length : Nat) : Int).toNat ≤ sizeLine
    exact Nat.le_trans (show _ ≤ 2 by omega) (by decide)), fun c5 nc5 => ?_⟩
  have efl : (List.replicate ((uin.length : Nat) : Int).toNat [V.non]).flatten = List.replicate uin.length V.non := by
    rw [Int.toNat_natCast, List.flatten_replicate_singleton]
  rw [efl] at *
  have ss5 := ss5a.trans (same_upd nc5 (o := HO.lst (List.replicate uin.length V.non)))
  have hc5 : (upd (upd A5 c5a (.lst [V.non])) c5 (.lst (List.replicate uin.length V.non))) c5 = some (.lst (List.replicate uin.length V.non)) := upd_same
  generalize upd (upd A5 c5a (.lst [V.non])) c5 (.lst (List.replicate uin.length V.non)) = A5b at ss5 hc5 ⊢
  have F5 := F5a.ext (ExtN.of ss5)
  refine ⟨p, c5, .int (u : Int), m, _, rfl, F5.M, W, hc5, (by rw [List.length_replicate]; omega), F5.b5 (fun H' d sd nd => .inr ⟨rfl, d, .int ((0 : Nat) : Int), zI 0, rfl, upd_same, dshow_i (by decide), fun l5 G5 sl5 nl5 hl5 => ?_⟩)⟩
  have sd5 := ss5.trans (sd.trans (same_upd nd (o := HO.xd [("index", .int ((0 : Nat) : Int))])))
  have xk := x5.trans (ExtN.of (sd5.trans sl5))
  have eG := e4'.trans xk
  have tG := tb5.ext (sd5.trans sl5)
  have hLG := xk _ _ hL4 (fun ps z => nomatch z)
  have ne5 : l5 ≠ L := fun z => by
    have hh := (x5.trans (ExtN.of sd5)) _ _ hL4 (fun ps z => nomatch z)
    rw [z] at nl5
    rw [nl5] at hh
    cases hh
  refine ⟨L, _, _, rfl, rfl, hLG, (by show 4 < sizeLine; decide), ?_⟩
  have hL5 : (upd G5 L (.lst ([V.ref l1, V.ref l2, V.ref l3, V.ref l4] ++ [V.ref l5]))) L = some (.lst [V.ref l1, V.ref l2, V.ref l3, V.ref l4, V.ref l5]) := upd_same
  have hl1k : (upd G5 L (.lst ([V.ref l1, V.ref l2, V.ref l3, V.ref l4] ++ [V.ref l5]))) l1 = _ := (upd_ne ne1).trans (xk _ _ hl1' (fun ps z => nomatch z))
  have hl2k : (upd G5 L (.lst ([V.ref l1, V.ref l2, V.ref l3, V.ref l4] ++ [V.ref l5]))) l2 = _ := (upd_ne ne2).trans (xk _ _ hl2' (fun ps z => nomatch z))
  have hl3k : (upd G5 L (.lst ([V.ref l1, V.ref l2, V.ref l3, V.ref l4] ++ [V.ref l5]))) l3 = _ := (upd_ne ne3).trans (xk _ _ hl3' (fun ps z => nomatch z))
  have hl4k : (upd G5 L (.lst ([V.ref l1, V.ref l2, V.ref l3, V.ref l4] ++ [V.ref l5]))) l4 = _ := (upd_ne ne4).trans (xk _ _ hl4' (fun ps z => nomatch z))
  have hl5k : (upd G5 L (.lst ([V.ref l1, V.ref l2, V.ref l3, V.ref l4] ++ [V.ref l5]))) l5 = _ := (upd_ne ne5).trans hl5
  have e5' : ExtN G (upd G5 L (.lst ([V.ref l1, V.ref l2, V.ref l3, V.ref l4] ++ [V.ref l5]))) := ext_put eG e1 nL
  have t5' : Tabs (TR K) (upd G5 L (.lst ([V.ref l1, V.ref l2, V.ref l3, V.ref l4] ++ [V.ref l5]))) := tabs_put tG hLG
  generalize upd G5 L (.lst ([V.ref l1, V.ref l2, V.ref l3, V.ref l4] ++ [V.ref l5])) = C5 at hL5 hl1k hl2k hl3k hl4k hl5k e5' t5' ⊢
  clear hl1' hl2' hl3' hl4' hLG tG eG xk sd5 sl5 nl5 hl5 nd sd x5 tb5 hL4 e4' t4'
  have hl1' := hl1k
  clear hl1k
  have hl2' := hl2k
  clear hl2k
  have hl3' := hl3k
  clear hl3k
  have hl4' := hl4k
  clear hl4k
  have hl5' := hl5k
  clear hl5k
  -- what is due
  obtain ⟨_, dz, g1, g2, g3, g4, ez⟩ := F.odd C5 e5'
  refine ⟨_, rfl, y, dz, rfl, g1, g2, g3, g4, (by show 2 ≤ sizeLine; decide), fun d1 nd1 => ?_⟩
  rw [← ez]
  have q1 := same_upd nd1 (o := HO.lst [V.str "count", .str z8])
  have j1 : (upd C5 d1 (.lst [V.str "count", .str z8])) d1 = some (.lst [V.str "count", .str z8]) := upd_same
  generalize upd C5 d1 (.lst [V.str "count", .str z8]) = D1 at q1 j1 ⊢
  refine ⟨(by show 2 ≤ sizeLine; decide), fun d2 nd2 => ?_⟩
  have q2 := same_upd nd2 (o := HO.lst [V.str "inputs", .str "None"])
  have j2 : (upd D1 d2 (.lst [V.str "inputs", .str "None"])) d2 = some (.lst [V.str "inputs", .str "None"]) := upd_same
  generalize upd D1 d2 (.lst [V.str "inputs", .str "None"]) = D2 at q2 j2 ⊢
  refine ⟨(by show 2 ≤ sizeLine; decide), fun d3 nd3 => ?_⟩
  have q3 := same_upd nd3 (o := HO.lst [V.str "inputs", .str "None"])
  have j3 : (upd D2 d3 (.lst [V.str "inputs", .str "None"])) d3 = some (.lst [V.str "inputs", .str "None"]) := upd_same
  generalize upd D2 d3 (.lst [V.str "inputs", .str "None"]) = D3 at q3 j3 ⊢
  refine ⟨_, rfl, (j : Int), rfl, (by
    have : j = 0 ∨ j = 1 := by omega
    rcases this with rfl | rfl <;> decide +kernel), (by show 2 ≤ sizeLine; decide), fun d4 nd4 => ?_⟩
  rw [txt_j (show j < 2 by omega)]
  have q4 := same_upd nd4 (o := HO.lst [V.str "inputs", .str (zI j)])
  have j4 : (upd D3 d4 (.lst [V.str "inputs", .str (zI j)])) d4 = some (.lst [V.str "inputs", .str (zI j)]) := upd_same
  generalize upd D3 d4 (.lst [V.str "inputs", .str (zI j)]) = D4 at q4 j4 ⊢
  refine ⟨(by show 2 ≤ sizeLine; decide), fun d5 nd5 => ?_⟩
  have q5 := same_upd nd5 (o := HO.lst [V.str "inputs", .str "0"])
  have j5 : (upd D4 d5 (.lst [V.str "inputs", .str "0"])) d5 = some (.lst [V.str "inputs", .str "0"]) := upd_same
  generalize upd D4 d5 (.lst [V.str "inputs", .str "0"]) = D5 at q5 j5 ⊢
  refine ⟨(by show 5 ≤ sizeLine; decide), fun E6 nE => ?_⟩
  have q6 := same_upd nE (o := HO.lst [V.ref d1, .ref d2, .ref d3, .ref d4, .ref d5])
  have j6 : (upd D5 E6 (.lst [V.ref d1, .ref d2, .ref d3, .ref d4, .ref d5])) E6 = some (.lst [V.ref d1, .ref d2, .ref d3, .ref d4, .ref d5]) := upd_same
  generalize upd D5 E6 (.lst [V.ref d1, .ref d2, .ref d3, .ref d4, .ref d5]) = D6 at q6 j6 ⊢
  have r5 := q5.trans q6
  have r4 := q4.trans r5
  have r3 := q3.trans r4
  have r2 := q2.trans r3
  have r1 := q1.trans r2
  have dL : Dp K D6 (.ref L) (dueD z8 j) := .lst (.inl (.inl (r1 _ _ hL5))) (.cons (dp_two (r1 _ _ hl1')) (.cons (dp_two (r1 _ _ hl2')) (.cons (dp_two (r1 _ _ hl3')) (.cons (dp_two (r1 _ _ hl4')) (.cons (dp_two (r1 _ _ hl5')) .nil)))))
  have dE : Dp K D6 (.ref E6) (dueD z8 j) := .lst (.inl (.inl j6)) (.cons (dp_two (r2 _ _ j1)) (.cons (dp_two (by rw [txt_n] at j2; exact r3 _ _ j2)) (.cons (dp_two (by rw [txt_n] at j3; exact r4 _ _ j3)) (.cons (dp_two (r5 _ _ j4)) (.cons (dp_two (by rw [txt_0] at j5; exact q6 _ _ j5)) .nil)))))
  have sz8 := shaped_due az8 (show j < 2 by omega)
  refine ⟨_, rfl, _, rfl, _, _, dL, dE, sz8, sz8, ?_⟩
  rw [eqv_due]
  refine ⟨true, rfl, iteT ?_⟩
  have eE : ExtN G D6 := e5'.trans (ExtN.of r1)
  have FE := F.ext eE
  refine ⟨_, rfl, _, rfl, _, rfl, p, D, u, m, rows, uin, rfl, FE.M, W, RO, hu, FE.hD, FE.al, I2, fun H' rv2 s' tv2 => ?_⟩
  refine nil_h ?_
  refine rep_run W RB hu tv2 ?_
  refine ⟨_, rfl, rfl, ?_⟩
  rw [show decide (V.str (rTx (m.shown rows (u * m.per))) = V.str (rTx (m.shown rows (u * m.per)))) = true from decide_eq_true rfl]
  have eH := eE.trans (ExtN.of s')
  refine k H' ((Kp.old (o10.trans o10G)).trans (Kp.ext eH)) ?_ ((t5'.ext r1).ext s')
  obtain ⟨d, e, c, hh, r⟩ := hsG
  exact ⟨d, e, c, eH _ _ hh (fun ps z => nomatch z), r⟩
end
end K54

namespace K54
open PySem PySem.Spec PyProof.Rows L2 Hk NumM NumT SX L2H LamX
abbrev N_law : List Str := ["_law_script", "_law_spot", "_law_spring_here", "_law_turn"]
theorem sql_kp {K : Fr} {a p : Addr} {xs : List V} {H0 H H' : Hp} (h : SqL K H0 a xs) (np : H0 p = none) (s : Same H0 H) (k : Kp p H H') : SqL K H' a xs := by
  rcases h with (z | ⟨o1, z⟩) | z
  · exact .inl (.inl (k _ _ (s _ _ z) (ne_of_none z np) (fun ps q => nomatch q)))
  · exact .inl (.inr ⟨o1, k _ _ (s _ _ z) (ne_of_none z np) (fun ps q => nomatch q)⟩)
  · exact .inr z
theorem kp_put {a m : Addr} {o : HO} {H0 H : Hp} (k : Kp a H0 H) (n0 : H0 m = none) : Kp a H0 (upd H m o) := fun b o' h n nt => by
  rw [upd_ne (fun z => by rw [z, n0] at h; cases h)]
  exact k b o' h n nt
theorem spr_put {a m : Addr} {o : HO} {H : Hp} (s : SprAt a H) (n : a ≠ m) : SprAt a (upd H m o) := by
  obtain ⟨d, e, c, h, r⟩ := s
  exact ⟨d, e, c, (upd_ne n).trans h, r⟩
def spLaw (K : Fr) : Sp := fun vs H Q _ => ∃ (a : Addr) (ns : List Int), vs = [.ref a] ∧ SqL K H a (ns.map V.int) ∧ ns.length ≤ 63 ∧ Tabs (TR K) H ∧ ∀ H' : Hp, Q (.bl true) H'
section
variable {P : Program} {w : World} {K : Fr} {mg : Str → Option Value} {base : Heap}
theorem g_law_ok (T : Tx K mg) (TB : ∀ d ∈ TS, TabB base mg (cOf d K) (pOf d K)) {fd : FuncData} (D : DAt K d_law fd) : FnG P w K mg base 13 (d_law.ad K) fd ["_law_script"] (spLaw K) := by
  have C_spring := c_spring (P := P) (w := w) (base := base) T
  have C_right := c_right (P := P) (w := w) (base := base) T (TB _ (by simp))
  refine okg_of (N := N_law) D sc_law (fun vs H Q E h => ?_) (fun cdv A outer s H vs Q E hr hc h => ?_)
  · obtain ⟨a, ns, rfl, _⟩ := h
    rfl
  · obtain ⟨a, ns, rfl, hS, hn, hT, k⟩ := h
    have r1 : Room 1 _ := hr.mono (by decide)
    refine ⟨_, (pss_cons (ps_for PassesOwn.never rfl (pi_range1 (by rfl) (n_range T) (pa_cons (pe_callB (call_max2 rfl) (by rfl) (n_max T) bo_max (pa_cons pe_int (pa_cons (pe_callB (call_min2 rfl) (by rfl) (n_min T) bo_min (pa_cons (pe_callB call_len_seq (by rfl) (n_len T) bo_len (pa_cons (pv 0) pa_nil)) (pa_cons pe_int pa_nil))) pa_nil))) pa_nil)) (pg_name (i := 1) sc_law.nd rfl (.inl rfl))
 (pss_cons (ps_set (i := 2) sc_law.nd rfl (.inr rfl) (pe_c C_spring r1 (pa_cons (pv 0) (pa_cons (pv 1) pa_nil))))
 (pss_one (ps_if (pt_not (pt_val (pe_callB (cr_all rfl) (by rfl) (n_all T) bo_all (pa_cons (pe_lc (own := [("_law_turn", 3)]) (g := gName 3) (tt := tYes) rfl sc_law.nd (pi_range1 (by rfl) (n_range T) (pa_cons pe_int pa_nil)) (blkOk_by (N := N_law) (sc := defScope s_law) (by decide +kernel)) (fun _ _ _ _ _ => pg_name (i := 3) sc_law.nd rfl (.inl rfl)) (fun _ _ _ _ _ => pts_nil) (fun _ _ _ _ _ => pe_g C_right hr hc (pa_cons (pv 2) pa_nil))) pa_nil))))
 (pss_one (ps_ret pe_bl))
 pss_nil))))
 (pss_one (ps_ret pe_bl))), ?_⟩
    have hlen : ((ns.map V.int).length : Int) = (ns.length : Int) := by rw [List.length_map]
    refine ⟨_, rfl, a, _, rfl, .inl hS, _, _, rfl, _, _, rfl, _, rfl, ?_⟩
    rw [hlen]
    generalize hm : (if (if (4 : Int) < (ns.length : Int) then (4 : Int) else (ns.length : Int)) > 2 then (if (4 : Int) < (ns.length : Int) then (4 : Int) else (ns.length : Int)) else (2 : Int)) = m
    have hm2 : m ≤ 4 ∧ 0 ≤ m := by rw [← hm]; split <;> (try split) <;> omega
    refine ⟨by omega, by omega, ?_⟩
    refine for_range (lo := 0) (n := m.toNat) (fun i σ H' => SqL K H' a (ns.map V.int) ∧ Tabs (TR K) H' ∧ ∃ x3 x4 x5 : Option V, σ = [some (.ref a), x3, x4, x5]) ⟨hS, hT, none, none, none, rfl⟩ ?_ ?_
    · rintro i σ H' hi ⟨sq, tq, x3, x4, x5, rfl⟩
      have e0 : (0 : Int) + (i : Int) = ((i : Nat) : Int) := by omega
      rw [e0]
      refine ⟨_, rfl, _, rfl, a, ns, i, rfl, sq, hn, by omega, fun p d e c np sp => ?_⟩
      have sp0 : SprAt p (upd H' p (.lst (sprL d e c))) := ⟨d, e, c, upd_same, sp⟩
      have so : Same H' (upd H' p (.lst (sprL d e c))) := same_upd np
      generalize upd H' p (.lst (sprL d e c)) = H2 at sp0 so ⊢
      have t2 := tq.ext so
      refine ⟨2, rfl, by decide, by decide, fun D nD => ?_⟩
      have pD : p ≠ D := sp0.ne nD
      refine lc_range (lo := 0) (n := 2) (fun j H5 => Kp p H2 H5 ∧ SprAt p H5 ∧ Tabs (TR K) H5 ∧ H5 D = some (.lst (List.replicate j (.bl true)))) ⟨Kp.same (same_upd nD), sp0.same (same_upd nD), t2.ext (same_upd nD), upd_same⟩ ?_ ?_
      · rintro j H5 hj ⟨o5, s5, t5, hD⟩
        refine ⟨rfl, ?_⟩
        unfold tYes
        dsimp only
        rw [if_pos rfl]
        refine ⟨_, rfl, p, rfl, s5, t5, fun H6 k6 s6 t6 => ?_⟩
        have hD6 := k6 _ _ hD (Ne.symm pD) (fun ps q => nomatch q)
        refine ⟨_, hD6, ?_, ?_, ?_, ?_, ?_⟩
        · rw [List.length_replicate]
          exact Nat.lt_of_lt_of_le (show j < 1000 by omega) (by decide)
        · exact kp_put (o5.trans k6) nD
        · exact spr_put s6 pD
        · exact tabs_put t6 hD6
        · rw [upd_same, List.replicate_succ']
      · rintro H5 ⟨o5, s5, t5, hD⟩
        refine ⟨D, [true, true], rfl, .inl (.inl hD), true, rfl, iteF ?_⟩
        exact ⟨sql_kp sq np so o5, t5, _, _, _, rfl⟩
    · rintro σ H' ⟨_, _, x3, x4, x5, rfl⟩
      exact k H'
end
theorem tabs_in {K : Fr} {H : Hp} (h : ∀ d ∈ TS, H (pOf d K) = some (.tbl #[])) : Tabs (TR K) H := fun p hp => by
  obtain ⟨d, hd, rfl⟩ := List.mem_map.mp hp
  exact ⟨#[], h d hd, trivial, fun pos cv hc => nomatch (show (none : Option Value) = some cv from hc)⟩
theorem facts {P : Program} {w : World} {K : Fr} {h : Heap} {mg : Str → Option Value} {f : Addr} (X : K.In h) (G : h.Ns mainGlobals mg) (hfa : mg ("law" : Str) = some (.ref f)) (c : Sy K) :
    ∃ fd : FuncData, (∀ (s : Shared) (u : Value), BindsTo s fd ⟨[u], []⟩ [("_law_script", u)]) ∧ ∀ base : Heap, K.In base → base.Ns mainGlobals mg → (∀ d ∈ TS, TabB base mg (cOf d K) (pOf d K)) → FnG P w K mg base 13 f fd ["_law_script"] (spLaw K) := by
  have T : Tx K mg := ⟨c, h, X, G⟩
  obtain ⟨fd, D⟩ := a_law c
  have e := hfa.symm.trans (g_law T)
  cases e
  have b := FunD.bindsA (ps := ["_law_script"]) D fun _ _ _ _ _ _ us hl => match us, hl with | [_], _ => rfl
  exact ⟨fd, fun s u => b s [u] rfl, fun base _ _ TB => g_law_ok T TB D⟩
end K54

open PySem PySem.W PySem.Calls PyProof.Rows
theorem PySem.Challenge.cw_delaynets_k54_machine_runs_refused_holds : PySem.Challenge.rw_delaynets_k54_machine_runs_refused.Holds := by
  w_on; o_law
  refine HeadRun.head_imp (r := OpenLaw.row PySem.Challenge.rw_delaynets_k54_machine_runs_refused) (q := K54.qv) (H := K54.hk) (ob := K54.ob) (M := 9000) (loose := K54.loose) (d := HandSHeadRun.topDef (OpenLaw.row PySem.Challenge.rw_delaynets_k54_machine_runs_refused).prog K54.lawAt) (kwd := []) K54.ob_eq
    K54.run (by kernel_rfl) (by kernel_rfl) (by kernel_rfl) (by rfl) (by first | assumption | decide +kernel) (by decide +kernel) ⟨rfl, rfl, rfl, rfl, rfl, by decide +kernel⟩ ?hw ?hc
  case hw => w_witness2
  case hc =>
    refine Hk.end_gT (l := PySem.Challenge.rw_delaynets_k54_machine_runs_refused) (k := 13) (x := "_law_script") rfl (by kernel_rfl) ⟨rfl, by decide, by decide⟩ ?F
    intro w mg fa h Y G hmg0
    obtain ⟨K, KX, c⟩ := Y
    have hmg : mg ("law" : PySem.Str) = some (.ref fa) := by
      have e : (HandSHeadRun.topDef (OpenLaw.row PySem.Challenge.rw_delaynets_k54_machine_runs_refused).prog K54.lawAt).name = ("law" : PySem.Str) := by kernel_rfl
      rw [← e]
      exact hmg0
    obtain ⟨fd, hb, hF⟩ := K54.facts (P := (PySem.Challenge.rw_delaynets_k54_machine_runs_refused).prog) (w := w) KX G hmg c.s
    have at_ : ∀ p ∈ K54.TS.map (fun d => (Hk.cOf d K, Hk.pOf d K)), ∃ d ∈ K54.TS, p = (Hk.cOf d K, Hk.pOf d K) := fun p hp => by
      obtain ⟨d, hd, e⟩ := List.mem_map.mp hp
      exact ⟨d, hd, e.symm⟩
    refine ⟨K, fd, K54.TS.map (fun d => (Hk.cOf d K, Hk.pOf d K)), K54.spLaw K, KX, fun p hp => ?_, fun p hp => ?_, fun p hp => ?_, hb, fun H a ns hl _ hT hS => ⟨a, ns, rfl, hS, hl, K54.tabs_in (fun d hd => hT (Hk.cOf d K, Hk.pOf d K) (List.mem_map.mpr ⟨d, hd, rfl⟩)), fun _ => rfl⟩,
      fun base hb1 hb2 hTB => hF base hb1 hb2 (fun d hd => hTB (Hk.cOf d K, Hk.pOf d K) (List.mem_map.mpr ⟨d, hd, rfl⟩))⟩
    · obtain ⟨d, hd, rfl⟩ := at_ p hp
      exact c.empty _ hd
    · obtain ⟨d, hd, rfl⟩ := at_ p hp
      exact c.out _ hd
    · obtain ⟨d, hd, rfl⟩ := at_ p hp
      exact codeHd_of_K KX (c.hd _ hd)
#print axioms PySem.Challenge.cw_delaynets_k54_machine_runs_refused_holds

