import PyProof.Rows.All
import Wide.All
import OpenK.AllK
import Wide.FinOn
import KE.KStateDown
import HandS.ForExc
import HandS.More
import HandS.Defaults
import HandS.Head0
import KE.HD3
import HandS.Head1
import HandS.Head2
import HandS.HeadEnd
import HandS.HeadHook1
import HandS.HeadHook2
import HandS.HeadWalk
import HandS.HeadNt
import HandS.Property
import HandS.Gcd
import HandS.Wide
import HandS.MakeKw
import HandS.Comp
import HandS.Text
import HandS.FStr
import HandS.StrMore
import HandS.Flow
import HandS.IsInst
import HandS.EndBits
import HandS.RaiseMore
import HandS.SlotsOwn
import HandS.OwnEq
import HandS.ClsMeth
import HandS.CallRecv
import HandS.MakeKwOnly
import HandS.TupLe
import KE.KCallOwn
import KE.KOpsOwn
import HandS.Codes
import KE.IntTextLaws
import PyProof.Rows.ReprOcc
import PyProof.Rows.SortStrRead
import HandS.NoneIn
import HandS.ExcInit
import HandS.ExcField
import HandS.ExcOwn
import HandS.ExcIs
import HandS.TryMany
import KE.KExcIs
import KE.KExcInit
import HandS.ExcValue
import HandS.HotCalls
import HandS.Iter
import HandS.Walk
import HandS.ExcCtx
import HandS.ExcInitHot
import KE.KTryMore
import HandS.Lambda
import HandS.EndTab
import HandS.HeadHook4
import HandS.NestedK
import HandS.Star
import HandS.SortKw
import HandS.Style
import HandS.Deep
import HandS.SetTxt0
import HandS.Set
import HandS.SetFor
import HandS.Strs
import HandS.SortOrd
import PyProof.Rows.SortShellAny
import PyProof.WalkInts
import PyProof.EnumMake
import PyProof.Draws
import KE.GoesMore
import PyProof.ReprDict
import PySem.Challenge.RW_delaynets_k11_signals_refused
set_option Elab.async false
set_option linter.all false
set_option maxRecDepth 100000
set_option maxHeartbeats 0
/-! A head's facts by names: every fact a test of the written part, every def by its own path. -/
namespace Hk
open PySem PySem.Spec PyProof.Rows L2
abbrev Fr := PySem.W.Frag
abbrev Tst := Fr → Bool
/-- a def of the text: the path to its function object, its text, its defaults -/
structure Dx where
  ad : Fr → Addr
  nm : Str
  ql : Str
  st : Stmt
  df : List He.Dv := []
abbrev Seen : Type := Option (Str × Str × Arguments × FuncBody × Scope × Addr × List (Str × Addr) × Addr)
def seenAt (K : Fr) (a : Addr) : Seen :=
  match K.lookup a with
  | some ⟨_, _, .func g, _⟩ => some (g.name, g.qualname, g.params, g.body, g.scope, g.globals, g.closure, g.builtins)
  | _ => none
def Dx.due (d : Dx) : Seen := some (d.nm, d.ql, defArgs d.st, .stmts (defBody d.st), defScope d.st, mainGlobals, [], builtinsNs)
def Dx.vs (K : Fr) (d : Dx) : List V := d.df.map (He.Dv.v K)
def Dx.okb (K : Fr) (d : Dx) : Bool :=
  PySem.W.keepIn K (.ref (d.ad K)) &&
    (match K.lookup (d.ad K) with
    | some ⟨_, _, .func g, _⟩ => PySem.W.codeIn K g.code d.ql && He.dflB K g.defaults (d.vs K)
    | _ => false)
/-- the def d stands at its address as fd -/
abbrev DAt (K : Fr) (d : Dx) (fd : FuncData) : Prop := FunD K d.nm d.ql (defArgs d.st) (defBody d.st) (defScope d.st) (d.vs K) [] (d.ad K) fd
theorem Dx.at_of {K : Fr} {d : Dx} (e : seenAt K (d.ad K) = d.due) (c : d.okb K = true) : ∃ fd, DAt K d fd := by
  obtain ⟨kp, c2⟩ := He.ba c
  unfold seenAt at e
  cases q : K.lookup (d.ad K) with
  | none =>
    rw [q] at c2
    exact nomatch c2
  | some ob =>
    obtain ⟨oc, od, dt, osl⟩ := ob
    rw [q] at c2 e
    cases dt with
    | func g =>
      obtain ⟨m1, m2, m3, m4, m5, m6, m7, m8, m9, m10, m11, m12, m13, m14, m15⟩ := g
      have e2 : (some (m1, m2, m3, m4, m5, m6, m7, m15) : Seen) = some (d.nm, d.ql, defArgs d.st, .stmts (defBody d.st), defScope d.st, mainGlobals, [], builtinsNs) := e
      simp only [Option.some.injEq, Prod.mk.injEq] at e2
      obtain ⟨u1, u2, u3, u4, u5, u6, u7, u8⟩ := e2
      subst u1 u2 u3 u4 u5 u6 u7 u8
      obtain ⟨v1, v2⟩ := He.ba (show (PySem.W.codeIn K m13 d.ql && He.dflB K m8 (d.vs K)) = true from c2)
      exact ⟨_, ⟨oc, od, m8, m9, m10, m11, m12, m13, m14, osl, rfl, q, v1, He.dflB_ok v2, .inl rfl⟩, kp⟩
    | _ => exact nomatch c2
abbrev Al2 : Type := Bool × List Seen
def look (fa : List Tst) (fn : List Dx) (K : Fr) : Al2 := ((fa.all fun f => f K) && fn.all fun d => d.okb K, fn.map fun d => seenAt K (d.ad K))
def due (fn : List Dx) : Al2 := (true, fn.map Dx.due)
def Says (fa : List Tst) (fn : List Dx) (K : Fr) : Prop := look fa fn K = due fn
def lookG (n : Nat) (fa : List Tst) (fn : List Dx) (g : Addr → Option Obj) : Al2 := look fa fn (He.frG g (cStatics :: He.asD g n))
def hook (n : Nat) (fa : List Tst) (fn : List Dx) : PySem.W.Hook where
  α := Al2
  obs := fun s => lookG n fa fn s.heap.get?
  val := fun _ => due fn
  says := fun _ h => ∃ K : Fr, K.In h ∧ Says fa fn K
  of := fun _ _ e => ⟨_, He.frG_in, e⟩
  keeps := fun _ _ _ ⟨K, hK, c⟩ k => ⟨K, PySem.W.Frag.In.keeps hK k, c⟩
theorem lookG_eq {n : Nat} {fa : List Tst} {fn : List Dx} {g : Addr → Option Obj} {s : Shared} (h : ∀ a, g a = s.heap.get? a) : lookG n fa fn g = (hook n fa fn).obs s := by
  have e : g = s.heap.get? := funext h
  subst e
  rfl
section
variable {fa : List Tst} {fn : List Dx} {K : Fr}
theorem Says.tst (c : Says fa fn K) (i : Nat) {f : Tst} (h : fa[i]? = some f := by rfl) : f K = true := by
  have c0 := congrArg Prod.fst c
  have c1 := (He.ba (show ((fa.all fun f => f K) && fn.all fun d => d.okb K) = true from c0)).1
  exact List.all_eq_true.mp c1 f (List.mem_of_getElem? h)
theorem Says.dat (c : Says fa fn K) (i : Nat) {d : Dx} (h : fn[i]? = some d := by rfl) : ∃ fd, DAt K d fd := by
  have c0 := congrArg Prod.fst c
  have c2 := (He.ba (show ((fa.all fun f => f K) && fn.all fun d => d.okb K) = true from c0)).2
  have e : (fn.map fun d => seenAt K (d.ad K)) = fn.map Dx.due := congrArg Prod.snd c
  have e2 : (fn.map fun d => seenAt K (d.ad K))[i]? = (fn.map Dx.due)[i]? := by rw [e]
  rw [List.getElem?_map, List.getElem?_map, h] at e2
  exact Dx.at_of (Option.some.inj e2) (List.all_eq_true.mp c2 d (List.mem_of_getElem? h))
end
/-! ### tests -/
def tGlo (x : Str) : Tst := (He.Fa.glo x).ok
def tFree (x : Str) : Tst := (He.Fa.free x).ok
def tInt (x : Str) (i : Int) : Tst := (He.Fa.int x i).ok
def tStr (x z : Str) : Tst := (He.Fa.str x z).ok
def tCls (x : Str) : Tst := (He.Fa.cls x).ok
def tNoat (x f : Str) : Tst := (He.Fa.noat x f).ok
def tMeth (x m : Str) : Tst := (He.Fa.meth x m).ok
def tMkr (x : Str) : Tst := (He.Fa.mkr x).ok
/-- the name is a built-in function (brought in from a module) -/
def tBlt (x : Str) (id : String) : Tst := fun K => He.eqO (PySem.W.nsIn K mainGlobals x) (some (some (.builtin id)))
/-- the getter of the property f of the class x -/
def getAd (x f : Str) (K : Fr) : Addr := match PySem.W.recIn K (He.ma K (He.ga K x) f) "property" with
  | some (.ref g :: _) => g
  | _ => 0
def tProp (x f : Str) : Tst := fun K =>
  He.eqO (PySem.W.findIn K (.ref (He.ga K x)) f) (some (some (.ref (He.ma K (He.ga K x) f)))) &&
  (He.eqO (PySem.W.specialIn K (.ref (He.ma K (He.ga K x) f)) "__get__") (some (some (.builtin "property.__get__"))) &&
  (decide (PySem.W.takesIn K (.ref (He.ma K (He.ga K x) f)) = some true) &&
  (match PySem.W.recIn K (He.ma K (He.ga K x) f) "property" with
  | some (.ref _ :: _) => true
  | _ => false)))
theorem prop_ok {K : Fr} {x f : Str} (c : tProp x f K = true) : PropOf K (He.ga K x) f (He.ma K (He.ga K x) f) (getAd x f K) := by
  obtain ⟨c1, c⟩ := He.ba c
  obtain ⟨c2, c⟩ := He.ba c
  obtain ⟨c3, c4⟩ := He.ba c
  refine ⟨He.eqO_ok c1, He.eqO_ok c2, of_decide_eq_true c3, ?_⟩
  unfold getAd
  cases e : PySem.W.recIn K (He.ma K (He.ga K x) f) "property" with
  | none =>
    rw [e] at c4
    exact nomatch c4
  | some l =>
    rw [e] at c4
    cases l with
    | nil => exact nomatch c4
    | cons v r =>
      cases v with
      | ref g => exact ⟨r, rfl⟩
      | _ => exact nomatch c4
theorem blt_ok {K : Fr} {h : Heap} {mg : Str → Option Value} (X : K.In h) (G : h.Ns mainGlobals mg) {x : Str} {id : String} (c : tBlt x id K = true) : mg x = some (.builtin id) := PySem.W.mg_of X G (He.eqO_ok c)
/-- where a global def stands; a class's method -/
def gAd (x : Str) (K : Fr) : Addr := He.ga K x
def mAd (x m : Str) (K : Fr) : Addr := He.ma K (He.ga K x) m
end Hk
namespace Hk
open PySem PySem.Spec PyProof.Rows L2
/-- the function inside the static method m of the class x -/
def statAd (x m : Str) (K : Fr) : Addr := He5.wf K (He.ga K x) "staticmethod" m
def tStat (x m : Str) : Tst := fun K => He5.wrapB K (He.ga K x) "staticmethod" "staticmethod.__get__" m &&
  (PySem.W.readsIn K (He.ga K x) (.type "type") && (He.eqO (PySem.W.specialIn K (.ref (He.ga K x)) "__getattribute__") (some (some (.builtin "type.__getattribute__"))) && PySem.W.keepIn K (.ref (statAd x m K))))
/-- == is the class's own, != object's -/
def tNe (x : Str) : Tst := fun K => He.eqO (PySem.W.findIn K (.ref (He.ga K x)) "__ne__") (some (some (.builtin "object.__ne__"))) && decide (PySem.W.subIn K (.ref (He.ga K x)) (.type "object") = some true)
/-- what isinstance asks of an instance of the class x -/
def tIns (x : Str) : Tst := fun K => He.eqO (PySem.W.findIn K (.ref (He.ga K x)) "__class__") (some (some (.builtin "object.__class__"))) &&
  (He.eqO (PySem.W.specialIn K (.builtin "object.__class__") "__get__") (some (some (.builtin "getset_descriptor.__get__"))) && (decide (PySem.W.takesIn K (.builtin "object.__class__") = some true) && decide (PySem.W.mroIn K (He.ga K x) (.type "object") = some true)))
/-- isinstance of the built-in type t against the class x; of the class y against x -/
def tKit (t : String) (x : Str) (b : Bool) : Tst := fun K => decide (PySem.W.kitOne K (.type t) (.ref (He.ga K x)) = some b)
def tKitO (y x : Str) (b : Bool) : Tst := fun K => decide (PySem.W.kitOne K (.ref (He.ga K y)) (.ref (He.ga K x)) = some b)
def tKitB (y : Str) (t : String) (b : Bool) : Tst := fun K => decide (PySem.W.kitOne K (.ref (He.ga K y)) (.type t) = some b)
/-- a comparison of an instance of x with a value of the type t begins with the instance -/
def tFst (x : Str) (t : String) : Tst := fun K => PySem.W.notFirst K (He.ga K x) (.type t)
def tFstO (x : Str) : Tst := fun K => PySem.W.notFirst K (He.ga K x) (.ref (He.ga K x))
theorem ins_ok {K : Fr} {x : Str} (c : tIns x K = true) {H : Hp} {a dx : Addr} {fs : List (Str × V)} (e : H a = some (.ins (He.ga K x) dx fs)) (cl : Cls K (He.ga K x)) : TyOf K H (.ref a) (.ref (He.ga K x)) := by
  obtain ⟨c1, c⟩ := He.ba c
  obtain ⟨c2, c⟩ := He.ba c
  obtain ⟨c3, c4⟩ := He.ba c
  exact .ins e cl (He.eqO_ok c1) (He.eqO_ok c2) (of_decide_eq_true c3) (of_decide_eq_true c4)
def clsMk (x : Str) : Tst := fun K => tCls x K && tMkr x K
end Hk
namespace Hk
open PySem PySem.Spec PyProof.Rows L2
section
variable {P : Program} {w : World} {K : Fr} {mg : Str → Option Value} {base : Heap}
/-- the global name x stands for a def at ad that keeps the promise sp (nothing is raised), at level k -/
def Cal (P : Program) (w : World) (K : Fr) (mg : Str → Option Value) (base : Heap) (k : Nat) (x : Str) (ad : Addr) (ps : List Str) (sp : Sp) : Prop :=
  ∃ fd : FuncData, FnOk P w K mg base CX0 k ad fd ps sp ∧ Binds K fd ps [] ∧ PySem.W.keepIn K (.ref ad) = true ∧ mg x = some (.ref ad)
theorem Cal.mono {j k : Nat} {x : Str} {ad : Addr} {ps : List Str} {sp : Sp} (c : Cal P w K mg base j x ad ps sp) (h : j ≤ k) : Cal P w K mg base k x ad ps sp := by
  obtain ⟨fd, F, r⟩ := c
  exact ⟨fd, F.mono h, r⟩
theorem Cal.imp {k : Nat} {x : Str} {ad : Addr} {ps : List Str} {sp sp' : Sp} (c : Cal P w K mg base k x ad ps sp) (h : ∀ vs H Q E, sp' vs H Q E → sp vs H Q E) : Cal P w K mg base k x ad ps sp' := by
  obtain ⟨fd, F, r⟩ := c
  exact ⟨fd, F.imp h, r⟩
theorem pe_c {X : Cx} {k : Nat} {x : Str} {ad : Addr} {ps : List Str} {sp : Sp} {e : Expr} {es : List Expr} {t : TA} {p pos : Pos} (c : Cal X.prog X.w X.K X.mg X.base k x ad ps sp) (hr : Room k X.A) (ha : PA X (e :: es) t) (hg : Gl X x := by rfl)
    (hdb : (x == ("__debug__" : Str)) = false := by decide) (he : starEach (e :: es) X.env = (false, eval e X.env) :: starEach es X.env := by rfl) (hpl : (backTo pos (starEach es X.env)).any (·.1) = false := by rfl) :
    PE X (.Call (.Name x p) (e :: es) [] pos) (tCall sp [] E0 t) := by
  obtain ⟨fd, F, b, kp, m⟩ := c
  exact pe_call F hr hg m kp b .nil pass0 ha hdb he hpl
/-- the body of a def: its reading -/
abbrev Body (P : Program) (w : World) (K : Fr) (mg : Str → Option Value) (base : Heap) (k : Nat) (d : Dx) (N ps : List Str) (sp : Sp) : Prop :=
  ∀ (cdv : Value) (A : Around) (outer : List Env) (s : Shared) (H : Hp) (vs : List V) (Q : VK) (E : XK), Room k (A.deeper (envOfC d.ql (defScope d.st) s.heap.objs.size (d.ad K) cdv)) → sp vs H Q E →
      ∃ t, PSs (cxOf CX0 P w K mg base N d.ql (defScope d.st) (d.ad K) cdv A outer s H E).nox (defBody d.st) t ∧ t { nx := fun _ H' => Q .non H', rt := Q } (start N vs) H
theorem ok_of {k : Nat} {d : Dx} {N ps : List Str} {sp : Sp} {fd : FuncData} (D : DAt K d fd) (S : FnScope N ps (defScope d.st)) (len : ∀ vs H Q E, sp vs H Q E → vs.length = ps.length) (hb : Body P w K mg base k d N ps sp) :
    FnOk P w K mg base CX0 (k + 1) (d.ad K) fd ps sp := by
  refine FunD.ok D S len fun cdv A outer s H vs Q E hr h => ?_
  obtain ⟨t, h1, h2⟩ := hb cdv A outer s H vs Q E hr h
  exact ⟨t, h1.nox, h2⟩
theorem cal_of {k : Nat} {d : Dx} {N ps : List Str} {sp : Sp} {x : Str} (D : ∃ fd, DAt K d fd) (hv : d.df = []) (S : FnScope N ps (defScope d.st)) (hm : mg x = some (.ref (d.ad K)))
    (hbi : ∀ (kV doc pm : Value) (an : Option Addr) (cdv ct : Value) (us : List Value), us.length = ps.length → bindArgs (PySem.W.fnOf d.nm d.ql (defArgs d.st) (defBody d.st) (defScope d.st) .none kV doc pm an cdv ct) ⟨us, []⟩ = pure (ps.zip us))
    (len : ∀ vs H Q E, sp vs H Q E → vs.length = ps.length) (hb : Body P w K mg base k d N ps sp) : Cal P w K mg base (k + 1) x (d.ad K) ps sp := by
  obtain ⟨fd, D⟩ := D
  have e : d.vs K = [] := by
    unfold Dx.vs
    rw [hv]
    rfl
  have D' : FunD K d.nm d.ql (defArgs d.st) (defBody d.st) (defScope d.st) [] [] (d.ad K) fd := by
    rw [← e]
    exact D
  exact ⟨fd, ok_of D S len hb, FunD.bindsN D' hbi, D.kp, hm⟩
end
end Hk
namespace Hk
open PySem PySem.Spec PyProof.Rows L2
theorem bo_int : bootBuiltins "int" = some (.type "int") := by decide +kernel
theorem bo_str : bootBuiltins "str" = some (.type "str") := by decide +kernel
theorem bo_len : bootBuiltins "len" = some (.builtin "len") := by decide +kernel
theorem bo_min : bootBuiltins "min" = some (.builtin "min") := by decide +kernel
theorem bo_max : bootBuiltins "max" = some (.builtin "max") := by decide +kernel
theorem bo_abs : bootBuiltins "abs" = some (.builtin "abs") := by decide +kernel
theorem bo_repr : bootBuiltins "repr" = some (.builtin "repr") := by decide +kernel
theorem bo_isinstance : bootBuiltins "isinstance" = some (.builtin "isinstance") := by decide +kernel
theorem bo_all : bootBuiltins "all" = some (.builtin "all") := by decide +kernel
theorem bo_any : bootBuiltins "any" = some (.builtin "any") := by decide +kernel
theorem bo_range : bootBuiltins "range" = some (.type "range") := by decide +kernel
theorem bo_bool : bootBuiltins "bool" = some (.type "bool") := by decide +kernel
end Hk

/-! Defs below which nothing is being shown (no repr runs around them): so repr of made data has its rule. -/
namespace Hk
open PySem PySem.Spec PyProof.Rows L2
abbrev Calm (A : Around) : Prop := A.guards = some []
/-- a def's promise where no repr runs around the call; nothing is raised -/
structure FnG (P : Program) (w : World) (K : Fr) (mg : Str → Option Value) (base : Heap) (k : Nat) (f : Addr) (fd : FuncData) (ps : List Str) (sp : Sp) : Prop where
  len : ∀ vs H Q E, sp vs H Q E → vs.length = ps.length
  run : ∀ (A : Around) (out : List Env) (s : Shared) (H : Hp) (args : Args) (us : List Value) (vs : List V) (Q : VK), Room k A → Calm A → Env0 P w K mg base A out s H → BindsTo s fd args (ps.zip us) → Vals vs us → sp vs H Q E0 →
    codeAny (model P w) A (.call (.ref f) args) (CR CX0 out P w H s Q E0) s
section
variable {P : Program} {w : World} {K : Fr} {mg : Str → Option Value} {base : Heap}
theorem FnG.mono {j k : Nat} {f : Addr} {fd : FuncData} {ps : List Str} {sp : Sp} (F : FnG P w K mg base j f fd ps sp) (h : j ≤ k) : FnG P w K mg base k f fd ps sp :=
  ⟨F.len, fun A out s H args us vs Q r => F.run A out s H args us vs Q (r.mono h)⟩
theorem FnG.of {k : Nat} {f : Addr} {fd : FuncData} {ps : List Str} {sp : Sp} (F : FnOk P w K mg base CX0 k f fd ps sp) : FnG P w K mg base k f fd ps sp :=
  ⟨F.len, fun A out s H args us vs Q r _ e b v h => F.run A out s H args us vs Q E0 r e b v h⟩
theorem FnG.imp {k : Nat} {f : Addr} {fd : FuncData} {ps : List Str} {sp sp' : Sp} (F : FnG P w K mg base k f fd ps sp) (h : ∀ vs H Q E, sp' vs H Q E → sp vs H Q E) : FnG P w K mg base k f fd ps sp' :=
  ⟨fun vs H Q E q => F.len vs H Q E (h _ _ _ _ q), fun A out s H args us vs Q r g e b v q => F.run A out s H args us vs Q r g e b v (h _ _ _ _ q)⟩
/-- such a def is called from a body -/
theorem call_g {X : Cx} {pins : List (Addr × Obj)} {σ : L2.St} {H : Hp} {s : Shared} {Q : VK} {us : List Value} {vs : List V} {k : Nat} {f : Addr} {fd : FuncData} {ps : List Str} {sp : Sp} (F : FnG X.prog X.w X.K X.mg X.base k f fd ps sp)
    (hr : Room k X.A) (hc : Calm X.A) (hb : Binds X.K fd ps []) (I : Inv X pins σ H s) (r : Vals vs us) (h : sp vs H Q E0) : wpAny (model X.prog X.w) X.A (call (.ref f) us) (EP X pins σ Q) X.xe s := by
  have ln : us.length = ps.length := r.length.symm.trans (F.len _ _ _ _ h)
  have bd : BindsTo s fd ⟨us, []⟩ (ps.zip us) := by
    have := hb s us I.kIn (by rw [List.append_nil]; exact ln)
    rwa [List.append_nil] at this
  refine wpAny_call (codeAny_mono (F.run X.A X.stack s H ⟨us, []⟩ us vs Q hr hc I.env0 bd r h) fun z s' hq => ?_)
  rcases z with e | fl
  · exact (show False from hq).elim
  · cases fl with
    | ret u => exact I.after hq
    | _ => exact (show False from hq).elim
/-- the global name x: a def at ad that keeps sp -/
def CalG (P : Program) (w : World) (K : Fr) (mg : Str → Option Value) (base : Heap) (k : Nat) (x : Str) (ad : Addr) (ps : List Str) (sp : Sp) : Prop :=
  ∃ fd : FuncData, FnG P w K mg base k ad fd ps sp ∧ Binds K fd ps [] ∧ PySem.W.keepIn K (.ref ad) = true ∧ mg x = some (.ref ad)
theorem Cal.g {k : Nat} {x : Str} {ad : Addr} {ps : List Str} {sp : Sp} (c : Cal P w K mg base k x ad ps sp) : CalG P w K mg base k x ad ps sp := by
  obtain ⟨fd, F, r⟩ := c
  exact ⟨fd, .of F, r⟩
theorem CalG.mono {j k : Nat} {x : Str} {ad : Addr} {ps : List Str} {sp : Sp} (c : CalG P w K mg base j x ad ps sp) (h : j ≤ k) : CalG P w K mg base k x ad ps sp := by
  obtain ⟨fd, F, r⟩ := c
  exact ⟨fd, F.mono h, r⟩
/-- its reading -/
def tG (sp : Sp) (t : TA) : TE := fun σ H Q => t σ H fun vs H1 => sp vs H1 Q E0
theorem pe_g {X : Cx} {k : Nat} {x : Str} {ad : Addr} {ps : List Str} {sp : Sp} {e : Expr} {es : List Expr} {t : TA} {p pos : Pos} (c : CalG X.prog X.w X.K X.mg X.base k x ad ps sp) (hr : Room k X.A) (hc : Calm X.A) (ha : PA X (e :: es) t) (hg : Gl X x := by rfl)
    (hdb : (x == ("__debug__" : Str)) = false := by decide) (he : starEach (e :: es) X.env = (false, eval e X.env) :: starEach es X.env := by rfl) (hpl : (backTo pos (starEach es X.env)).any (·.1) = false := by rfl) :
    PE X (.Call (.Name x p) (e :: es) [] pos) (tG sp t) := by
  obtain ⟨fd, F, b, kp, m⟩ := c
  refine ⟨fun pins s σ H Q I h => wpAny_Call_Name_kw (ld_glob I hg m ?_ hdb)⟩
  refine PySem.W.callWith_K (h₀ := X.base) I.ok.mod.kin kp (thn (ha.run pos pins s σ H _ I h) fun us s1 ⟨vs, H1, J, r, q⟩ => ⟨J.kIn, ?_⟩) he hpl
  exact call_g F hr hc b J r q
abbrev BodyG (P : Program) (w : World) (K : Fr) (mg : Str → Option Value) (base : Heap) (k : Nat) (d : Dx) (N ps : List Str) (sp : Sp) : Prop :=
  ∀ (cdv : Value) (A : Around) (outer : List Env) (s : Shared) (H : Hp) (vs : List V) (Q : VK) (E : XK), Room k (A.deeper (envOfC d.ql (defScope d.st) s.heap.objs.size (d.ad K) cdv)) → Calm A → sp vs H Q E →
      ∃ t, PSs (cxOf CX0 P w K mg base N d.ql (defScope d.st) (d.ad K) cdv A outer s H E).nox (defBody d.st) t ∧ t { nx := fun _ H' => Q .non H', rt := Q } (start N vs) H
/-- such a def, by its body -/
theorem okg_of {k : Nat} {d : Dx} {N ps : List Str} {sp : Sp} {fd : FuncData} (D : DAt K d fd) (S : FnScope N ps (defScope d.st)) (len : ∀ vs H Q E, sp vs H Q E → vs.length = ps.length) (hb : BodyG P w K mg base k d N ps sp) :
    FnG P w K mg base (k + 1) (d.ad K) fd ps sp := by
  obtain ⟨oc, od, dV, kV, doc, pm, an, cdv, ct, osl, rfl, lk, hcd, _, _⟩ := D.ex
  refine ⟨len, fun A out s H args us vs Q hr hc e0 hbd r hsp => ?_⟩
  have old : ∀ b o, base.get? b = some o → s.heap.get? b = some o := fun b o z => (e0.bs b o z).1
  have KX : K.In s.heap := e0.mod.kin.keeps old
  have kd : ∀ y ∈ ps.zip us, (defScope d.st).names.lookup y.1 = some .local ∨ ((defScope d.st).names.lookup y.1 = some .cell ∧ ((cellsFrom (s.heap.objs.size + 1) (defScope d.st).names []).lookup y.1).isSome = true) := by
    rintro ⟨n, v⟩ hy
    have q := S.par n (List.of_mem_zip hy).1
    exact q.imp id fun q => ⟨q, PySem.W.cellsFrom_some _ _ _ (.inl q)⟩
  refine codeAny_call_function hr.depth (KX _ _ lk) rfl S.co S.gen rfl (PySem.W.codeRec_of KX hcd) (hbd _ _ _ _ ?_)
  refine wpAny_newFunctionEnv_cells S.kind kd fun env he s1 x => ?_
  subst he
  refine ⟨(e0.mod.nolimit.keeps old).keeps x.toInCall.keep, codeAny_func ?_⟩
  obtain ⟨t, ht, hq⟩ := hb cdv A out s H vs Q E0 (hr.deeper _) hc hsp
  have I : Inv (cxOf CX0 P w K mg base N d.ql (defScope d.st) (d.ad K) cdv A out s H E0) [] (start N vs) H s1 := inv_start S hr.hd e0 (len _ _ _ _ hsp) r x
  refine wpAny_mono (ht.nox.run [] s1 (start N vs) H _ I hq) (fun fl s' hs => ?_) fun e s' hs => hs
  cases fl with
  | next =>
    obtain ⟨σ', H', J, q⟩ := hs
    exact ⟨V.non, H', J.os, J.bare, J.base, J.hok, rfl, q⟩
  | ret u =>
    obtain ⟨v, σ', H', J, rv, q⟩ := hs
    exact ⟨v, H', J.os, J.bare, J.base, J.hok, rv, q⟩
  | brk =>
    obtain ⟨σ', H', J, q⟩ := hs
    exact False.elim q
  | cont =>
    obtain ⟨σ', H', J, q⟩ := hs
    exact False.elim q
theorem calg_of {k : Nat} {d : Dx} {N ps : List Str} {sp : Sp} {x : Str} (D : ∃ fd, DAt K d fd) (hv : d.df = []) (S : FnScope N ps (defScope d.st)) (hm : mg x = some (.ref (d.ad K)))
    (hbi : ∀ (kV doc pm : Value) (an : Option Addr) (cdv ct : Value) (us : List Value), us.length = ps.length → bindArgs (PySem.W.fnOf d.nm d.ql (defArgs d.st) (defBody d.st) (defScope d.st) .none kV doc pm an cdv ct) ⟨us, []⟩ = pure (ps.zip us))
    (len : ∀ vs H Q E, sp vs H Q E → vs.length = ps.length) (hb : BodyG P w K mg base k d N ps sp) : CalG P w K mg base (k + 1) x (d.ad K) ps sp := by
  obtain ⟨fd, D⟩ := D
  have e : d.vs K = [] := by
    unfold Dx.vs
    rw [hv]
    rfl
  have D' : FunD K d.nm d.ql (defArgs d.st) (defBody d.st) (defScope d.st) [] [] (d.ad K) fd := by
    rw [← e]
    exact D
  exact ⟨fd, okg_of D S len hb, FunD.bindsN D' hbi, D.kp, hm⟩
/-- the law's own end: such a def is called with the script -/
theorem end_g {l : PySem.W.OpenLaw} {q : Program} {loose : List Str} {XP : (Str → Option Value) → Heap → Prop} {YP : World → Heap → Prop} {d : DefRec} {k : Nat} {x : Str} (hn : l.most = some 63) (hdf : d.params.defaults = []) (hr : Room k callerA)
    (F : ∀ (w : World) (mg : Str → Option Value) (fa : Addr) (h : Heap), YP w h → h.Ns mainGlobals mg → mg d.name = some (.ref fa) →
      ∃ (K : Fr) (fd : FuncData) (sp : Sp), K.In h ∧ (∀ (s : Shared) (u : Value), BindsTo s fd ⟨[u], []⟩ [(x, u)]) ∧
        (∀ (H : Hp) (a : Addr) (ns : List Int), ns.length ≤ 63 → (∀ n ∈ ns, Builtin.Int.intBits n ≤ 1048576) → SqL K H a (ns.map V.int) → sp [.ref a] H (fun v _ => v = .bl true) E0) ∧
        ∀ base : Heap, K.In base → base.Ns mainGlobals mg → FnG l.prog w K mg base k fa fd [x] sp) :
    PySem.W.WalkO q loose XP YP l.row.toRowW d [] (fun f vs => PySem.call f vs) := by
  refine Att.attach_callB hn hdf fun w s₀ s₁ mg mb fa o pm cd doc a vs ns G Y ho hd hcd hmg hobj hints hlen hbits hg => ?_
  obtain ⟨K, fd, sp, KX, hbi, hsp, hF⟩ := F w mg fa _ Y G.T.g hmg
  have rv := vals_ints hints
  have sz : vs.length ≤ sizeLine := by
    have := hints.length
    have e : 63 ≤ sizeLine := by decide
    omega
  have szn : (ns.map V.int).length ≤ sizeLine := by
    rw [rv.length]
    exact sz
  -- an abstract heap in which the script alone may be tracked
  obtain ⟨H, hO, hS, hok, hA, hK⟩ : ∃ H : Hp, Only H ∧ SqL K H a (ns.map V.int) ∧ HOk l.prog w H s₁.heap ∧ (∀ b, H b ≠ none → b = a) ∧ (H a ≠ none → K.lookup a = none) := by
    cases hk : K.lookup a with
    | some ob =>
      have e := KX a ob hk
      rw [hobj] at e
      cases e
      refine ⟨fun _ => none, fun _ => .inl rfl, .inr ⟨_, vs.toArray, _, hk, rfl, rfl, rfl, ?_, ?_⟩, fun b u z => (nomatch z), fun b z => absurd rfl z, fun z => absurd rfl z⟩
      · rw [List.size_toArray]
        exact sz
      · simpa using rv
    | none =>
      have at_ : ∀ {b : Addr} {u : HO}, (if b = a then some (HO.frz { cls := .type "list", data := .seq vs.toArray } (.lst (ns.map V.int))) else none) = some u → b = a ∧ u = HO.frz { cls := .type "list", data := .seq vs.toArray } (.lst (ns.map V.int)) := fun {b u} z => by
        by_cases hb : b = a
        · rw [if_pos hb] at z
          exact ⟨hb, (Option.some.inj z).symm⟩
        · rw [if_neg hb] at z
          exact nomatch z
      refine ⟨fun b => if b = a then some (.frz { cls := .type "list", data := .seq vs.toArray } (.lst (ns.map V.int))) else none, fun b => ?_, .inl (.inr ⟨_, if_pos rfl⟩), fun b u z => ?_, fun b z => ?_, fun _ => rfl⟩
      · by_cases hb : b = a
        · exact .inr ⟨_, _, if_pos hb⟩
        · exact .inl (if_neg hb)
      · obtain ⟨e1, e2⟩ := at_ z
        subst e1 e2
        exact ⟨hobj, szn, vs, _, rv, hobj⟩
      · by_cases hb : b = a
        · exact hb
        · exact absurd (if_neg hb) z
  have old : ∀ {b : Addr} {ob : Obj}, s₁.heap.get? b = some ob → H b = none → (hidT s₁.heap H).get? b = some ob := fun e n => hidT_get e n
  have only_a : ∀ b, b ≠ a → H b = none := fun b hb => by
    cases z : H b with
    | none => rfl
    | some u => exact absurd (hA b (by rw [z]; exact fun y => nomatch y)) hb
  have dict_out : ∀ {b : Addr} {ob : Obj} {es : Array DictEntry} {ep : Nat}, s₁.heap.get? b = some ob → ob.data = .dict es ep → H b = none := fun {b ob es ep} e dd => only_a b fun z => by
    subst z
    rw [hobj] at e
    cases e
    exact nomatch dd
  have ns_ : ∀ {b : Addr} {m : Str → Option Value}, s₁.heap.Ns b m → (hidT s₁.heap H).Ns b m := fun {b m} ⟨ob, es, ep, e, dd, r⟩ => ⟨ob, es, ep, old e (dict_out e dd), dd, r⟩
  have K_ : K.In (hidT s₁.heap H) := fun b ob e => old (KX b ob e) (by
    cases z : H b with
    | none => rfl
    | some u =>
      have eb := hA b (by rw [z]; exact fun y => nomatch y)
      subst eb
      have := hK (by rw [z]; exact fun y => nomatch y)
      rw [this] at e
      exact nomatch e)
  obtain ⟨mc, l1, l2⟩ := G.T.nolimit
  have e0 : Env0 l.prog w K mg (hidT s₁.heap H) callerA [] s₁ H :=
    { frames := rfl, mod := ⟨K_, ns_ G.T.g, ⟨mb, ns_ G.T.b, G.T.builtins⟩, ⟨mc, ns_ l1, l2⟩⟩, bs := fun b ob e => of_hidT e, bsz := Nat.le_of_eq (hidT_size _ _), funs := trivial, frf := fun b hb => absurd hb (List.not_mem_nil), hok := hok, bare := .of_eq hg }
  refine codeAny_mono ((hF _ K_ (ns_ G.T.g)).run callerA [] s₁ H ⟨[.ref a], []⟩ [.ref a] [.ref a] (fun v _ => v = .bl true) hr rfl e0 (hbi s₁ (.ref a)) (.cons rfl .nil) (hsp H a ns hlen hbits hS)) fun r s' h => ?_
  cases r with
  | error e => exact (show False from h).elim
  | ok fl =>
    cases fl with
    | ret u =>
      obtain ⟨v, H', os, bare, un, hok', r', ev⟩ := h
      have ev' : v = .bl true := ev
      subst ev'
      cases r'
      refine ⟨rfl, OldK.of_keep fun b ob e => ?_, os, bare⟩
      rcases hO b with z | ⟨o1, xs, z⟩
      · exact un.keep b ob e z (List.not_mem_nil) (List.not_mem_nil)
      · obtain ⟨e1, _⟩ := hok b _ z
        obtain ⟨e2, _⟩ := hok' b _ (un.frzs b o1 _ z)
        rw [e] at e1
        cases e1
        exact e2
    | _ => exact (show False from h).elim
end
end Hk

/-! repr of data; str, repr, == of own instances by their own methods; static methods. -/
namespace Hk
open PySem PySem.Spec PyProof.Rows L2
mutual
theorem Dp.noDict {K : Fr} {H : Hp} : ∀ (d : PyData) (v : V), Dp K H v d → d.hasDict = false
  | .none, _, _ => by simp [PyData.hasDict]
  | .bool _, _, _ => by simp [PyData.hasDict]
  | .int _, _, _ => by simp [PyData.hasDict]
  | .str _, _, _ => by simp [PyData.hasDict]
  | .list ds, _, h => by
    cases h with
    | lst _ ha =>
      simp only [PyData.hasDict]
      exact Dp.noDictAll ds _ ha
  | .tuple ds, _, h => by
    cases h with
    | tup _ ha =>
      simp only [PyData.hasDict]
      exact Dp.noDictAll ds _ ha
  | .dict _, _, h => by cases h
theorem Dp.noDictAll {K : Fr} {H : Hp} : ∀ (ds : List PyData) (vs : List V), DpAll K H vs ds → PyData.hasDictAll ds = false
  | [], _, _ => by simp [PyData.hasDictAll]
  | d :: ds, _, h => by
    cases h with
    | cons h1 h2 =>
      simp only [PyData.hasDictAll, Bool.or_eq_false_iff]
      exact ⟨Dp.noDict d _ h1, Dp.noDictAll ds _ h2⟩
end
/-- repr(x), x data: none, a truth, an int, a text, lists and tuples of such -/
def rRepr (K : Fr) : List V → Hp → VK → Prop := fun xs H Q => ∃ x d, xs = [x] ∧ Dp K H x d ∧ d.showable = true ∧ d.depth ≤ 60 ∧ d.shown.length ≤ sizeLine ∧ Q (.str d.shown) H
section
variable {X : Cx}
theorem call_reprD {k : Nat} (hc : Calm X.A) (hr : Room k X.A) : CallR X (.builtin "repr") (rRepr X.K) := by
  intro pins s σ H xs us Q I r h
  obtain ⟨x, d, rfl, hd, hs, hdp, hz, q⟩ := h
  obtain ⟨u, rfl, ru⟩ := r.one
  cases hd with
  | non =>
    cases ru
    rw [PyData.shown_none] at q
    exact PySem.P.repr_of_none ⟨.str _, H, I.tok _, ⟨_, rfl⟩, q⟩
  | bl b =>
    cases ru
    rw [PyData.shown_bool] at q
    refine PySem.P.repr_of_bool ⟨.str _, H, I.tok _, ⟨_, rfl⟩, ?_⟩
    cases b <;> exact q
  | int i =>
    obtain ⟨t, rfl⟩ := ru
    rw [PyData.shown_int] at q
    refine PySem.P.repr_of_int ?_ ⟨.str _, H, I.tok _, ⟨_, rfl⟩, q⟩
    simpa [PyData.showable] using hs
  | str y =>
    obtain ⟨t, rfl⟩ := ru
    rw [PyData.shown_str] at q hz
    exact PySem.P.repr_of_str ⟨.str _, H, I.tok _, ⟨_, rfl⟩, q⟩ hz
  | @lst a ys ds h1 h2 =>
    have e : u = Value.ref a := ru
    subst e
    have nd := Dp.noDict _ _ (Dp.lst h1 h2)
    obtain ⟨as, hr'⟩ := Dp.reads I (.list ds) _ _ (Dp.lst h1 h2) rfl
    refine PySem.repr_of_reads' hr' hs (fun z => by rw [nd] at z; exact nomatch z) hc ?_ (fun b o z => z) (fun h' u tk kp => ⟨.str _, H, I.kept kp, ⟨_, rfl⟩, q⟩) hz
    have := hr.units
    omega
  | @tup a ys ds h1 h2 =>
    have e : u = Value.ref a := ru
    subst e
    have nd := Dp.noDict _ _ (Dp.tup h1 h2)
    obtain ⟨as, hr'⟩ := Dp.reads I (.tuple ds) _ _ (Dp.tup h1 h2) rfl
    refine PySem.repr_of_reads' hr' hs (fun z => by rw [nd] at z; exact nomatch z) hc ?_ (fun b o z => z) (fun h' u tk kp => ⟨.str _, H, I.kept kp, ⟨_, rfl⟩, q⟩) hz
    have := hr.units
    omega
/-! ### own methods that the interpreter calls -/
theorem own_run {A' : Around} {pins : List (Addr × Obj)} {σ : L2.St} {H : Hp} {s : Shared} {Q : VK} {E' : Value → Shared → Prop} {us : List Value} {vs : List V} {k : Nat} {f : Addr} {fd : FuncData} {ps : List Str} {sp : Sp} (F : FnOk X.prog X.w X.K X.mg X.base CX0 k f fd ps sp)
    (hr : Room k A') (e0 : Env0 X.prog X.w X.K X.mg X.base A' X.stack s H) (hb : Binds X.K fd ps []) (I : Inv X pins σ H s) (r : Vals vs us) (h : sp vs H Q E0) : wpAny (model X.prog X.w) A' (call (.ref f) us) (EP X pins σ Q) E' s := by
  have ln : us.length = ps.length := r.length.symm.trans (F.len _ _ _ _ h)
  have bd : BindsTo s fd ⟨us, []⟩ (ps.zip us) := by
    have := hb s us I.kIn (by rw [List.append_nil]; exact ln)
    rwa [List.append_nil] at this
  refine wpAny_call (codeAny_mono (F.run A' X.stack s H ⟨us, []⟩ us vs Q E0 hr e0 bd r h) fun z s' hq => ?_)
  rcases z with e | fl
  · exact (show False from hq).elim
  · cases fl with
    | ret u => exact I.after hq
    | _ => exact (show False from hq).elim
/-- the class at C has its own def at f for the name m -/
structure Own (K : Fr) (C : Addr) (m : Str) (f : Addr) : Prop where
  at_ : PySem.W.findIn K (.ref C) m = some (some (.ref f))
  fn : PySem.W.isFn K (.ref f) = true
def rText (C : Addr) (sp : Sp) : List V → Hp → VK → Prop := fun xs H Q => ∃ a dx fs, xs = [.ref a] ∧ H a = some (.ins C dx fs) ∧ sp [.ref a] H (fun z H' => ∃ y, z = .str y ∧ Q z H') E0
section
variable {k : Nat} {C f : Addr} {fd : FuncData} {ps : List Str} {sp : Sp}
theorem call_strO (O : Own X.K C "__str__" f) (F : FnOk X.prog X.w X.K X.mg X.base CX0 k f fd ps sp) (hb : Binds X.K fd ps []) (hr : Room (k + 2) X.A) : CallR X (.type "str") (rText C sp) := by
  intro pins s σ H xs us Q I r h
  obtain ⟨a, dx, fs, rfl, ha, q⟩ := h
  obtain ⟨u, rfl, ru⟩ := r.one
  cases (show u = Value.ref a from ru)
  obtain ⟨mA, M, _⟩ := ins_get I.hok ha
  obtain ⟨od, J, _⟩ := M.look
  have r2 : Room k X.A.in1.in1 := (show Room (k + 1) X.A.in1 from Room.in1 hr).in1
  refine PySem.W.kso_call r2.units0 I.kIn J O.at_ O.fn (wpAny_mono (own_run (vs := [.ref a]) F r2 I.env0.in1.in1 hb I (.cons rfl .nil) q) (fun v s' z => ?_) fun _ _ z => z)
  obtain ⟨z', H', I', rz, y, ey, qz⟩ := z
  subst ey
  obtain ⟨t, e⟩ := (show ∃ t, v = Value.str y t from rz)
  cases e
  exact ⟨.str y, H', I', ⟨t, rfl⟩, qz⟩
theorem call_reprO (O : Own X.K C "__repr__" f) (F : FnOk X.prog X.w X.K X.mg X.base CX0 k f fd ps sp) (hb : Binds X.K fd ps []) (hr : Room (k + 1) X.A) : CallR X (.builtin "repr") (rText C sp) := by
  intro pins s σ H xs us Q I r h
  obtain ⟨a, dx, fs, rfl, ha, q⟩ := h
  obtain ⟨u, rfl, ru⟩ := r.one
  cases (show u = Value.ref a from ru)
  obtain ⟨mA, M, _⟩ := ins_get I.hok ha
  obtain ⟨od, J, _⟩ := M.look
  have r2 : Room k X.A.in1 := Room.in1 hr
  obtain ⟨m, hF⟩ := I.fr
  refine PySem.W.repr_K r2.units0 hF I.ok.mod.kin J O.at_ O.fn (wpAny_mono (own_run (vs := [.ref a]) F r2 I.env0.in1 hb I (.cons rfl .nil) q) (fun v s' z => ?_) fun _ _ z => z)
  obtain ⟨z', H', I', rz, y, ey, qz⟩ := z
  subst ey
  obtain ⟨t, e⟩ := (show ∃ t, v = Value.str y t from rz)
  cases e
  exact ⟨.str y, H', I', ⟨t, rfl⟩, qz⟩
/-- the type of what is compared -/
inductive TyL (K : Fr) (H : Hp) : V → Value → Prop where
  | non : TyL K H .non (.type "NoneType")
  | bl (b : Bool) : TyL K H (.bl b) (.type "bool")
  | int (i : Int) : TyL K H (.int i) (.type "int")
  | str (y : Str) : TyL K H (.str y) (.type "str")
  | lst {a : Addr} {xs : List V} (h : H a = some (.lst xs)) : TyL K H (.ref a) (.type "list")
  | tup {a : Addr} {xs : List V} (h : H a = some (.tup xs)) : TyL K H (.ref a) (.type "tuple")
  | ins {a C dx : Addr} {fs : List (Str × V)} (h : H a = some (.ins C dx fs)) : TyL K H (.ref a) (.ref C)
theorem typeOf_obj {M : Model} {h : Heap} {a : Addr} {o : Obj} {t : Value} (e : h.get? a = some o) (c : o.cls = t) : PySem.W.Looks M h (typeOf (.ref a)) t := by
  intro A Q E s kp q
  refine wpAny_typeOf_ref (kp _ _ e) ?_
  rw [c]
  exact q
theorem TyL.looks {pins : List (Addr × Obj)} {σ : L2.St} {H : Hp} {s : Shared} {y : V} {u t : Value} {M : Model} (I : Inv X pins σ H s) (ry : RelV y u) (ty : TyL X.K H y t) : PySem.W.Looks M s.heap (typeOf u) t := by
  cases ty with
  | non => cases ry; exact PySem.W.Looks.of_pure rfl
  | bl b => cases ry; exact PySem.W.Looks.of_pure rfl
  | int i =>
    obtain ⟨t, rfl⟩ := ry
    exact PySem.W.Looks.of_pure rfl
  | str z =>
    obtain ⟨t, rfl⟩ := ry
    exact PySem.W.Looks.of_pure rfl
  | @lst a xs h =>
    cases (show u = Value.ref a from ry)
    obtain ⟨_, its, n, _, e⟩ := (show ObjOk X.prog X.w H s.heap a (.lst xs) from I.hok a _ h)
    exact typeOf_obj e rfl
  | @tup a xs h =>
    cases (show u = Value.ref a from ry)
    obtain ⟨_, its, _, o, e, c, _⟩ := (show ObjOk X.prog X.w H s.heap a (.tup xs) from I.hok a _ h)
    exact typeOf_obj e c
  | @ins a C dx fs h =>
    cases (show u = Value.ref a from ry)
    obtain ⟨mA, M, _⟩ := ins_get I.hok h
    obtain ⟨od, J, _⟩ := M.look
    exact J.type
def rEqO (K : Fr) (C : Addr) (sp : Sp) : R2 := fun x y H Q => ∃ a dx fs t, x = .ref a ∧ H a = some (.ins C dx fs) ∧ TyL K H y t ∧ PySem.W.notFirst K C t = true ∧ sp [x, y] H (fun z H' => ∃ b, z = .bl b ∧ Q z H') E0
theorem op_eqO (O : Own X.K C "__eq__" f) (F : FnOk X.prog X.w X.K X.mg X.base CX0 k f fd ps sp) (hb : Binds X.K fd ps []) (hr : Room k X.A) : OpR X (compareOp .Eq) (rEqO X.K C sp) := by
  intro pins s σ H x y v u Q I rx ry h
  obtain ⟨a, dx, fs, t, rfl, ha, ty, hn, q⟩ := h
  cases (show v = Value.ref a from rx)
  obtain ⟨mA, M, _⟩ := ins_get I.hok ha
  obtain ⟨od, J, _⟩ := M.look
  obtain ⟨m, hF⟩ := I.fr
  show wpAny _ _ (richCompare .Eq (.ref a) u) _ _ _
  refine PySem.W.cmp_K (op := .Eq) hr.units0 hF I.ok.mod.kin J (ty.looks I ry) hn O.at_ O.fn (wpAny_mono (own_run (vs := [.ref a, y]) F hr I.env0 hb I (.cons rfl (.cons ry .nil)) q) (fun w s' z => ?_) fun _ _ z => z)
  obtain ⟨z', H', I', rz, b, eb, qz⟩ := z
  subst eb
  cases rz
  exact ⟨.bl b, H', I', rfl, qz⟩
end
end
end Hk
namespace Hk
open PySem PySem.Spec PyProof.Rows L2
/-! ### != where the class has == alone -/
section
variable {prog : Program} {w : World} {A : Around} {E : Value → Shared → Prop} {s : Shared} {K : Fr} {x C f : Addr} {ox : Obj} {od : Option Obj}
theorem ne_dflt {b tb : Value} {Q : Value → Shared → Prop} (hu : A.units + 2 < cLine) (Y : K.In s.heap) (I : PySem.W.InstAt s.heap x ox C od) (hb : PySem.W.Looks (model prog w) s.heap (typeOf b) tb) (hn : PySem.W.notFirst K C tb = true)
    (hne : PySem.W.findIn K (.ref C) "__ne__" = some (some (.builtin "object.__ne__"))) (he : PySem.W.findIn K (.ref C) "__eq__" = some (some (.ref f))) (hf : PySem.W.isFn K (.ref f) = true) (hob : PySem.W.subIn K (.ref C) (.type "object") = some true)
    (h : wpAny (model prog w) A.in1 (call (.ref f) [.ref x, b]) (fun v s' => ∃ r, v = .bool r ∧ Q (.bool (!r)) s') E s) : wpAny (model prog w) A (richCompare .NotEq (.ref x) b) Q E s := by
  have slot := PySem.F.slot_object_ne
  have body : wpAny (model prog w) A.in1 (Builtin.«object.__ne__» ⟨[.ref x, b], []⟩) (fun fin s' => ∃ v, fin = .done (.ret v) ∧ v ≠ .notImplemented ∧ Q v s') E s := by
    unfold Builtin.«object.__ne__»
    repeat (first
      | with_reducible refine wpAny_cRoomFor (show A.units + 1 < cLine by omega) ?_
      | (refine wpAny_bind (m := callSpecialIfBound? (.ref x) (Str.ofString "__eq__") [b]) (PySem.W.ifBound_K Y I he hf (wpAny_mono h (fun r s' hr => ?_) fun _ _ e => e))
         obtain ⟨b, rfl, hq⟩ := hr)
      | exact ⟨_, rfl, (fun z => nomatch z), hq⟩
      | (refine wpAny_bind (m := truthy (.bool _)) (wpAny_truthy_bool ?_))
      | wp_step)
  have called : wpAny (model prog w) A (call (.builtin "object.__ne__") [.ref x, b]) (fun v s' => v ≠ .notImplemented ∧ Q v s') E s := by
    refine wpAny_call (codeAny_call_builtin slot.plain PySem.F.cmpEntry_ne (PySem.W.check_slot PySem.F.cmpKind_ne PySem.F.cmpSplit_ne (I.type.andThen (PySem.W.looks_subIn Y hob)) (PySem.F.cmpArgs_ne _ _) ?_))
    exact wpAny_mono body (fun fin s' hv => by obtain ⟨v, rfl, q⟩ := hv; exact q) fun _ _ z => z
  have one : wpAny (model prog w) A (tryCompare (.ref x) (cmpInfo .NotEq).2.1 b) (fun r s' => ∃ v, r = some v ∧ Q v s') E s := by
    unfold tryCompare
    refine wpAny_bind ?_
    simp only [callSpecialIfBound?, bindSpecialIfBound?]
    refine wpAny_holding (wpAny_bind (wpAny_bind (wpAny_bind (I.type.here ((PySem.W.looks_findIn Y hne).here ?_)))))
    simp only [slot.bind]
    refine wpAny_bind (wpAny_askSetting (wpAny_ite ?_))
    split
    · refine wpAny_bind (wpAny_pure (wpAny_pure ?_))
      refine wpAny_bind (wpAny_mono called (fun v s' hv => wpAny_pure ?_) fun _ _ z => z)
      obtain ⟨h1, h2⟩ := hv
      cases v <;> first | exact absurd rfl h1 | exact wpAny_pure ⟨_, rfl, h2⟩
    · refine wpAny_tryCatch (wpAny_bind (wpAny_pure (wpAny_pure ?_)))
      refine wpAny_bind (wpAny_mono called (fun v s' hv => wpAny_pure ?_) fun _ _ z => z)
      obtain ⟨h1, h2⟩ := hv
      cases v <;> first | exact absurd rfl h1 | exact wpAny_pure ⟨_, rfl, h2⟩
  unfold richCompare
  simp only [oneThing_ref]
  refine wpAny_holding (wpAny_bind (wpAny_cRoomFor (by omega) ?_))
  refine wpAny_bind (I.type.here (wpAny_bind (hb.here ?_)))
  have nosub : ((Value.ref C != tb) = true) → PySem.W.subIn K tb (.ref C) = some false := fun q => by
    rcases Bool.or_eq_true_iff.mp hn with e | e
    · rw [beq_iff_eq.mp e] at q
      simp at q
    · exact beq_iff_eq.mp e
  split
  · rename_i q
    refine wpAny_bind ((PySem.W.looks_subIn Y (nosub q)).here ?_)
    simp only [Bool.false_eq_true, if_false]
    refine wpAny_bind (wpAny_mono one (fun r s' z => ?_) fun _ _ e => e)
    obtain ⟨v, rfl, hv⟩ := z
    exact wpAny_pure hv
  · refine wpAny_bind (wpAny_pure ?_)
    simp only [Bool.false_eq_true, if_false]
    refine wpAny_bind (wpAny_mono one (fun r s' z => ?_) fun _ _ e => e)
    obtain ⟨v, rfl, hv⟩ := z
    exact wpAny_pure hv
end
section
variable {X : Cx} {k : Nat} {C f : Addr} {fd : FuncData} {ps : List Str} {sp : Sp}
/-- the class has its own ==, and != of object -/
structure NeOf (K : Fr) (C : Addr) : Prop where
  ne : PySem.W.findIn K (.ref C) "__ne__" = some (some (.builtin "object.__ne__"))
  ob : PySem.W.subIn K (.ref C) (.type "object") = some true
def rNeO (K : Fr) (C : Addr) (sp : Sp) : R2 := fun x y H Q => ∃ a dx fs t, x = .ref a ∧ H a = some (.ins C dx fs) ∧ TyL K H y t ∧ PySem.W.notFirst K C t = true ∧ sp [x, y] H (fun z H' => ∃ b, z = .bl b ∧ Q (.bl (!b)) H') E0
theorem op_neO (O : Own X.K C "__eq__" f) (N : NeOf X.K C) (F : FnOk X.prog X.w X.K X.mg X.base CX0 k f fd ps sp) (hb : Binds X.K fd ps []) (hr : Room (k + 1) X.A) : OpR X (compareOp .NotEq) (rNeO X.K C sp) := by
  intro pins s σ H x y v u Q I rx ry h
  obtain ⟨a, dx, fs, t, rfl, ha, ty, hn, q⟩ := h
  cases (show v = Value.ref a from rx)
  obtain ⟨mA, M, _⟩ := ins_get I.hok ha
  obtain ⟨od, J, _⟩ := M.look
  have r2 : Room k X.A.in1 := Room.in1 hr
  show wpAny _ _ (richCompare .NotEq (.ref a) u) _ _ _
  refine ne_dflt (by have := hr.units; omega) I.kIn J (ty.looks I ry) hn N.ne O.at_ O.fn N.ob (wpAny_mono (own_run (vs := [.ref a, y]) F r2 I.env0.in1 hb I (.cons rfl (.cons ry .nil)) q) (fun w s' z => ?_) fun _ _ z => z)
  obtain ⟨z', H', I', rz, b, eb, qz⟩ := z
  subst eb
  cases rz
  exact ⟨b, rfl, .bl (!b), H', I', rfl, qz⟩
end
/-! ### a static method, called off its class by one keyword or more -/
structure Stat (K : Fr) (C : Addr) (mc : Value) (m : Str) (p g : Addr) : Prop where
  rd : ClX.CRead K C mc
  at_ : PySem.W.findCls K (.ref C) mc m = some (.get (.builtin "staticmethod.__get__") (.ref p) .none (.ref C))
  rc : ∃ rest, PySem.W.recIn K p "staticmethod" = some (.ref g :: rest)
  kp : PySem.W.keepIn K (.ref g) = true
def tStatK (C : Addr) (sp : Sp) (ta : TE) (tk : TA) : TE := fun σ H Q => ta σ H fun x H1 => x = .ref C ∧ tk σ H1 fun vs H2 => sp vs H2 Q E0
section
variable {X : Cx} {k : Nat} {C p g : Addr} {mc : Value} {m : Str} {fd : FuncData} {ps : List Str} {sp : Sp} {o : Expr} {kws : List Keyword} {ta : TE} {tk : TA} {pos apos : Pos} {pl : Sem Bool}
theorem pe_statK (he : PE X o ta) (S : Stat X.K C mc m p g) (F : FnOk X.prog X.w X.K X.mg X.base CX0 k g fd ps sp) (hr : Room k X.A)
    (hbk : ∀ (s : Shared) (ws : List Value), X.K.In s.heap → ws.length = ps.length → BindsTo s fd ⟨[], ps.zip ws⟩ (ps.zip ws)) (hk : PK X kws tk)
    (hall : (backToKw pos (keywordEach kws X.env)).all (·.1.isSome) = true := by rfl) (hks : (backToKw pos (keywordEach kws X.env)).filterMap (·.1) = ps := by rfl)
    (hpl : ((backTo pos (starEach [] X.env)).any (·.1) || (backToKw pos (keywordEach kws X.env)).any (·.1.isNone)) = false := by rfl)
    (ht : eval (.Call (.Attribute o m apos) [] kws pos) X.env = (do
      let ov ← eval o X.env
      standAt apos.atName
      let (f, first) ← holding [ov] (getMethod ov m pl)
      callWith pos f first (backTo pos (starEach [] X.env)) (backToKw pos (keywordEach kws X.env))) := by rfl) :
    PE X (.Call (.Attribute o m apos) [] kws pos) (tStatK C sp ta tk) := by
  refine ⟨fun pins s σ H Q I h => PySem.W.methodCall_KW (pl := pl) (thn (he.run pins s σ H _ I h) fun u s1 hu => ?_) ht⟩
  obtain ⟨x, H1, I1, rx, ex, q⟩ := hu
  subst ex
  obtain rfl : u = Value.ref C := rx
  obtain ⟨rest, hp⟩ := S.rc
  refine PySem.W.method_cls I1.kIn S.rd.ga (PySem.W.cls_bind I1.kIn S.rd.rd S.at_ (wpAny_call (PySem.W.sm_get (s := { s1 with toks := s1.toks + 1 }) I1.kIn hp (PySem.W.handed_on rfl ?_))))
  refine PySem.W.callWith_KW0 (h₀ := X.base) I1.ok.mod.kin S.kp hall (thn (hk.run pos pins _ σ H1 _ (I1.tok _) q) fun ws s2 hw => ?_) hpl
  obtain ⟨vs, H2, I2, rv, q2⟩ := hw
  have ln : ws.length = ps.length := rv.length.symm.trans (F.len _ _ _ _ q2)
  refine ⟨I2.kIn, ?_⟩
  rw [hks]
  refine wpAny_call (codeAny_mono (F.run X.A X.stack s2 H2 ⟨[], ps.zip ws⟩ ws vs Q E0 hr I2.env0 (hbk s2 ws I2.kIn ln) rv q2) fun z s' hq => ?_)
  rcases z with e | fl
  · exact (show False from hq).elim
  · cases fl with
    | ret u => exact I2.after hq
    | _ => exact (show False from hq).elim
end
end Hk
namespace Hk
open PySem PySem.Spec PyProof.Rows L2
theorem ne_ok {K : Fr} {x : Str} (c : tNe x K = true) : NeOf K (He.ga K x) := by
  obtain ⟨c1, c2⟩ := He.ba c
  exact ⟨He.eqO_ok c1, of_decide_eq_true c2⟩
theorem own_ok {K : Fr} {x m : Str} (c : tMeth x m K = true) : Own K (He.ga K x) m (mAd x m K) := by
  have h := He.meth_ok c
  exact ⟨h.at_, h.fn⟩
theorem stat_ok {K : Fr} {x m : Str} (c : tStat x m K = true) : Stat K (He.ga K x) (.type "type") m (He.ma K (He.ga K x) m) (statAd x m K) := by
  obtain ⟨c1, c⟩ := He.ba c
  obtain ⟨c2, c⟩ := He.ba c
  obtain ⟨c3, c4⟩ := He.ba c
  obtain ⟨h1, h2⟩ := He5.wrapB_ok c1
  exact ⟨⟨c2, He.eqO_ok c3⟩, h1, h2, c4⟩
end Hk

/-! Operators of an own class: with its own, with an int on either side; neg, abs; += without an own one. -/
namespace Hk
open PySem PySem.Spec PyProof.Rows L2
section
variable {prog : Program} {w : World} {A : Around} {E : Value → Shared → Prop} {s : Shared} {K : Fr} {x C f g : Addr} {ox : Obj} {od : Option Obj}
/-- an int's own operator declines an instance -/
def Declines (id : String) : Prop := ∀ (prog : Program) (w : World) (A : Around) (E : Value → Shared → Prop) (s : Shared) (i : Int) (t : Tok) (x C dx : Addr) (Q : Value → Shared → Prop), s.heap.get? x = some (PySem.W.instObj C dx) → Q .notImplemented s →
  wpAny (model prog w) A (call (.builtin id) [.int i t, .ref x]) Q E s
theorem decl_add : Declines "int.__add__" := by
  intro prog w A E s i t x C dx Q ho q
  refine wpAny_call (codeAny_call_builtin F.slot_int_add.plain F.entry_int_add (F.slot_int_add.check _ _ _ _ _ _ _ _ (typeIs_int s i t) (F.args_int_add_2 _ _) ?_))
  unfold Builtin.«int.__add__» Builtin.Int.intBinary
  refine wpAny_bind (m := slotArgs "__add__" 1 _) (wpAny_pure ?_)
  refine wpAny_bind (m := Builtin.Int.intOfSelf _) (wpAny_pure ?_)
  refine wpAny_bind (m := asInt? _) (wpAny_bind (wpAny_load ho (wpAny_pure ?_)))
  refine wpAny_bind (wpAny_rule (wpAny_pure ?_))
  exact q
theorem decl_sub : Declines "int.__sub__" := by
  intro prog w A E s i t x C dx Q ho q
  refine wpAny_call (codeAny_call_builtin F.slot_int_sub.plain F.entry_int_sub (F.slot_int_sub.check _ _ _ _ _ _ _ _ (typeIs_int s i t) (F.args_int_sub_2 _ _) ?_))
  unfold Builtin.«int.__sub__» Builtin.Int.intBinary
  refine wpAny_bind (m := slotArgs "__sub__" 1 _) (wpAny_pure ?_)
  refine wpAny_bind (m := Builtin.Int.intOfSelf _) (wpAny_pure ?_)
  refine wpAny_bind (m := asInt? _) (wpAny_bind (wpAny_load ho (wpAny_pure ?_)))
  refine wpAny_bind (wpAny_rule (wpAny_pure ?_))
  exact q
theorem decl_mul : Declines "int.__mul__" := by
  intro prog w A E s i t x C dx Q ho q
  refine wpAny_call (codeAny_call_builtin F.slot_int_mul.plain F.entry_int_mul (F.slot_int_mul.check _ _ _ _ _ _ _ _ (typeIs_int s i t) (F.args_int_mul_2 _ _) ?_))
  unfold Builtin.«int.__mul__» Builtin.Int.intBinary
  refine wpAny_bind (m := slotArgs "__mul__" 1 _) (wpAny_pure ?_)
  refine wpAny_bind (m := Builtin.Int.intOfSelf _) (wpAny_pure ?_)
  refine wpAny_bind (m := asInt? _) (wpAny_bind (wpAny_load ho (wpAny_pure ?_)))
  refine wpAny_bind (wpAny_rule (wpAny_pure ?_))
  exact q
/-- int op instance: the class's reflected operator -/
theorem rbin_own {op : Operator} {id : String} {i : Int} {t : Tok} {dx : Addr} {Q : Value → Shared → Prop} (Y : K.In s.heap) (I : PySem.W.InstAt s.heap x (PySem.W.instObj C dx) C od) (hc : PySem.W.selfFirst K C = true)
    (fT : fillsNumberSlot (.type "int") op.info.2 = pure true) (slot : Slot "int" (PySem.dunder op.info.2) id) (dec : Declines id) (hs : PySem.W.findIn K (.ref C) (PySem.dunder op.info.2) = some (some (.ref f)))
    (hsub : PySem.W.subIn K (.ref C) (.type "int") = some false) (hr : PySem.W.findIn K (.ref C) (dunderR op.info.2) = some (some (.ref g))) (hg : PySem.W.isFn K (.ref g) = true)
    (h : wpAny (model prog w) A (call (.ref g) [.ref x, .int i t]) (PySem.W.CmpBack Q) E s) : wpAny (model prog w) A (binaryOp op (.int i t) (.ref x)) Q E s := by
  obtain ⟨cd, rest, hcd, hm⟩ := PySem.W.ksp_first hc
  rcases hi : op.info with ⟨sym, nm⟩
  rw [hi] at fT slot hs hr
  dsimp only at fT slot hs hr
  simp only [binaryOp, hi]
  refine wpAny_holding ?_
  simp only [binaryOp1]
  refine wpAny_bind (wpAny_bind (wpAny_typeOf (typeIs_int s i t) ?_))
  refine wpAny_bind (I.type.here (wpAny_bind (wpAny_of_eq fT ?_)))
  have hne : (Value.type "int" == Value.ref C) = false := Bool.eq_false_iff.mpr fun q => nomatch beq_iff_eq.mp q
  simp only [hne, Bool.false_eq_true, if_false]
  refine wpAny_bind ((PySem.W.fills_K Y hcd hm hs).here ?_)
  simp only [Bool.and_self, if_true]
  refine wpAny_bind ((PySem.W.looks_subIn Y hsub).here ?_)
  have hpy : numberSlotInPython (.type "int") nm = pure false := rfl
  simp only [Bool.false_eq_true, if_false, pure_bind, Bool.not_false, Bool.and_self, if_true, hpy]
  refine wpAny_bind (wpAny_tryMethod_declines (typeIs_int s i t) slot (dec _ _ _ _ _ _ _ _ _ _ _ I.at_ ⟨rfl, ?_⟩))
  refine wpAny_bind ?_
  unfold tryMethod
  refine wpAny_bind (PySem.W.special_fn Y I hr (beq_iff_eq.mp hg) (wpAny_mono h (fun v s' hv => ?_) fun _ _ e => e))
  cases v <;> first | exact hv.elim | exact wpAny_pure (wpAny_bind (wpAny_rule (wpAny_pure (wpAny_pure hv))))
/-- the class names no operator in place -/
theorem noInplace {M : Model} {h : Heap} {nm : String} {cd : ClassData} {add : Bool} (Y : K.In h) (hc : PySem.W.clsIn K C = some cd) (hm : cd.mro = [.ref C, .type "object"]) (h1 : PySem.W.findIn K (.ref C) (dunderI nm) = some none)
    (h2 : PySem.W.findIn K (.type "object") (dunderI nm) = some none) : PySem.W.Looks M h (fillsInplaceSlot (.ref C) nm add) false := by
  intro A' Q E' s' k q
  have Lm := ((PySem.W.looks_clsIn (M := M) Y hc).andThen (f := fun cd => pure cd.mro) .now).keeps k
  obtain ⟨hh, gg, d, tt, os⟩ := s'
  have Y' : K.In hh := Y.keeps k
  have L1 : PySem.W.Looks M hh (typeLookup (.ref C) (dunderI nm)) none := PySem.W.looks_findIn Y' h1
  have L2 : PySem.W.Looks M hh (typeLookup (.type "object") (dunderI nm)) none := PySem.W.looks_findIn Y' h2
  unfold fillsInplaceSlot
  refine wpAny_bind (Lm.at ?_)
  rw [hm, List.anyM_cons, List.anyM_cons, List.anyM_nil]
  refine wpAny_bind (wpAny_bind (L1.at (wpAny_pure ?_)))
  refine wpAny_bind (wpAny_bind (L2.at (wpAny_pure ?_)))
  exact wpAny_pure q
/-- what the class must have for an operator, with its own and with ints -/
structure BinF (K : Fr) (C : Addr) (nm : String) (f : Addr) : Prop where
  self : PySem.W.selfFirst K C = true
  at_ : PySem.W.findIn K (.ref C) (PySem.dunder nm) = some (some (.ref f))
  fn : PySem.W.isFn K (.ref f) = true
  rr : ∃ rc, PySem.W.findIn K (.ref C) (dunderR nm) = some rc ∧ (rc = none ∨ ∃ g : Addr, rc = some (.ref g))
  i1 : ∃ fo, PySem.W.findIn K (.type "int") (PySem.dunder nm) = some fo
  i2 : ∃ ro, PySem.W.findIn K (.type "int") (dunderR nm) = some ro
  sub : PySem.W.subIn K (.type "int") (.ref C) = some false
/-- the operator's first part: with its own, with an int -/
theorem bin1_own {nm : String} {b : Value} {Q : Value → Shared → Prop} (Y : K.In s.heap) (I : PySem.W.InstAt s.heap x ox C od) (B : BinF K C nm f) (hb : PySem.W.Looks (model prog w) s.heap (typeOf b) (.ref C))
    (h : wpAny (model prog w) A (call (.ref f) [.ref x, b]) (PySem.W.CmpBack Q) E s) : wpAny (model prog w) A (binaryOp1 nm (.ref x) b) (fun r s' => ∃ v, r = some v ∧ Q v s') E s := by
  obtain ⟨cd, rest, hcd, hm⟩ := PySem.W.ksp_first B.self
  unfold binaryOp1
  refine wpAny_bind (I.type.here (wpAny_bind (hb.here (wpAny_bind ((PySem.W.fills_K Y hcd hm B.at_).here ?_)))))
  simp only [beq_self_eq_true, if_true]
  refine wpAny_bind (wpAny_pure ?_)
  simp only [Bool.and_false, Bool.false_eq_true, if_false, Bool.false_and]
  refine wpAny_bind (wpAny_pure ?_)
  simp only [Bool.false_eq_true, if_false]
  refine wpAny_bind (wpAny_mono (PySem.W.ksp_try Y I B.at_ B.fn h) (fun r s' hr => ?_) fun _ _ e => e)
  obtain ⟨v, rfl, hq⟩ := hr
  exact wpAny_pure ⟨v, rfl, hq⟩
theorem bin1_int {nm : String} {i : Int} {t : Tok} {Q : Value → Shared → Prop} (Y : K.In s.heap) (I : PySem.W.InstAt s.heap x ox C od) (B : BinF K C nm f)
    (h : wpAny (model prog w) A (call (.ref f) [.ref x, .int i t]) (PySem.W.CmpBack Q) E s) : wpAny (model prog w) A (binaryOp1 nm (.ref x) (.int i t)) (fun r s' => ∃ v, r = some v ∧ Q v s') E s := by
  obtain ⟨cd, rest, hcd, hm⟩ := PySem.W.ksp_first B.self
  have one := PySem.W.ksp_try Y I B.at_ B.fn h
  obtain ⟨rc, hr, hp⟩ := B.rr
  obtain ⟨fo, h1⟩ := B.i1
  obtain ⟨ro, h2⟩ := B.i2
  obtain ⟨hh, gg, d, tt, os⟩ := s
  have L1 : PySem.W.Looks (model prog w) hh (typeOf (.ref x)) (.ref C) := I.type
  have L2 : PySem.W.Looks (model prog w) hh (typeOf (.int i t)) (.type "int") := PySem.W.Looks.of_pure rfl
  have L3 : PySem.W.Looks (model prog w) hh (fillsNumberSlot (.ref C) nm) true := PySem.W.fills_K Y hcd hm B.at_
  have L4 : PySem.W.Looks (model prog w) hh (fillsNumberSlot (.type "int") nm) ((fo.isSome && !isSeqSlot fo) || (ro.isSome && !isSeqSlot ro)) := PySem.W.ksp_fillsT Y h1 h2
  have L5 : PySem.W.Looks (model prog w) hh (isSubtype (.type "int") (.ref C)) false := PySem.W.looks_subIn Y B.sub
  have L6 : PySem.W.Looks (model prog w) hh (numberSlotInPython (.ref C) nm) true := PySem.W.ksp_inPy Y B.at_ hr hp
  have L7 : PySem.W.Looks (model prog w) hh (numberSlotInPython (.type "int") nm) false := PySem.W.Looks.of_pure rfl
  have L8 : PySem.W.Looks (model prog w) hh (typeLookup (.type "int") (dunderR nm)) ro := PySem.W.looks_findIn Y h2
  generalize ((fo.isSome && !isSeqSlot fo) || (ro.isSome && !isSeqSlot ro)) = right at L4
  have hne : (Value.ref C == Value.type "int") = false := Bool.eq_false_iff.mpr fun q => nomatch beq_iff_eq.mp q
  unfold binaryOp1
  refine wpAny_bind (L1.at (wpAny_bind (L2.at (wpAny_bind (L3.at ?_)))))
  simp only [hne, Bool.false_eq_true, if_false]
  cases right with
  | false =>
    ksp_lk
    refine wpAny_mono one (fun r s' hr' => ?_) fun _ _ e => e
    obtain ⟨v, rfl, hq⟩ := hr'
    ksp_lk
    exact ⟨v, rfl, hq⟩
  | true =>
    ksp_lk
    refine wpAny_mono one (fun r s' hr' => ?_) fun _ _ e => e
    obtain ⟨v, rfl, hq⟩ := hr'
    ksp_lk
    exact ⟨v, rfl, hq⟩
theorem bin_of1 {op : Operator} {a b : Value} {Q : Value → Shared → Prop} (h : wpAny (model prog w) A (binaryOp1 op.info.2 a b) (fun r s' => ∃ v, r = some v ∧ Q v s') E s) : wpAny (model prog w) A (binaryOp op a b) Q E s := by
  rcases hi : op.info with ⟨sym, nm⟩
  rw [hi] at h
  simp only [binaryOp, hi]
  refine wpAny_holding (wpAny_bind (wpAny_mono h (fun r s' hr => ?_) fun _ _ e => e))
  obtain ⟨v, rfl, hq⟩ := hr
  exact wpAny_pure hq
/-- op= by the plain operator -/
theorem ip_of1 {op : Operator} {cd : ClassData} {b : Value} {Q : Value → Shared → Prop} (Y : K.In s.heap) (I : PySem.W.InstAt s.heap x ox C od) (hc : PySem.W.clsIn K C = some cd) (hm : cd.mro = [.ref C, .type "object"])
    (h1 : PySem.W.findIn K (.ref C) (dunderI op.info.2) = some none) (h2 : PySem.W.findIn K (.type "object") (dunderI op.info.2) = some none)
    (h : wpAny (model prog w) A (binaryOp1 op.info.2 (.ref x) b) (fun r s' => ∃ v, r = some v ∧ Q v s') E s) : wpAny (model prog w) A (inplaceOp op (.ref x) b) Q E s := by
  unfold inplaceOp
  refine wpAny_holding (wpAny_bind (I.type.here (wpAny_bind ((noInplace Y hc hm h1 h2).here ?_))))
  simp only [Bool.false_eq_true, if_false]
  refine wpAny_bind (wpAny_mono h (fun r s' hr => ?_) fun _ _ e => e)
  obtain ⟨v, rfl, hq⟩ := hr
  exact wpAny_pure hq
end
end Hk
namespace Hk
open PySem PySem.Spec PyProof.Rows L2
theorem backC {Q : Value → Shared → Prop} {z : V} {u : Value} {s' : Shared} (r : RelV z u) (h : Q u s') : PySem.W.CmpBack Q u s' := by
  cases z with
  | non => cases r; exact h
  | bl b => cases r; exact h
  | int i => obtain ⟨t, rfl⟩ := r; exact h
  | str y => obtain ⟨t, rfl⟩ := r; exact h
  | byt y => obtain ⟨t, rfl⟩ := r; exact h
  | flt y => obtain ⟨t, rfl⟩ := r; exact h
  | ref a => cases r; exact h
  | ty n => cases r; exact h
/-- x op y: x of the class at C, y another or an int: the def's promise -/
def rBinO (C : Addr) (sp : Sp) : R2 := fun x y H Q => ∃ a dx fs, x = .ref a ∧ H a = some (.ins C dx fs) ∧ ((∃ i, y = .int i) ∨ ∃ b dy gs, y = .ref b ∧ H b = some (.ins C dy gs)) ∧ sp [x, y] H Q E0
/-- i op y, i an int -/
def rRbinO (C : Addr) (sp : Sp) : R2 := fun x y H Q => ∃ i b dy gs, x = .int i ∧ y = .ref b ∧ H b = some (.ins C dy gs) ∧ sp [y, x] H Q E0
def rUnO (C : Addr) (sp : Sp) : V → Hp → VK → Prop := fun x H Q => ∃ a dx fs, x = .ref a ∧ H a = some (.ins C dx fs) ∧ sp [x] H Q E0
/-- the class's mro is itself and object, it names no op= -/
structure NoIp (K : Fr) (C : Addr) (nm : String) : Prop where
  mro : ∃ cd, PySem.W.clsIn K C = some cd ∧ cd.mro = [.ref C, .type "object"]
  no : PySem.W.findIn K (.ref C) (dunderI nm) = some none
  noO : PySem.W.findIn K (.type "object") (dunderI nm) = some none
/-- the reflected one -/
structure RbinF (K : Fr) (C : Addr) (nm : String) (g : Addr) : Prop where
  at_ : PySem.W.findIn K (.ref C) (dunderR nm) = some (some (.ref g))
  fn : PySem.W.isFn K (.ref g) = true
  sub : PySem.W.subIn K (.ref C) (.type "int") = some false
section
variable {X : Cx} {k : Nat} {C f g : Addr} {fd : FuncData} {ps : List Str} {sp : Sp} {op : Operator}
theorem bin1_run {pins : List (Addr × Obj)} {s : Shared} {σ : L2.St} {H : Hp} {x y : V} {v u : Value} {Q : VK} (B : BinF X.K C op.info.2 f) (F : FnOk X.prog X.w X.K X.mg X.base CX0 k f fd ps sp) (hb : Binds X.K fd ps []) (hr : Room k X.A)
    (I : Inv X pins σ H s) (rx : RelV x v) (ry : RelV y u) (h : rBinO C sp x y H Q) :
    wpAny (model X.prog X.w) X.A (binaryOp1 op.info.2 v u) (fun r s' => ∃ w, r = some w ∧ EP X pins σ Q w s') X.xe s := by
  obtain ⟨a, dx, fs, rfl, ha, hy, q⟩ := h
  cases (show v = Value.ref a from rx)
  obtain ⟨mA, M, _⟩ := ins_get I.hok ha
  obtain ⟨od, J, _⟩ := M.look
  have run : wpAny (model X.prog X.w) X.A (call (.ref f) [.ref a, u]) (PySem.W.CmpBack (EP X pins σ Q)) X.xe s :=
    wpAny_mono (own_run (vs := [.ref a, y]) F hr I.env0 hb I (.cons rfl (.cons ry .nil)) q) (fun w s' z => by
      obtain ⟨z', H', I', rz, qz⟩ := id z
      exact backC rz z) fun _ _ z => z
  rcases hy with ⟨i, rfl⟩ | ⟨b, dy, gs, rfl, hb2⟩
  · obtain ⟨t, rfl⟩ := (show ∃ t, u = Value.int i t from ry)
    exact bin1_int I.kIn J B run
  · exact bin1_own I.kIn J B (TyL.looks I ry (.ins hb2)) run
theorem op_binO (B : BinF X.K C op.info.2 f) (F : FnOk X.prog X.w X.K X.mg X.base CX0 k f fd ps sp) (hb : Binds X.K fd ps []) (hr : Room k X.A) : OpR X (binaryOp op) (rBinO C sp) :=
  fun pins s σ H x y v u Q I rx ry h => bin_of1 (bin1_run B F hb hr I rx ry h)
theorem ip_binO (B : BinF X.K C op.info.2 f) (N : NoIp X.K C op.info.2) (F : FnOk X.prog X.w X.K X.mg X.base CX0 k f fd ps sp) (hb : Binds X.K fd ps []) (hr : Room k X.A) : PIp X op (rBinO C sp) := by
  intro pins s σ H x y v u Q I rx ry h
  obtain ⟨a, dx, fs, ex, ha, _⟩ := id h
  subst ex
  obtain ⟨mA, M, _⟩ := ins_get I.hok ha
  obtain ⟨od, J, _⟩ := M.look
  obtain ⟨cd, m1, m2⟩ := N.mro
  have e : v = Value.ref a := rx
  subst e
  exact ip_of1 I.kIn J m1 m2 N.no N.noO (bin1_run B F hb hr I rx ry h)
theorem op_rbinO {bi : String} (B : BinF X.K C op.info.2 f) (R : RbinF X.K C op.info.2 g) (fT : fillsNumberSlot (.type "int") op.info.2 = pure true) (slot : Slot "int" (PySem.dunder op.info.2) bi) (dec : Declines bi)
    (F : FnOk X.prog X.w X.K X.mg X.base CX0 k g fd ps sp) (hb : Binds X.K fd ps []) (hr : Room k X.A) : OpR X (binaryOp op) (rRbinO C sp) := by
  intro pins s σ H x y v u Q I rx ry h
  obtain ⟨i, b, dy, gs, rfl, rfl, ha, q⟩ := h
  obtain ⟨t, rfl⟩ := (show ∃ t, v = Value.int i t from rx)
  cases (show u = Value.ref b from ry)
  obtain ⟨mA, M, _⟩ := ins_get I.hok ha
  obtain ⟨od, J, _⟩ := M.look
  exact rbin_own I.kIn J B.self fT slot dec B.at_ R.sub R.at_ R.fn (wpAny_mono (own_run (vs := [.ref b, .int i]) F hr I.env0 hb I (.cons rfl (.cons rx .nil)) q) (fun w s' z => by
      obtain ⟨z', H', I', rz, qz⟩ := id z
      exact backC rz z) fun _ _ z => z)
theorem op_negO (O : Own X.K C "__neg__" f) (F : FnOk X.prog X.w X.K X.mg X.base CX0 k f fd ps sp) (hb : Binds X.K fd ps []) (hr : Room k X.A) : UnR X (unaryOp .USub) (rUnO C sp) := by
  intro pins s σ H x v Q I rx h
  obtain ⟨a, dx, fs, rfl, ha, q⟩ := h
  cases (show v = Value.ref a from rx)
  obtain ⟨mA, M, _⟩ := ins_get I.hok ha
  obtain ⟨od, J, _⟩ := M.look
  obtain ⟨m, hF⟩ := I.fr
  exact PySem.W.ksp_neg hF I.ok.mod.kin J O.at_ O.fn (own_run (vs := [.ref a]) F hr I.env0 hb I (.cons rfl .nil) q)
theorem call_absO (O : Own X.K C "__abs__" f) (F : FnOk X.prog X.w X.K X.mg X.base CX0 k f fd ps sp) (hb : Binds X.K fd ps []) (hr : Room (k + 1) X.A) : CallR X (.builtin "abs") (fun xs H Q => ∃ x, xs = [x] ∧ rUnO C sp x H Q) := by
  intro pins s σ H xs us Q I r h
  obtain ⟨x, rfl, a, dx, fs, rfl, ha, q⟩ := h
  obtain ⟨u, rfl, ru⟩ := r.one
  cases (show u = Value.ref a from ru)
  obtain ⟨mA, M, _⟩ := ins_get I.hok ha
  obtain ⟨od, J, _⟩ := M.look
  have r2 : Room k X.A.in1 := Room.in1 hr
  refine Calls.call_function_entry kind_abs plain_abs entry_abs (args_abs _) ?_
  unfold Builtin.«abs»
  refine wpAny_bind (m := oneArg "abs" _) (wpAny_pure ?_)
  refine wpAny_bind (m := callSpecial? (.ref a) (Str.ofString "__abs__")) (PySem.W.special_fn I.kIn J O.at_ (beq_iff_eq.mp O.fn) (wpAny_mono (own_run (vs := [.ref a]) F r2 I.env0.in1 hb I (.cons rfl .nil) q) (fun v s' z => ?_) fun _ _ z => z))
  exact wpAny_pure ⟨_, rfl, z⟩
end
/-! ### their facts -/
def tBin (x : Str) (nm : String) : Tst := fun K => PySem.W.selfFirst K (He.ga K x) && (tMeth x (PySem.dunder nm) K && ((match PySem.W.findIn K (.ref (He.ga K x)) (dunderR nm) with
    | some none => true
    | some (some (.ref _)) => true
    | _ => false) && ((PySem.W.findIn K (.type "int") (PySem.dunder nm)).isSome && ((PySem.W.findIn K (.type "int") (dunderR nm)).isSome && decide (PySem.W.subIn K (.type "int") (.ref (He.ga K x)) = some false)))))
def tRbin (x : Str) (nm : String) : Tst := fun K => tMeth x (dunderR nm) K && decide (PySem.W.subIn K (.ref (He.ga K x)) (.type "int") = some false)
def tNoIp (x : Str) (nm : String) : Tst := fun K => (match PySem.W.clsIn K (He.ga K x) with
    | some cd => decide (cd.mro = [.ref (He.ga K x), .type "object"])
    | none => false) && (He.eqO (PySem.W.findIn K (.ref (He.ga K x)) (dunderI nm)) (some none) && He.eqO (PySem.W.findIn K (.type "object") (dunderI nm)) (some none))
theorem bin_ok {K : Fr} {x : Str} {nm : String} (c : tBin x nm K = true) : BinF K (He.ga K x) nm (mAd x (PySem.dunder nm) K) := by
  obtain ⟨c1, c⟩ := He.ba c
  obtain ⟨c2, c⟩ := He.ba c
  obtain ⟨c3, c⟩ := He.ba c
  obtain ⟨c4, c⟩ := He.ba c
  obtain ⟨c5, c6⟩ := He.ba c
  have m := He.meth_ok c2
  refine ⟨c1, m.at_, m.fn, ?_, Option.isSome_iff_exists.mp c4, Option.isSome_iff_exists.mp c5, of_decide_eq_true c6⟩
  cases e : PySem.W.findIn K (.ref (He.ga K x)) (dunderR nm) with
  | none =>
    rw [e] at c3
    exact nomatch c3
  | some o =>
    rw [e] at c3
    cases o with
    | none => exact ⟨none, rfl, .inl rfl⟩
    | some v =>
      cases v with
      | ref g => exact ⟨_, rfl, .inr ⟨g, rfl⟩⟩
      | _ => exact nomatch c3
theorem rbin_ok {K : Fr} {x : Str} {nm : String} (c : tRbin x nm K = true) : RbinF K (He.ga K x) nm (mAd x (dunderR nm) K) := by
  obtain ⟨c1, c2⟩ := He.ba c
  have m := He.meth_ok c1
  exact ⟨m.at_, m.fn, of_decide_eq_true c2⟩
theorem noip_ok {K : Fr} {x : Str} {nm : String} (c : tNoIp x nm K = true) : NoIp K (He.ga K x) nm := by
  obtain ⟨c1, c⟩ := He.ba c
  obtain ⟨c2, c3⟩ := He.ba c
  refine ⟨?_, He.eqO_ok c2, He.eqO_ok c3⟩
  cases e : PySem.W.clsIn K (He.ga K x) with
  | none =>
    rw [e] at c1
    exact nomatch c1
  | some cd =>
    rw [e] at c1
    exact ⟨cd, rfl, of_decide_eq_true c1⟩
end Hk

/-! Fractions in lowest terms, over Int. -/
namespace NumM
def sg (b : Int) : Int := if b < 0 then -1 else 1
def gd (h b : Int) : Int := ((Nat.gcd h.natAbs b.natAbs : Nat) : Int)
def lowT (h b : Int) : Int := sg b * h / gd h b
def lowB (h b : Int) : Int := sg b * b / gd h b
theorem gd_pos {h b : Int} (hb : b ≠ 0) : 0 < gd h b := by
  have : 0 < Nat.gcd h.natAbs b.natAbs := Nat.gcd_pos_of_pos_right _ (by omega)
  unfold gd; omega
theorem gd_dvd_l (h b : Int) : gd h b ∣ h := by
  unfold gd
  exact Int.ofNat_dvd_left.mpr (Nat.gcd_dvd_left _ _)
theorem gd_dvd_r (h b : Int) : gd h b ∣ b := by
  unfold gd
  exact Int.ofNat_dvd_left.mpr (Nat.gcd_dvd_right _ _)
theorem gd_le {h b : Int} (hb : b ≠ 0) : (gd h b).natAbs ≤ b.natAbs := by
  have := Nat.gcd_le_right h.natAbs (show 0 < b.natAbs by omega)
  unfold gd; omega
theorem sg_sq (b : Int) : sg b * sg b = 1 := by unfold sg; split <;> rfl
theorem sg_mul {b : Int} (hb : b ≠ 0) : 0 < sg b * b := by unfold sg; split <;> omega
theorem natAbs_sg (b x : Int) : (sg b * x).natAbs = x.natAbs := by unfold sg; split <;> simp
theorem lowT_mul {h b : Int} : lowT h b * gd h b = sg b * h := by
  unfold lowT
  exact Int.ediv_mul_cancel (Int.dvd_mul_of_dvd_right (gd_dvd_l h b))
theorem lowB_mul {h b : Int} : lowB h b * gd h b = sg b * b := by
  unfold lowB
  exact Int.ediv_mul_cancel (Int.dvd_mul_of_dvd_right (gd_dvd_r h b))
theorem low_pos {h b : Int} (hb : b ≠ 0) : 0 < lowB h b := by
  have h1 := gd_pos (h := h) hb
  have h2 := sg_mul hb
  rw [← lowB_mul (h := h)] at h2
  exact Int.pos_of_mul_pos_left h2 (by omega)
theorem low_cop {h b : Int} (hb : b ≠ 0) : Nat.gcd (lowT h b).natAbs (lowB h b).natAbs = 1 := by
  have hp := gd_pos (h := h) hb
  have e1 : (lowT h b).natAbs * (gd h b).natAbs = h.natAbs := by rw [← Int.natAbs_mul, lowT_mul, natAbs_sg]
  have e2 : (lowB h b).natAbs * (gd h b).natAbs = b.natAbs := by rw [← Int.natAbs_mul, lowB_mul, natAbs_sg]
  have g : Nat.gcd ((lowT h b).natAbs * (gd h b).natAbs) ((lowB h b).natAbs * (gd h b).natAbs) = (gd h b).natAbs := by
    rw [e1, e2]; unfold gd; simp
  rw [Nat.gcd_mul_right] at g
  have hp' : 0 < (gd h b).natAbs := by omega
  exact Nat.eq_of_mul_eq_mul_right hp' (by rw [g, Nat.one_mul])
theorem low_eq {h b : Int} (hb : b ≠ 0) : lowT h b * b = h * lowB h b := by
  have hp := gd_pos (h := h) hb
  have e1 := lowT_mul (h := h) (b := b)
  have e2 := lowB_mul (h := h) (b := b)
  have : (lowT h b * b) * gd h b = (h * lowB h b) * gd h b := by
    calc (lowT h b * b) * gd h b = (lowT h b * gd h b) * b := by rw [Int.mul_right_comm]
      _ = (sg b * h) * b := by rw [e1]
      _ = h * (sg b * b) := by rw [Int.mul_comm (sg b) h, Int.mul_assoc]
      _ = h * (lowB h b * gd h b) := by rw [e2]
      _ = (h * lowB h b) * gd h b := by rw [Int.mul_assoc]
  exact Int.eq_of_mul_eq_mul_right (by omega) this
theorem uniq {t b u c : Int} (hb : 0 < b) (hc : 0 < c) (h1 : Nat.gcd t.natAbs b.natAbs = 1) (h2 : Nat.gcd u.natAbs c.natAbs = 1) (e : t * c = u * b) : t = u ∧ b = c := by
  have en : t.natAbs * c.natAbs = u.natAbs * b.natAbs := by rw [← Int.natAbs_mul, ← Int.natAbs_mul, e]
  have d1 : b.natAbs ∣ c.natAbs := by
    have : b.natAbs ∣ t.natAbs * c.natAbs := ⟨u.natAbs, by rw [en, Nat.mul_comm]⟩
    exact Nat.Coprime.dvd_of_dvd_mul_left (show Nat.Coprime b.natAbs t.natAbs by unfold Nat.Coprime; rw [Nat.gcd_comm]; exact h1) this
  have d2 : c.natAbs ∣ b.natAbs := by
    have : c.natAbs ∣ u.natAbs * b.natAbs := ⟨t.natAbs, by rw [← en, Nat.mul_comm]⟩
    exact Nat.Coprime.dvd_of_dvd_mul_left (show Nat.Coprime c.natAbs u.natAbs by unfold Nat.Coprime; rw [Nat.gcd_comm]; exact h2) this
  have ebc : b.natAbs = c.natAbs := Nat.dvd_antisymm d1 d2
  have bc : b = c := by omega
  subst bc
  exact ⟨Int.eq_of_mul_eq_mul_right (by omega) e, rfl⟩
theorem low_of {h b t c : Int} (hb : b ≠ 0) (hc : 0 < c) (h1 : Nat.gcd t.natAbs c.natAbs = 1) (e : t * b = h * c) : lowT h b = t ∧ lowB h b = c := by
  have l := low_eq (h := h) hb
  refine uniq (low_pos hb) hc (low_cop hb) h1 ?_
  have : (lowT h b * c) * b = (t * lowB h b) * b := by
    calc (lowT h b * c) * b = (lowT h b * b) * c := by rw [Int.mul_right_comm]
      _ = h * lowB h b * c := by rw [l]
      _ = (h * c) * lowB h b := by rw [Int.mul_right_comm]
      _ = (t * b) * lowB h b := by rw [e]
      _ = (t * lowB h b) * b := by rw [Int.mul_right_comm]
  exact Int.eq_of_mul_eq_mul_right hb this
theorem low_red {t b : Int} (hb : 0 < b) (h1 : Nat.gcd t.natAbs b.natAbs = 1) : lowT t b = t ∧ lowB t b = b := low_of (by omega) hb h1 rfl
theorem low_mul {h b m : Int} (hb : b ≠ 0) (hm : m ≠ 0) : lowT (h * m) (b * m) = lowT h b ∧ lowB (h * m) (b * m) = lowB h b := by
  refine low_of (Int.mul_ne_zero hb hm) (low_pos hb) (low_cop hb) ?_
  rw [← Int.mul_assoc, low_eq hb, Int.mul_right_comm]
theorem natAbs_le_of_mul {x g y : Int} (hg : 0 < g) (e : x * g = y) : x.natAbs ≤ y.natAbs := by
  rw [← e, Int.natAbs_mul]
  exact Nat.le_mul_of_pos_right _ (by omega)
theorem lowT_le {h b : Int} (hb : b ≠ 0) : (lowT h b).natAbs ≤ h.natAbs := by
  have := natAbs_le_of_mul (gd_pos (h := h) hb) (lowT_mul (h := h) (b := b))
  rwa [natAbs_sg] at this
theorem lowB_le {h b : Int} (hb : b ≠ 0) : (lowB h b).natAbs ≤ b.natAbs := by
  have := natAbs_le_of_mul (gd_pos (h := h) hb) (lowB_mul (h := h) (b := b))
  rwa [natAbs_sg] at this
/-- what __init__ divides by -/
def shr (h b : Int) : Int := if b < 0 then -(gd h b) else gd h b
theorem shr_eq (h b : Int) : shr h b = sg b * gd h b := by unfold shr sg; split <;> simp
theorem fdiv_of {x y z : Int} (hy : y ≠ 0) (e : x = z * y) : x.fdiv y = z := by
  rw [e]
  exact Int.mul_fdiv_cancel _ hy
theorem init_top {h b : Int} (hb : b ≠ 0) : h.fdiv (shr h b) = lowT h b := by
  have hp := gd_pos (h := h) hb
  refine fdiv_of (by rw [shr_eq]; unfold sg; split <;> omega) ?_
  rw [shr_eq, Int.mul_comm (sg b), ← Int.mul_assoc, lowT_mul, Int.mul_right_comm, sg_sq, Int.one_mul]
theorem init_bot {h b : Int} (hb : b ≠ 0) : b.fdiv (shr h b) = lowB h b := by
  have hp := gd_pos (h := h) hb
  refine fdiv_of (by rw [shr_eq]; unfold sg; split <;> omega) ?_
  rw [shr_eq, Int.mul_comm (sg b), ← Int.mul_assoc, lowB_mul, Int.mul_right_comm, sg_sq, Int.one_mul]
theorem shr_ne {h b : Int} (hb : b ≠ 0) : shr h b ≠ 0 := by
  have hp := gd_pos (h := h) hb
  rw [shr_eq]; unfold sg; split <;> omega
theorem shr_le {h b : Int} (hb : b ≠ 0) : (shr h b).natAbs ≤ b.natAbs := by
  rw [shr_eq, natAbs_sg]; exact gd_le hb
end NumM

/-! The texts of ints and fractions, as lists of codes. -/
namespace NumT
open PySem PySem.Spec PyProof.Rows L2 SX
open TL (numL)
def iL (z : Int) : List Nat := if z < 0 then 45 :: numL z.natAbs else numL z.natAbs
theorem toS (z : Int) : ((toString z : String) : Str) = S (iL z) := by
  unfold iL
  by_cases h : z < 0
  · rw [if_pos h]
    obtain ⟨n, rfl⟩ : ∃ n : Nat, z = -((n : Nat) : Int) := ⟨z.natAbs, by omega⟩
    have hn : 0 < n := by omega
    obtain ⟨m, rfl⟩ : ∃ m, n = m + 1 := ⟨n - 1, by omega⟩
    have e : (toString (-(((m + 1 : Nat)) : Int)) : String) = "-" ++ toString (((m + 1 : Nat) : Nat) : Int) := rfl
    have e2 : ((-(((m + 1 : Nat)) : Int)).natAbs) = m + 1 := by omega
    rw [e2]
    show Str.ofString (toString (-(((m + 1 : Nat)) : Int))) = _
    rw [e]
    have e3 := TL.tl_num (m + 1)
    refine TL.ext_tl ?_
    show (Str.ofString ("-" ++ toString (((m + 1 : Nat)) : Int))).cps.toList = _
    have e4 : (Str.ofString ("-" ++ toString (((m + 1 : Nat)) : Int))).cps.toList = 45 :: (Str.ofString (toString (((m + 1 : Nat)) : Int))).cps.toList := by
      simp [Str.ofString]
      rfl
    rw [e4]
    exact congrArg (45 :: ·) e3
  · rw [if_neg h]
    obtain ⟨n, rfl⟩ : ∃ n : Nat, z = ((n : Nat) : Int) := ⟨z.natAbs, by omega⟩
    exact num_S n
theorem iL_free {z : Int} : 47 ∉ iL z := by
  unfold iL
  split
  · intro h
    rcases List.mem_cons.mp h with h | h
    · cases h
    · exact TL.numL_free (by decide) h
  · exact TL.numL_free (by decide)
theorem numL_all (n : Nat) : NumText.AllDigits (numL n) := TL.numL_digits n
theorem pre_one {c d : Nat} {r : List Nat} : TL.pre [c] (d :: r) = decide (c = d) := by
  by_cases h : c = d
  · rw [decide_eq_true h]
    subst h
    simp [TL.pre]
  · rw [decide_eq_false h]
    have h2 : ¬ d = c := fun e => h e.symm
    simp [TL.pre, h, h2]
theorem par_none (c : Nat) : ∀ (a acc : List Nat), c ∉ a → TL.par [c] acc a = none
  | [], _, _ => rfl
  | d :: r, acc, h => by
    have hd : ¬ c = d := fun e => h (by rw [e]; exact List.mem_cons_self)
    show (if TL.pre [c] (d :: r) = true then _ else _) = _
    rw [pre_one, decide_eq_false hd, if_neg Bool.false_ne_true]
    exact par_none c r _ fun z => h (List.mem_cons_of_mem _ z)
theorem par_some (c : Nat) (q : List Nat) : ∀ (a acc : List Nat), c ∉ a → TL.par [c] acc (a ++ c :: q) = some (acc ++ a, q)
  | [], acc, _ => by
    show (if TL.pre [c] (c :: q) = true then _ else _) = _
    rw [pre_one, decide_eq_true rfl, if_pos rfl]
    simp
  | d :: r, acc, h => by
    have hd : ¬ c = d := fun e => h (by rw [e]; exact List.mem_cons_self)
    rw [List.cons_append]
    show (if TL.pre [c] (d :: (r ++ c :: q)) = true then _ else TL.par [c] (acc ++ [d]) (r ++ c :: q)) = _
    rw [pre_one, decide_eq_false hd, if_neg Bool.false_ne_true, par_some c q r _ fun z => h (List.mem_cons_of_mem _ z)]
    simp
theorem part_none {a : List Nat} (h : 47 ∉ a) : Txt.partition (S a) (S [47]) = (S a, S [], S []) := partition_none (by simp) (par_none 47 a [] h)
theorem part_some {a q : List Nat} (h : 47 ∉ a) : Txt.partition (S (a ++ 47 :: q)) (S [47]) = (S a, S [47], S q) := partition_some (by simp) (par_some 47 q a [] h)
theorem slash_S : ("/" : Str) = S [47] := by decide +kernel
theorem minus_S : ("-" : Str) = S [45] := by decide +kernel
/-- digits, and at least one -/
def dig (a : List Nat) : Bool := !a.isEmpty && a.all (fun c => decide (48 ≤ c) && decide (c ≤ 57))
theorem ascii_S (a : List Nat) : Txt.isascii (S a) = a.all (fun c => decide (c < 128)) := by
  show (S a).cps.all (· < 128) = _
  rw [← Array.all_toList]
theorem digit_S {a : List Nat} (h : a.all (fun c => decide (c < 128)) = true) : Txt.isdigit (S a) = dig a := by
  have e : Txt.isdigit (S a) = (decide ((S a).length > 0) && (S a).cps.all Unicode.isDigit) := rfl
  rw [e, ← Array.all_toList, S_len]
  show (decide (a.length > 0) && a.all Unicode.isDigit) = _
  unfold dig
  have e1 : decide (a.length > 0) = !a.isEmpty := by cases a <;> simp
  rw [e1]
  congr 1
  have hall : ∀ c ∈ a, c < 128 := fun c hc => of_decide_eq_true (List.all_eq_true.mp h c hc)
  clear h e e1
  induction a with
  | nil => rfl
  | cons c r ih =>
    have k : ∀ n : _root_.Fin 128, Unicode.isDigit n.val = (decide (48 ≤ n.val) && decide (n.val ≤ 57)) := by decide +kernel
    rw [List.all_cons, List.all_cons, ih fun d hd => hall d (List.mem_cons_of_mem _ hd), k ⟨c, hall c List.mem_cons_self⟩]
/-- isascii and isdigit together -/
theorem both_S (a : List Nat) : (Txt.isascii (S a) && Txt.isdigit (S a)) = dig a := by
  rw [ascii_S]
  cases h : a.all (fun c => decide (c < 128)) with
  | true => rw [Bool.true_and]; exact digit_S h
  | false =>
    rw [Bool.false_and]
    cases q : dig a with
    | false => rfl
    | true =>
      unfold dig at q
      have q2 := (Bool.and_eq_true_iff.mp q).2
      have : a.all (fun c => decide (c < 128)) = true := List.all_eq_true.mpr fun c hc => by
        have z := List.all_eq_true.mp q2 c hc
        rw [Bool.and_eq_true, decide_eq_true_eq, decide_eq_true_eq] at z
        exact decide_eq_true (by omega)
      rw [this] at h
      exact nomatch h
theorem dig_num (n : Nat) : dig (numL n) = true := by
  unfold dig
  have h1 := TL.numL_ne n
  have h2 := numL_all n
  rw [Bool.and_eq_true]
  refine ⟨by cases e : numL n with
    | nil => exact absurd e h1
    | cons => rfl, List.all_eq_true.mpr fun c hc => ?_⟩
  have := h2 c hc
  rw [Bool.and_eq_true, decide_eq_true_eq, decide_eq_true_eq]
  exact this
theorem dig_all {a : List Nat} (h : dig a = true) : NumText.AllDigits a ∧ a ≠ [] := by
  unfold dig at h
  obtain ⟨h1, h2⟩ := Bool.and_eq_true_iff.mp h
  refine ⟨fun c hc => ?_, by rintro rfl; exact nomatch h1⟩
  have z := List.all_eq_true.mp h2 c hc
  rw [Bool.and_eq_true, decide_eq_true_eq, decide_eq_true_eq] at z
  exact z
/-- removeprefix('-') -/
def unsig : List Nat → List Nat
  | 45 :: r => r
  | a => a
theorem rmp_S (a : List Nat) (ha : a ≠ [45]) : Txt.removeprefix (S a) (S [45]) = S (unsig a) := by
  rw [StrLaws.removeprefix_eq]
  have e : ∀ l : List Nat, Builtin.Str.subAt (S l) (S [45]) 0 = (match l with
    | c :: _ => decide (45 = c)
    | [] => false) := fun l => by
    rw [StrLaws.subAt_eq]
    cases l with
    | nil => decide +kernel
    | cons c r =>
      show (((c :: r).drop 0).take 1 == [45]) = _
      simp [eq_comm]
      try rfl
  cases a with
  | nil => decide +kernel
  | cons c r =>
    rw [e (c :: r)]
    have hl : decide (0 + (S [45]).length ≤ (S (c :: r)).length) = true := by
      rw [S_len, S_len]
      simp
    rw [hl, Bool.true_and]
    by_cases h : 45 = c
    · subst h
      show (if decide ((45 : Nat) = 45) = true then _ else _) = _
      rw [if_pos (by decide)]
      refine TL.ext_tl ?_
      show (((45 :: r).drop (S [45]).length).take ((S (45 :: r)).length - (S [45]).length)) = r
      rw [S_len, S_len]
      simp
    · have hu : unsig (c :: r) = c :: r := by
        unfold unsig
        split
        · rename_i z
          have := (List.cons.inj z).1
          exact absurd this.symm h
        · rfl
      show (if decide (45 = c) = true then _ else _) = _
      rw [decide_eq_false h, if_neg Bool.false_ne_true, hu]
theorem unsig_i (z : Int) : unsig (iL z) = numL z.natAbs := by
  unfold iL
  split
  · rfl
  · have h := numL_all z.natAbs
    cases e : numL z.natAbs with
    | nil => rfl
    | cons c r =>
      have := h c (by rw [e]; exact List.mem_cons_self)
      unfold unsig
      split
      · rename_i z
        have := (List.cons.inj z).1
        omega
      · rfl
theorem iL_ne45 (z : Int) : iL z ≠ [45] := fun h => by
  have e := unsig_i z
  rw [h] at e
  exact TL.numL_ne _ e.symm
theorem num_len {n : Nat} (h : n < 2 ^ 1000) : (numL n).length ≤ 302 := TL.numL_len (by decide) (Nat.lt_of_lt_of_le h (by decide +kernel))
theorem i_len {z : Int} (h : z.natAbs < 2 ^ 1000) : (iL z).length ≤ 303 := by
  unfold iL
  have := num_len h
  split
  · rw [List.length_cons]; omega
  · omega
theorem int_i {z : Int} (h : z.natAbs < 2 ^ 1000) : intText? (S (iL z)) = some z := by
  have hl := num_len h
  unfold iL
  split
  · rename_i hz
    have e := PySem.intText_neg (x := S (45 :: numL z.natAbs)) (cs := numL z.natAbs) rfl (numL_all _) (TL.numL_ne _) (by rw [S_len, List.length_cons]; omega)
    rw [TL.numL_val] at e
    rw [e]
    congr 1
    omega
  · rename_i hz
    have e := PySem.intText_digits (x := S (numL z.natAbs)) (numL_all _) (TL.numL_ne _) (by rw [S_len]; omega)
    have e2 : (S (numL z.natAbs)).cps.toList = numL z.natAbs := rfl
    rw [e2, TL.numL_val] at e
    rw [e]
    congr 1
    omega
/-- the text of a fraction -/
def fL (t b : Int) : List Nat := if b = 1 then iL t else iL t ++ 47 :: iL b
theorem iL_inj {x y : Int} (h : iL x = iL y) : x = y := by
  have hu := congrArg unsig h
  rw [unsig_i, unsig_i] at hu
  have e := TL.numL_inj hu
  by_cases hx : x < 0 <;> by_cases hy : y < 0
  · omega
  · exfalso
    unfold iL at h
    rw [if_pos hx, if_neg hy] at h
    have := numL_all y.natAbs 45 (by rw [← h]; exact List.mem_cons_self)
    omega
  · exfalso
    unfold iL at h
    rw [if_neg hx, if_pos hy] at h
    have := numL_all x.natAbs 45 (by rw [h]; exact List.mem_cons_self)
    omega
  · omega
theorem f_len {t b : Int} (h1 : t.natAbs < 2 ^ 1000) (h2 : b.natAbs < 2 ^ 1000) : (fL t b).length ≤ 610 := by
  have a := i_len h1
  have c := i_len h2
  unfold fL
  split
  · omega
  · rw [List.length_append, List.length_cons]; omega
theorem fL_inj {t b u c : Int} (h : fL t b = fL u c) : t = u ∧ b = c := by
  unfold fL at h
  by_cases hb : b = 1 <;> by_cases hc : c = 1
  · rw [if_pos hb, if_pos hc] at h
    exact ⟨iL_inj h, by omega⟩
  · rw [if_pos hb, if_neg hc] at h
    exact absurd (by rw [h]; simp) (iL_free (z := t))
  · rw [if_neg hb, if_pos hc] at h
    exact absurd (by rw [← h]; simp) (iL_free (z := u))
  · rw [if_neg hb, if_neg hc] at h
    have p1 := par_some 47 (iL b) (iL t) [] iL_free
    have p2 := par_some 47 (iL c) (iL u) [] iL_free
    rw [h, p2] at p1
    have := Prod.mk.inj (Option.some.inj p1)
    exact ⟨(iL_inj this.1).symm, (iL_inj this.2).symm⟩
end NumT

namespace Hk
open PySem PySem.Spec PyProof.Rows L2 NumM NumT SX
/-- codes below 128 -/
def Asc (x : Str) : Prop := ∀ c ∈ x.cps.toList, c < 128
theorem Asc.app {x y : Str} (h : Asc x) (g : Asc y) : Asc (x ++ y) := fun c hc => by
  rw [show (x ++ y).cps.toList = x.cps.toList ++ y.cps.toList from TL.tl_append x y] at hc
  rcases List.mem_append.mp hc with z | z
  · exact h c z
  · exact g c z
theorem Asc.ok {x : Str} (h : Asc x) : PyData.strOk x = true := by
  unfold PyData.strOk
  rw [← Array.all_toList, List.all_eq_true]
  intro c hc
  have := h c hc
  exact decide_eq_true (by omega)
theorem char_asc (q c : Nat) (hq : q = 39 ∨ q = 34) (hc : c < 128) : ∀ d ∈ Builtin.Str.reprChar q c, d < 128 := by
  have k : ∀ n : _root_.Fin 128, ((Builtin.Str.reprChar 39 n.val).all (fun d => decide (d < 128)) && (Builtin.Str.reprChar 34 n.val).all (fun d => decide (d < 128))) = true := by decide +kernel
  have h := k ⟨c, hc⟩
  obtain ⟨h1, h2⟩ := Bool.and_eq_true_iff.mp h
  intro d hd
  rcases hq with rfl | rfl
  · exact of_decide_eq_true (List.all_eq_true.mp h1 d hd)
  · exact of_decide_eq_true (List.all_eq_true.mp h2 d hd)
theorem fold_asc (q : Nat) (hq : q = 39 ∨ q = 34) : ∀ (l : List Nat) (acc : Array Nat), (∀ c ∈ l, c < 128) → (∀ c ∈ acc.toList, c < 128) → ∀ c ∈ (l.foldl (fun out c => out ++ (Builtin.Str.reprChar q c).toArray) acc).toList, c < 128
  | [], acc, _, h => h
  | x :: r, acc, hl, h => by
    rw [List.foldl_cons]
    refine fold_asc q hq r _ (fun c hc => hl c (List.mem_cons_of_mem _ hc)) fun c hc => ?_
    rw [Array.toList_append] at hc
    rcases List.mem_append.mp hc with z | z
    · exact h c z
    · exact char_asc q x hq (hl x List.mem_cons_self) c (by simpa using z)
theorem repr_asc {x : Str} (h : Asc x) : Asc (reprText x) := by
  have hq : reprQuote x = 39 ∨ reprQuote x = 34 := by
    unfold reprQuote
    split <;> simp
  intro c hc
  unfold reprText at hc
  rw [Array.toList_push] at hc
  rcases List.mem_append.mp hc with z | z
  · rw [← Array.foldl_toList] at z
    refine fold_asc _ hq x.cps.toList _ h (fun d hd => ?_) c z
    have : d = reprQuote x := by simpa using hd
    rw [this]
    rcases hq with e | e <;> rw [e] <;> decide
  · have : c = reprQuote x := by simpa using z
    rw [this]
    rcases hq with e | e <;> rw [e] <;> decide
theorem lit_asc {x : Str} (h : x.cps.toList.all (fun c => decide (c < 128)) = true) : Asc x := fun c hc => of_decide_eq_true (List.all_eq_true.mp h c hc)
theorem join_asc {s : Str} {ts : List Str} (hs : Asc s) (h : ∀ t ∈ ts, Asc t) : Asc (Str.join s ts) := fun c hc => by
  rcases (mem_join s c ts).mp hc with ⟨t, ht, z⟩ | ⟨_, z⟩
  · exact h t ht c z
  · exact hs c z
theorem S_asc {a : List Nat} (h : ∀ c ∈ a, c < 128) : Asc (S a) := h
theorem int_asc (i : Int) : Asc ((toString i : String) : Str) := by
  rw [toS]
  intro c hc
  have hc : c ∈ iL i := hc
  unfold iL at hc
  split at hc
  · rcases List.mem_cons.mp hc with h | h
    · omega
    · have := numL_all _ c h; omega
  · have := numL_all _ c hc; omega
mutual
/-- all texts in it have codes below 128 -/
def ascD : PyData → Prop
  | .str x => Asc x
  | .list xs => ascDs xs
  | .tuple xs => ascDs xs
  | .dict _ => False
  | _ => True
def ascDs : List PyData → Prop
  | [] => True
  | x :: xs => ascD x ∧ ascDs xs
end
mutual
theorem shown_asc : ∀ d : PyData, ascD d → Asc d.shown
  | .none, _ => lit_asc (by decide +kernel)
  | .bool b, _ => by cases b <;> exact lit_asc (by decide +kernel)
  | .int i, _ => by rw [PyData.shown_int]; exact int_asc i
  | .str x, h => by
    rw [PyData.shown_str]
    simp only [ascD] at h
    exact repr_asc h
  | .list xs, h => by
    simp only [ascD] at h
    rw [PyData.shown_list]
    exact ((lit_asc (by decide +kernel)).app (join_asc (lit_asc (by decide +kernel)) (shownAll_asc xs h))).app (lit_asc (by decide +kernel))
  | .tuple xs, h => by
    simp only [ascD] at h
    rw [PyData.shown_tuple]
    refine ((lit_asc (by decide +kernel)).app (join_asc (lit_asc (by decide +kernel)) (shownAll_asc xs h))).app ?_
    split <;> exact lit_asc (by decide +kernel)
  | .dict _, h => by simp only [ascD] at h
theorem shownAll_asc : ∀ xs : List PyData, ascDs xs → ∀ t ∈ PyData.shownAll xs, Asc t
  | [], _ => by
    rw [PyData.shownAll_nil]
    intro t ht
    exact absurd ht (List.not_mem_nil)
  | x :: xs, h => by
    simp only [ascDs] at h
    rw [PyData.shownAll_cons]
    intro t ht
    rcases List.mem_cons.mp ht with e | e
    · rw [e]; exact shown_asc x h.1
    · exact shownAll_asc xs h.2 t e
end
end Hk

/-! Numbers: what stands at an instance, promises, texts. -/
namespace Hk
open PySem PySem.Spec PyProof.Rows L2 NumM
/-! ### the class Number: data, promises -/
def numF (t b : Int) : List (Str × V) := [("_top", .int t), ("_bottom", .int b)]
theorem ktb : ¬ (("_top" : Str) = "_bottom") := by decide +kernel
theorem numF_eq (t b : Int) : putF "_bottom" (.int b) (putF "_top" (.int t) []) = numF t b := by
  show (if ("_top" : Str) = "_bottom" then [(("_top" : Str), V.int b)] else (("_top" : Str), V.int t) :: putF "_bottom" (V.int b) []) = numF t b
  rw [if_neg ktb]
  rfl
theorem numF_top (t b : Int) : (numF t b).lookup ("_top" : Str) = some (.int t) := by
  rw [← numF_eq, lookup_putF, if_neg ktb, lookup_putF, if_pos rfl]
theorem numF_bot (t b : Int) : (numF t b).lookup ("_bottom" : Str) = some (.int b) := by
  rw [← numF_eq, lookup_putF, if_pos rfl]
/-- a Number in lowest terms stands at p -/
structure NumAt (C : Addr) (H : Hp) (p : Addr) (t b : Int) : Prop where
  at_ : ∃ dx, H p = some (.ins C dx (numF t b))
  pos : 0 < b
  cop : Nat.gcd t.natAbs b.natAbs = 1
theorem NumAt.same {C : Addr} {H H' : Hp} {p : Addr} {t b : Int} (n : NumAt C H p t b) (s : Same H H') : NumAt C H' p t b := by
  obtain ⟨dx, h⟩ := n.at_
  exact ⟨⟨dx, s _ _ h⟩, n.pos, n.cop⟩
/-- sizes: numbers of this many bits -/
abbrev Sz (n : Int) : Prop := n.natAbs < 2 ^ 1000
def spInit (C : Addr) : Sp := fun vs H Q _ => ∃ (p dx : Addr) (h b : Int), vs = [.ref p, .int h, .int b] ∧ H p = some (.ins C dx []) ∧ b ≠ 0 ∧ Sz b ∧ Q .non (upd H p (.ins C dx (numF (lowT h b) (lowB h b))))
/-- a reader of a Number -/
def spGet (C : Addr) (g : Int → Int → V) : Sp := fun vs H Q _ => ∃ (p : Addr) (t b : Int), vs = [.ref p] ∧ NumAt C H p t b ∧ Sz t ∧ Sz b ∧ Q (g t b) H
def sgn (t : Int) : Int := if t = 0 then 0 else if 0 < t then 1 else -1
def txt (t b : Int) : Str := if b = 1 then ((toString t : String) : Str) else ((toString t : String) : Str) ++ ("/" : Str) ++ ((toString b : String) : Str)
/-- __eq__ -/
def spEq (C : Addr) (K : Fr) : Sp := fun vs H Q _ => ∃ (p : Addr) (t b : Int) (y : V), vs = [.ref p, y] ∧ NumAt C H p t b ∧
  ((∃ q u c, y = .ref q ∧ NumAt C H q u c ∧ Q (.bl (decide (t = u) && decide (b = c))) H) ∨ (∃ ty, TyX K H y ty ∧ PySem.W.kitOne K ty (.ref C) = some false ∧ Q (.bl false) H))
def spIsInt : Sp := fun vs H Q _ => ∃ i : Int, vs = [.int i] ∧ Q (.bl true) H
section
variable {X : Cx}
/-- // by any divisor below 2 ^ 9000 -/
def CDivG (_ j : Int) : Prop := j ≠ 0 ∧ j.natAbs.log2 < 9000
theorem op_fdivG : OpR X (binaryOp .FloorDiv) (rI CDivG fun i j => .int (i.fdiv j)) := opI fun _ _ _ _ _ _ _ hc q => floordiv_int hc.1 q (.inl (PyProof.noPylong_of_log2 hc.2))
end
theorem log2_sz {i : Int} (h : Sz i) : i.natAbs.log2 < 1000 := PySem.Flt.log2_lt_of (by decide) h
end Hk
namespace Hk
open PySem PySem.Spec PyProof.Rows L2 NumM NumT SX
theorem empty_S : Str.empty = S [] := by decide +kernel
theorem log2_small {i : Int} (h : Sz i) : i.natAbs.log2 < 1920 := Nat.lt_trans (log2_sz h) (by decide)
theorem line_ge {n : Nat} (h : n ≤ 100000) : n ≤ sizeLine := Nat.le_trans h (by decide)
end Hk
namespace Hk
open PySem PySem.Spec PyProof.Rows L2 NumM NumT SX
/-- a promise about one text -/
def spDigits : Sp := fun vs H Q _ => ∃ a : List Nat, vs = [.str (S a)] ∧ Q (.bl (dig a)) H
end Hk
namespace Hk
open PySem PySem.Spec PyProof.Rows L2 NumM NumT SX
/-- a new Number comes back -/
abbrev NewNum (C : Addr) (H : Hp) (Q : VK) (t b : Int) : Prop := ∀ (H' : Hp) (p : Addr), Same H H' → H p = none → NumAt C H' p t b → Q (.ref p) H'
/-- a text of a fraction in lowest terms is read -/
def spRead (C : Addr) : Sp := fun vs H Q _ => ∃ t b : Int, vs = [.str (S (fL t b))] ∧ 0 < b ∧ Nat.gcd t.natAbs b.natAbs = 1 ∧ Sz t ∧ Sz b ∧ NewNum C H Q t b
theorem truS {K : Fr} {H : Hp} {a : List Nat} (h : a.length ≤ 100000) : TruV K (.str (S a)) H (!a.isEmpty) := by
  refine ⟨by rw [S_len]; exact line_ge h, ?_⟩
  rw [S_len]
  cases a with
  | nil => rfl
  | cons c r => rfl
/-- an instance is laid: it and its dict are new -/
theorem laid_same {H : Hp} {x dx C : Addr} {fs : List (Str × V)} (nx : H x = none) (nd : H dx = none) : Same H (upd (upd (upd H dx (.own x)) x (.ins C dx [])) x (.ins C dx fs)) := by
  intro b o e
  rw [upd_upd, upd_ne (ne_of_none e nx), upd_ne (ne_of_none e nd)]
  exact e
theorem same_upd {H : Hp} {p : Addr} {o : HO} (h : H p = none) : Same H (upd H p o) := fun b u e => by
  rw [upd_ne (ne_of_none e h)]
  exact e
theorem same_upd' {H H1 : Hp} {p : Addr} {o : HO} (s : Same H H1) (h : H p = none) : Same H (upd H1 p o) := fun b u e => by
  rw [upd_ne (ne_of_none e h)]
  exact s b u e
/-- a call of the class with its two arguments: what __init__ promises of it -/
theorem mk_num {C : Addr} {H : Hp} {Q : VK} {h b : Int} (hb : b ≠ 0) (sb : Sz b) (k : NewNum C H Q (lowT h b) (lowB h b)) : ∀ x dx, H x = none → H dx = none → dx ≠ x →
    spInit C [.ref x, .int h, .int b] (upd (upd H dx (.own x)) x (.ins C dx [])) (fun v H2 => v = .non ∧ Q (.ref x) H2) E0 := by
  intro x dx nx nd ne
  refine ⟨x, dx, h, b, rfl, upd_same, hb, sb, rfl, ?_⟩
  exact k _ x (laid_same nx nd) nx ⟨⟨dx, upd_same⟩, low_pos hb, low_cop hb⟩
end Hk
namespace Hk
open PySem PySem.Spec PyProof.Rows L2 NumM NumT SX
theorem map_int_get {ns : List Int} {j : Nat} (h : j < ns.length) : ∃ n : Int, ns[j]? = some n ∧ atI (ns.map V.int) ((j : Nat) : Int) = some (V.int n) := by
  refine ⟨ns[j], by simp [h], ?_⟩
  refine atI_nat ?_
  rw [List.getElem?_map]
  simp [h]
end Hk
namespace Hk
open PySem PySem.Spec PyProof.Rows L2 NumM NumT SX
theorem iL_small (z : Int) : ∀ c ∈ iL z, c < 128 := fun c hc => by
  unfold iL at hc
  split at hc
  · rcases List.mem_cons.mp hc with h | h
    · omega
    · have := numL_all _ c h; omega
  · have := numL_all _ c hc; omega
theorem fL_small (t b : Int) : ∀ c ∈ fL t b, c < 128 := fun c hc => by
  unfold fL at hc
  split at hc
  · exact iL_small _ c hc
  · rcases List.mem_append.mp hc with h | h
    · exact iL_small _ c h
    · rcases List.mem_cons.mp h with h | h
      · omega
      · exact iL_small _ c h
/-- repr of a Number, by its codes -/
def rL (t b : Int) : List Nat := [78, 117, 109, 98, 101, 114, 40] ++ fL t b ++ [41]
theorem repr_S (t b : Int) : ("Number(" : Str) ++ S (fL t b) ++ (")" : Str) = S (rL t b) := by
  have e1 : ("Number(" : Str) = S [78, 117, 109, 98, 101, 114, 40] := by decide +kernel
  have e2 : (")" : Str) = S [41] := by decide +kernel
  rw [e1, e2, S_cat, S_cat]
  rfl
theorem rL_small (t b : Int) : ∀ c ∈ rL t b, c < 128 := fun c hc => by
  unfold rL at hc
  rcases List.mem_append.mp hc with h | h
  · rcases List.mem_append.mp h with h | h
    · exact (by decide : ∀ c ∈ [78, 117, 109, 98, 101, 114, 40], c < 128) c h
    · exact fL_small _ _ c h
  · rw [List.mem_singleton.mp h]; decide
/-- what is shown of a Number -/
def seenD (t b : Int) : PyData := .list [.int t, .int b, .int (sgn t), .str (S (fL t b)), .str (S (rL t b)), .bool true]
def seenT (t b : Int) : Str := (seenD t b).shown
theorem sgn_sz (t : Int) : Sz (sgn t) := by
  unfold sgn
  split
  · decide +kernel
  · split <;> decide +kernel
theorem show_int {i : Int} (h : Sz i) : (PyData.int i).showable = true := by
  simp only [PyData.showable, decide_eq_true_eq]
  exact log2_small h
theorem short_int {i : Int} (h : Sz i) : (PyData.int i).leavesShort 320 = true := by
  simp only [PyData.leavesShort, decide_eq_true_eq]
  rw [PyData.shown_int, toS, S_len]
  have := i_len h
  omega
theorem short_S {a : List Nat} (h : ∀ c ∈ a, c < 128) : (PyData.str (S a)).leavesShort 320 = true := by
  simp only [PyData.leavesShort, List.all_eq_true, decide_eq_true_eq]
  intro c hc
  exact Nat.lt_trans (h c hc) (by decide)
theorem seen_ok {t b : Int} (st : Sz t) (sb : Sz b) : (seenD t b).showable = true ∧ (seenD t b).depth ≤ 60 ∧ (seenD t b).shown.length ≤ sizeLine := by
  have l := f_len st sb
  refine ⟨?_, ?_, ?_⟩
  · unfold seenD
    have a := show_int st
    have c := show_int sb
    have d := show_int (sgn_sz t)
    simp only [PyData.showable, PyData.showableAll] at a c d ⊢
    simp [a, c, d]
  · unfold seenD
    simp [PyData.depth, PyData.depthAll]
  · have h := PyData.shown_le_bulk 320 (by decide) (seenD t b) (by
      have a := short_int st
      have c := short_int sb
      have d := short_int (sgn_sz t)
      have e := short_S (fL_small t b)
      have f := short_S (rL_small t b)
      have g : (PyData.bool true).leavesShort 320 = true := rfl
      unfold seenD
      simp only [PyData.leavesShort, PyData.leavesShortAll] at a c d e f g ⊢
      simp [a, c, d, e, f])
    have hb : (seenD t b).bulk ≤ 2000 := by
      unfold seenD
      simp only [PyData.bulk, PyData.bulkAll]
      have e1 : (S (fL t b)).cps.size = (fL t b).length := by simp
      have e2 : (S (rL t b)).cps.size = (fL t b).length + 8 := by simp [rL]
      rw [e1, e2]
      omega
    rw [sizeLine_eq]
    have : 322 * (seenD t b).bulk ≤ 322 * 2000 := Nat.mul_le_mul (Nat.le_refl _) hb
    omega
theorem dp_seen {K : Fr} {H : Hp} {p : Addr} {t b z : Int} (hz : z = sgn t) (h : H p = some (.lst [.int t, .int b, .int z, .str (S (fL t b)), .str (S (rL t b)), .bl true])) : Dp K H (.ref p) (seenD t b) := by
  subst hz
  exact .lst (.inl (.inl h)) (.cons (.int _) (.cons (.int _) (.cons (.int _) (.cons (.str _) (.cons (.str _) (.cons (.bl _) .nil))))))
theorem dp_due {K : Fr} {H : Hp} {p : Addr} {t b z : Int} (hz : z = sgn t) (h : H p = some (.lst [.int t, .int b, .int z, .str (S (fL t b)), .str (("Number(" : Str) ++ S (fL t b) ++ (")" : Str)), .bl true])) : Dp K H (.ref p) (seenD t b) := by
  rw [repr_S] at h
  exact dp_seen hz h
end Hk
namespace Hk
open PySem PySem.Spec PyProof.Rows L2 NumM NumT SX
/-- a promise of a def over a pair (a tuple of two ints at p) -/
def spPair (g : Int → Int → V) : Sp := fun vs H Q _ => ∃ (p : Addr) (t b : Int), vs = [.ref p] ∧ H p = some (.tup [.int t, .int b]) ∧ 0 < b ∧ Sz t ∧ Sz b ∧ ∀ H', Same H H' → Q (g t b) H'
def spSeen (C : Addr) : Sp := fun vs H Q _ => ∃ (p : Addr) (t b : Int), vs = [.ref p] ∧ NumAt C H p t b ∧ Sz t ∧ Sz b ∧ ∀ H', Same H H' → Q (.str (seenT t b)) H'
theorem add_SS (a b : List Nat) : S a ++ S b = S (a ++ b) := S_cat a b
end Hk
namespace Hk
open PySem PySem.Spec PyProof.Rows L2 NumM NumT SX
/-- all but what stands at a is as it was -/
def Old (a : Addr) (H H' : Hp) : Prop := ∀ x o, H x = some o → x ≠ a → H' x = some o
theorem Old.refl (a : Addr) (H : Hp) : Old a H H := fun _ _ h _ => h
theorem Old.trans {a : Addr} {H H1 H2 : Hp} (s : Old a H H1) (t : Old a H1 H2) : Old a H H2 := fun x o h n => t x o (s x o h n) n
theorem Old.same {a : Addr} {H H1 : Hp} (s : Same H H1) : Old a H H1 := fun x o h _ => s x o h
theorem Old.put {a : Addr} {H : Hp} {o : HO} : Old a H (upd H a o) := fun x u h n => by
  rw [upd_ne n]
  exact h
theorem Old.new {a p : Addr} {H : Hp} {o : HO} (np : H p = none) : Old a H (upd H p o) := Old.same (same_upd np)
end Hk
namespace Hk
open PySem PySem.Spec PyProof.Rows L2 NumM NumT SX
theorem dec_int (x y : Int) : decide (V.int x = V.int y) = decide (x = y) := by
  by_cases h : x = y
  · subst h; simp
  · rw [decide_eq_false h, decide_eq_false fun z => h (V.int.inj z)]
theorem sz200 {z : Int} (h : z.natAbs < 2 ^ 200) : Sz z := Nat.lt_of_lt_of_le h (by decide +kernel)
theorem sz_mul {x y : Int} (h : x.natAbs < 2 ^ 200) (h2 : y.natAbs < 2 ^ 4) : Sz (x * y) := Nat.lt_of_lt_of_le (wide_lt h h2) (by decide +kernel)
theorem sz_succ {x : Int} (h : x.natAbs < 2 ^ 200) : Sz (x + 1) := by
  have e : (2 : Nat) ^ 200 + 1 ≤ 2 ^ 1000 := by decide +kernel
  have : (x + 1).natAbs ≤ x.natAbs + 1 := by omega
  exact Nat.lt_of_lt_of_le (show (x + 1).natAbs < 2 ^ 200 + 1 by omega) e
/-- the fraction one greater is another one -/
theorem far_ne {t b : Int} (hb : 0 < b) : (decide (t = lowT (t + 1) b) && decide (b = lowB (t + 1) b)) = false := by
  cases h : (decide (t = lowT (t + 1) b) && decide (b = lowB (t + 1) b)) with
  | false => rfl
  | true =>
    obtain ⟨h1, h2⟩ := Bool.and_eq_true_iff.mp h
    have e1 := of_decide_eq_true h1
    have e2 := of_decide_eq_true h2
    have l := low_eq (h := t + 1) (b := b) (by omega)
    rw [← e1, ← e2, Int.add_mul, Int.one_mul] at l
    omega
theorem num_ne {C : Addr} {H : Hp} {a p : Addr} {xs : List V} {t b : Int} (N : NumAt C H p t b) (h : H a = some (.lst xs)) : p ≠ a := by
  obtain ⟨dx, e⟩ := N.at_
  exact ne_of e h (by intro z; exact nomatch z)
theorem NumAt.old {C : Addr} {H H' : Hp} {a p : Addr} {t b : Int} (N : NumAt C H p t b) (s : Old a H H') (ne : p ≠ a) : NumAt C H' p t b := by
  obtain ⟨dx, h⟩ := N.at_
  exact ⟨⟨dx, s _ _ h ne⟩, N.pos, N.cop⟩
theorem dp_strs {K : Fr} {H : Hp} {p : Addr} {xs : List Str} (h : H p = some (.lst (xs.map V.str))) : Dp K H (.ref p) (.list (xs.map PyData.str)) := by
  refine .lst (.inl (.inl h)) ?_
  clear h
  induction xs with
  | nil => exact .nil
  | cons x r ih => exact .cons (.str x) ih
theorem dp_bls {K : Fr} {H : Hp} {p : Addr} {xs : List Bool} (h : H p = some (.lst (xs.map V.bl))) : Dp K H (.ref p) (.list (xs.map PyData.bool)) := by
  refine .lst (.inl (.inl h)) ?_
  clear h
  induction xs with
  | nil => exact .nil
  | cons x r ih => exact .cons (.bl x) ih
theorem depth_strs : ∀ xs : List Str, PyData.depthAll (xs.map PyData.str) ≤ 1
  | [] => by simp [PyData.depthAll]
  | x :: r => by
    have := depth_strs r
    simp only [List.map_cons, PyData.depthAll, PyData.depth]
    omega
theorem depth_bls : ∀ xs : List Bool, PyData.depthAll (xs.map PyData.bool) ≤ 1
  | [] => by simp [PyData.depthAll]
  | x :: r => by
    have := depth_bls r
    simp only [List.map_cons, PyData.depthAll, PyData.depth]
    omega
theorem shaped_strs {xs : List Str} (h : ∀ x ∈ xs, Asc x) : SeqAt.shaped (.list (xs.map PyData.str)) = true := by
  unfold SeqAt.shaped
  rw [Bool.and_eq_true]
  refine ⟨?_, decide_eq_true ?_⟩
  · show PyData.canLayAll0 (xs.map PyData.str) = true
    rw [PyProof.Rows.canLayAll_strs', List.all_eq_true]
    exact fun x hx => (h x hx).ok
  · have := depth_strs xs
    simp only [PyData.depth]
    omega
theorem shaped_bls (xs : List Bool) : SeqAt.shaped (.list (xs.map PyData.bool)) = true := by
  unfold SeqAt.shaped
  rw [Bool.and_eq_true]
  refine ⟨?_, decide_eq_true ?_⟩
  · show PyData.canLayAll0 (xs.map PyData.bool) = true
    induction xs with
    | nil => rfl
    | cons x r ih => simpa [PyData.canLayAll0, PyData.canLay0] using ih
  · have := depth_bls xs
    simp only [PyData.depth]
    omega
theorem seen_asc (t b : Int) : Asc (seenT t b) := by
  refine shown_asc _ ?_
  unfold seenD
  simp only [ascD, ascDs, and_true, true_and]
  exact ⟨S_asc (fL_small t b), S_asc (rL_small t b)⟩
theorem eqv_strs (xs : List Str) : PyData.eqv (.list (xs.map PyData.str)) (.list (xs.map PyData.str)) = true := by
  simp only [PyData.eqv]
  induction xs with
  | nil => rfl
  | cons x r ih => simp [PyData.eqvAll, PyData.eqv, ih]
theorem eqv_bls (xs : List Bool) : PyData.eqv (.list (xs.map PyData.bool)) (.list (xs.map PyData.bool)) = true := by
  simp only [PyData.eqv]
  induction xs with
  | nil => rfl
  | cons x r ih => simp [PyData.eqvAll, PyData.eqv, ih]
/-- two keywords, given in the other order -/
def kwTurn {α : Type} (us ws : List α) : List α := match ws with
  | [b, t] => us ++ [t, b]
  | _ => us
/-- Number(e, ..): a new Number in lowest terms -/
def tNum (C : Addr) (dvs : List V) (t : TA) : TE := fun σ H Q => t σ H fun vs H1 => ∃ h b : Int, vs ++ dvs = [.int h, .int b] ∧ b ≠ 0 ∧ Sz b ∧ NewNum C H1 Q (lowT h b) (lowB h b)
def tNumK (C : Addr) (tk : TA) : TE := fun σ H Q => tk σ H fun zs H1 => ∃ h b : Int, zs = [.int b, .int h] ∧ b ≠ 0 ∧ Sz b ∧ NewNum C H1 Q (lowT h b) (lowB h b)
section
variable {X : Cx} {k : Nat} {f C : Addr} {fd : FuncData} {ps : List Str} {dvs : List V} {ds : List Value} {x : Str} {p pos : Pos} {e : Expr} {es : List Expr} {kws : List Keyword} {t tk : TA} {g : List Value → List Value → List Value}
theorem pe_num (M : Mk X.K C f) (F : FnOk X.prog X.w X.K X.mg X.base CX0 k f fd ps (spInit C)) (hr : Room (k + 1) X.A) (hm : X.mg x = some (.ref C)) (hb : Binds X.K fd ps ds) (hd : Vals dvs ds) (ha : PA X (e :: es) t) (hg : Gl X x := by rfl)
    (hdb : (x == ("__debug__" : Str)) = false := by decide) (he : starEach (e :: es) X.env = (false, eval e X.env) :: starEach es X.env := by rfl) (hpl : (backTo pos (starEach es X.env)).any (·.1) = false := by rfl) :
    PE X (.Call (.Name x p) (e :: es) [] pos) (tNum C dvs t) := by
  refine ⟨fun pins s σ H Q I h => wpAny_Call_Name_kw (ld_glob I hg hm ?_ hdb)⟩
  refine PySem.W.callWith_K (h₀ := X.base) I.ok.mod.kin M.kp (thn (ha.run pos pins s σ H _ I h) fun us s1 hu => ?_) he hpl
  obtain ⟨vs, H1, J, r, a, b, ev, hb0, sb, q⟩ := hu
  refine ⟨J.kIn, run_make (E := E0) M F hr hb hd pass0 J r ?_⟩
  rw [ev]
  exact mk_num hb0 sb q
theorem pe_numK (M : Mk X.K C f) (F : FnOk X.prog X.w X.K X.mg X.base CX0 k f fd ps (spInit C)) (hr : Room (k + 1) X.A) (hm : X.mg x = some (.ref C)) (hb : KBn X.K fd ps 1 ["bottom", "top"] g (fun vs zs => kwTurn vs zs)) (hkw : PK X kws tk) (hg : Gl X x := by rfl)
    (hall : (backToKw pos (keywordEach kws X.env)).all (·.1.isSome) = true := by rfl) (hks : (backToKw pos (keywordEach kws X.env)).filterMap (·.1) = [("bottom" : Str), ("top" : Str)] := by rfl) (hdb : (x == ("__debug__" : Str)) = false := by decide)
    (hpl : ((backTo pos (starEach [] X.env)).any (·.1) || (backToKw pos (keywordEach kws X.env)).any (·.1.isNone)) = false := by rfl) : PE X (.Call (.Name x p) [] kws pos) (tNumK C tk) := by
  refine ⟨fun pins s σ H Q I h => wpAny_Call_Name_kw (ld_glob I hg hm ?_ hdb)⟩
  refine PySem.W.callWith_KW0 (h₀ := X.base) I.ok.mod.kin M.kp hall (thn (hkw.run pos pins s σ H _ I h) fun ws s2 hu => ?_) hpl
  obtain ⟨zs, H2, J, rz, a, b, ev, hb0, sb, q⟩ := hu
  refine ⟨J.kIn, ?_⟩
  rw [hks]
  refine run_makeK (E := E0) (us := []) (vs := []) M F hr hb pass0 J .nil rz rfl (by rw [ev]; rfl) ?_
  rw [ev]
  exact mk_num hb0 sb q
end
end Hk

/-! A method called by one keyword or more. -/
namespace Hk
open PySem PySem.Spec PyProof.Rows L2
def tMethK (C : Addr) (m : Str) (sp : Sp) (ta : TE) (tk : TA) : TE := fun σ H Q => ta σ H fun x H1 => ∃ a dx fs, x = .ref a ∧ H1 a = some (.ins C dx fs) ∧ fs.lookup m = none ∧ tk σ H1 fun vs H2 => sp (x :: vs) H2 Q E0
section
variable {X : Cx} {k : Nat} {C p f : Addr} {m : Str} {fd : FuncData} {p1 : Str} {ps : List Str} {sp : Sp} {o : Expr} {kws : List Keyword} {ta : TE} {tk : TA} {pos apos : Pos} {pl : Sem Bool}
theorem pe_methK (he : PE X o ta) (c : Cls X.K C) (hm : Meth X.K C m f) (F : FnOk X.prog X.w X.K X.mg X.base CX0 k f fd (p1 :: ps) sp) (hr : Room k X.A)
    (hbk : ∀ (s : Shared) (v : Value) (ws : List Value), X.K.In s.heap → ws.length = ps.length → BindsTo s fd ⟨[v], ps.zip ws⟩ ((p1 :: ps).zip (v :: ws))) (hk : PK X kws tk)
    (hall : (backToKw pos (keywordEach kws X.env)).all (·.1.isSome) = true := by rfl) (hks : (backToKw pos (keywordEach kws X.env)).filterMap (·.1) = ps := by rfl)
    (hpl : ((backTo pos (starEach [] X.env)).any (·.1) || (backToKw pos (keywordEach kws X.env)).any (·.1.isNone)) = false := by rfl)
    (ht : eval (.Call (.Attribute o m apos) [] kws pos) X.env = (do
      let ov ← eval o X.env
      standAt apos.atName
      let (f, first) ← holding [ov] (getMethod ov m pl)
      callWith pos f first (backTo pos (starEach [] X.env)) (backToKw pos (keywordEach kws X.env))) := by rfl) :
    PE X (.Call (.Attribute o m apos) [] kws pos) (tMethK C m sp ta tk) := by
  refine ⟨fun pins s σ H Q I h => PySem.W.methodCall_KW (pl := pl) (thn (he.run pins s σ H _ I h) fun u s1 hu => ?_) ht⟩
  obtain ⟨x, H1, I1, rx, a, dx, fs, ex, ea, l, q⟩ := hu
  subst ex
  obtain rfl : u = Value.ref a := rx
  refine getmeth_ok I1 ea c hm l ?_
  refine PySem.W.callWith_KW0 (first := [.ref a]) (h₀ := X.base) I.ok.mod.kin hm.kp hall (thn (hk.run pos pins s1 σ H1 _ I1 q) fun ws s2 hw => ?_) hpl
  obtain ⟨vs, H2, I2, rv, q2⟩ := hw
  have rv2 : Vals (.ref a :: vs) (.ref a :: ws) := .cons rfl rv
  have ln : ws.length = ps.length := by
    have h1 := rv2.length
    have h2 := F.len _ _ _ _ q2
    simp only [List.length_cons] at h1 h2
    omega
  refine ⟨I2.kIn, ?_⟩
  rw [hks]
  refine wpAny_call (codeAny_mono (F.run X.A X.stack s2 H2 ⟨[.ref a], ps.zip ws⟩ (.ref a :: ws) (.ref a :: vs) Q E0 hr I2.env0 (hbk s2 _ ws I2.kIn ln) rv2 q2) fun z s' hq => ?_)
  rcases z with e | fl
  · exact (show False from hq).elim
  · cases fl with
    | ret u => exact I2.after hq
    | _ => exact (show False from hq).elim
end
end Hk

/-! Exceptions of own classes: tests of the written part, defs that raise, what a suite asks of what it caught. -/
namespace Hk
open PySem PySem.Spec PyProof.Rows L2
/-! ### tests -/
def oexB (K : Fr) (C : Addr) : Bool := (match K.lookup C with
  | some ⟨.type "type", _, .cls cd, sl⟩ => (match cd.mro, sl.toList with
    | .ref C' :: bm, [_, _, _, _, some (.builtin n), _] => C' == C && (n == "ValueError.__new__" && (!cd.hasDel && (cd.hasDict && PySem.HandSPX.refsVE bm)))
    | _, _ => false)
  | _ => false) && (He.eqO (PySem.W.findIn K (.ref C) "__setattr__") (some (some (.builtin "object.__setattr__"))) && (decide (PySem.W.subIn K (.ref C) (.type "BaseException") = some true) && (decide (PySem.W.typeIn K (.ref C) = some (.type "type")) && PySem.W.keepIn K (.ref C))))
theorem oexB_ok {K : Fr} {C : Addr} (q : oexB K C = true) : OexC K C := by
  obtain ⟨q, c⟩ := He.ba q
  obtain ⟨c1, c⟩ := He.ba c
  obtain ⟨c2, c⟩ := He.ba c
  obtain ⟨c3, c4⟩ := He.ba c
  refine ⟨?_, He.eqO_ok c1, of_decide_eq_true c2, of_decide_eq_true c3, c4⟩
  split at q
  · rename_i dd cd sl ho
    split at q
    · rename_i C' bm k0 k1 k2 k3 n k5 hm hs
      simp only [Bool.and_eq_true, beq_iff_eq, Bool.not_eq_true'] at q
      obtain ⟨rfl, rfl, hdel, hdct, hv⟩ := q
      obtain ⟨nm, bs, mro, ns, qn, hd, sn, sub, ab, col, del⟩ := cd
      dsimp only at hm hdel hdct
      subst hm hdel hdct
      have hsl : sl = #[k0, k1, k2, k3, some (.builtin "ValueError.__new__"), k5] := by
        obtain ⟨l⟩ := sl
        simp only at hs
        rw [hs]
      subst hsl
      exact ⟨nm, qn, ns, bs, bm, sn, sub, ab, col, dd, k0, k1, k2, k3, k5, ho, hv⟩
    · cases q
  · cases q
def tOex (x : Str) : Tst := fun K => oexB K (He.ga K x)
def tXfc (x : Str) : Tst := fun K => xfB K (He.ga K x)
def tNof (x f : Str) : Tst := fun K => He.eqO (PySem.W.findIn K (.ref (He.ga K x)) f) (some none)
/-- its own __init__ stands at the address of the method -/
def tInit (x : Str) : Tst := fun K => tMeth x "__init__" K && decide (PySem.W.typeIn K (.ref (mAd x "__init__" K)) = some (.type "function"))
def excB (K : Fr) (D : Addr) : Bool := He.eqO (PySem.W.findIn K (.ref D) "__getattribute__") (some (some (.builtin "BaseException.__getattribute__"))) && (He.eqO (PySem.W.findIn K (.ref D) "__getattr__") (some none) && (decide (PySem.W.subIn K (.ref D) (.type "BaseException") = some true) && (PySem.W.hasDictIn K D &&
  (He.eqO (PySem.W.findIn K (.ref D) "__class__") (some (some (.builtin "object.__class__"))) && (He.eqO (PySem.W.specialIn K (.builtin "object.__class__") "__get__") (some (some (.builtin "getset_descriptor.__get__"))) && (decide (PySem.W.takesIn K (.builtin "object.__class__") = some true) && decide (PySem.W.mroIn K D (.type "object") = some true)))))))
theorem excB_ok {K : Fr} {D : Addr} (c : excB K D = true) : ExcC K D := by
  obtain ⟨c1, c⟩ := He.ba c
  obtain ⟨c2, c⟩ := He.ba c
  obtain ⟨c3, c⟩ := He.ba c
  obtain ⟨c4, c⟩ := He.ba c
  obtain ⟨c5, c⟩ := He.ba c
  obtain ⟨c6, c⟩ := He.ba c
  obtain ⟨c7, c8⟩ := He.ba c
  exact ⟨He.eqO_ok c1, He.eqO_ok c2, of_decide_eq_true c3, c4, He.eqO_ok c5, He.eqO_ok c6, of_decide_eq_true c7, of_decide_eq_true c8⟩
def tExc (x : Str) : Tst := fun K => excB K (He.ga K x)
/-- except: an error of the class x against the class y -/
def tExm (x y : Str) (b : Bool) : Tst := fun K => decide (PySem.W.exmOne K (.ref (He.ga K x)) (.ref (He.ga K y)) = some b)
/-! ### what a suite asks -/
def tXfX (K : PySem.W.Frag) (a : Addr) (cls : Value) (d : Option Addr) (f : Str) (te : TE) : TE := fun σ H Q => te σ H fun x H1 => x = .ref a ∧ ∃ (C dd : Addr) (fs : List (Str × V)) (v : V), cls = .ref C ∧ XfC K C ∧ PySem.W.findIn K (.ref C) f = some none ∧ d = some dd ∧ H1 dd = some (.xd fs) ∧ fs.lookup f = some v ∧ Q v H1
theorem pe_xfX {X : Cx} {a : Addr} {oe : Obj} {cls : Value} {d : Option Addr} {pn : List (Addr × Obj)} {e : Expr} {te : TE} {pos : Pos} {n : Str} (hz : Zc cls d oe) (hf : ∃ vs, oe.data = .fields vs) (he : PE (X.suite a ((a, oe) :: pn)) e te)
    (hb : attributeBase e n X.env (eval e X.env) = eval e X.env := by rfl) : PE (X.suite a ((a, oe) :: pn)) (.Attribute e n pos) (tXfX X.K a cls d n te) := by
  refine ⟨fun pins s σ H Q I h => ?_⟩
  refine attr_of hb (thn (he.run pins s σ H _ I h) fun u s1 hh => ?_)
  obtain ⟨x, H1, I1, rx, ex, C, dd, fs, v, ec, T, hno, ed, ea, l, q⟩ := hh
  subst ex
  obtain rfl : u = Value.ref a := rx
  subst ec
  subst ed
  obtain ⟨ha, _⟩ := I1.pin (a, oe) (List.mem_append_left _ List.mem_cons_self)
  obtain ⟨vs, hd⟩ := hf
  obtain ⟨mz, ns, rel⟩ : ObjOk X.prog X.w H1 s1.heap dd (.xd fs) := I1.hok dd _ ea
  obtain ⟨od, ho, hl⟩ := lookIn_ns ns
  have rn := rel n
  rw [l] at rn
  obtain ⟨val, ev, rv⟩ := RelO.some_of rn
  have J : PySem.W.InstAt s1.heap a oe C (some od) := ⟨ha, hz.1, by unfold PySem.W.notCls; rw [hd] <;> rfl, by rw [hz.2]; exact ho⟩
  have own := PySem.W.findObj_own T.hdC hno rfl ((hl n).trans (congrArg some ev))
  exact HandSPX.exc_get I1.kIn J T.ga T.gg T.exC own (handed_of rv) ⟨v, H1, I1.tok _, rv, q⟩
/-- isinstance(e, c), e what the suite holds, of the class cls, its dict d -/
def rIsX (K : PySem.W.Frag) (a : Addr) (cls : Value) (d : Option Addr) : List V → Hp → VK → Prop := fun xs H Q => ∃ (D : Addr) (c : V) (cv : Value) (b : Bool), cls = .ref D ∧ ExcC K D ∧ (d = none ∨ ∃ dd fs, d = some dd ∧ H dd = some (.xd fs)) ∧ xs = [.ref a, c] ∧ (∀ u, RelV c u → u = cv) ∧ PySem.W.kitOne K (.ref D) cv = some b ∧ Q (.bl b) H
theorem call_isX {X : Cx} {a : Addr} {cls : Value} {d : Option Addr} {oe : Obj} {pn : List (Addr × Obj)} (hz : Zc cls d oe) (hf : ∃ vs, oe.data = .fields vs) : CallR (X.suite a ((a, oe) :: pn)) (.builtin "isinstance") (rIsX X.K a cls d) := by
  intro pins s σ H xs us Q I r h
  obtain ⟨D, c, cv, b, ec, C, hd, rfl, hcv, e, q⟩ := h
  subst ec
  cases r with
  | cons rx rr =>
    cases rr with
    | cons rt rr =>
      cases rr
      cases rx
      have ec := hcv _ rt
      subst ec
      obtain ⟨hget, _⟩ := I.pin (a, oe) (List.mem_append.mpr (.inl List.mem_cons_self))
      obtain ⟨vs, hv⟩ := hf
      obtain ⟨cdD, hcD, _⟩ := PySem.W.any_some C.hd
      have hcl : (PySem.W.clsIn X.K D).isSome = true := by rw [hcD]; rfl
      obtain ⟨od, J⟩ : ∃ od, PySem.W.InstAt s.heap a oe D od := by
        rcases hd with rfl | ⟨dd, fs, rfl, ea⟩
        · exact ⟨none, hget, hz.1, by unfold PySem.W.notCls; rw [hv] <;> rfl, by rw [hz.2]; trivial⟩
        · have hx : ObjOk X.prog X.w H s.heap dd (.xd fs) := I.hok dd _ ea
          obtain ⟨mA, hns, hr⟩ := hx
          obtain ⟨od, ho, hl⟩ := lookIn_ns hns
          exact ⟨some od, hget, hz.1, by unfold PySem.W.notCls; rw [hv] <;> rfl, by rw [hz.2]; exact ho⟩
      exact PySem.W.kia_one (PySem.W.kitx_exc hcl C.hg C.hk C.hs C.ha C.hn C.ht C.hm) I.kIn J e (fun z => nomatch z) fun tk => ⟨.bl b, H, I.kept (t' := tk) fun _ _ z => z, rfl, q⟩
/-! ### defs that raise -/
section
variable {P : Program} {w : World} {K : Fr} {mg : Str → Option Value} {base : Heap}
/-- as Cal, for a def that may raise (its promise says what) -/
def CalX (P : Program) (w : World) (K : Fr) (mg : Str → Option Value) (base : Heap) (k : Nat) (x : Str) (ad : Addr) (ps : List Str) (sp : Sp) : Prop :=
  ∃ fd : FuncData, FnOk P w K mg base (L2.CX P w) k ad fd ps sp ∧ Binds K fd ps [] ∧ PySem.W.keepIn K (.ref ad) = true ∧ mg x = some (.ref ad)
theorem pe_cx {X : Cx} {k : Nat} {x : Str} {ad : Addr} {ps : List Str} {sp : Sp} {W : WX} {e : Expr} {es : List Expr} {t : TA} {p pos : Pos} (c : CalX X.prog X.w X.K X.mg X.base k x ad ps sp) (tk : Takes X W) (hr : Room k X.A) (ha : PA X (e :: es) t) (hg : Gl X x := by rfl)
    (hdb : (x == ("__debug__" : Str)) = false := by decide) (he : starEach (e :: es) X.env = (false, eval e X.env) :: starEach es X.env := by rfl) (hpl : (backTo pos (starEach es X.env)).any (·.1) = false := by rfl) :
    PE X (.Call (.Name x p) (e :: es) [] pos) (tCallS sp (WE W) t) := by
  obtain ⟨fd, F, b, kp, m⟩ := c
  exact pe_callS F hr hg m kp b (fun σ => passAt tk σ) ha hdb he hpl
abbrev BodyX (P : Program) (w : World) (K : Fr) (mg : Str → Option Value) (base : Heap) (k : Nat) (d : Dx) (N ps : List Str) (sp : Sp) : Prop :=
  ∀ (cdv : Value) (A : Around) (outer : List Env) (s : Shared) (H : Hp) (vs : List V) (Q : VK) (E : XK), Room k (A.deeper (envOfC d.ql (defScope d.st) s.heap.objs.size (d.ad K) cdv)) → sp vs H Q E →
      ∃ t, PSs (cxOf (L2.CX P w) P w K mg base N d.ql (defScope d.st) (d.ad K) cdv A outer s H E) (defBody d.st) t ∧ t { nx := fun _ H' => Q .non H', rt := Q } (start N vs) H
theorem okx_of {k : Nat} {d : Dx} {N ps : List Str} {sp : Sp} {fd : FuncData} (D : DAt K d fd) (S : FnScope N ps (defScope d.st)) (len : ∀ vs H Q E, sp vs H Q E → vs.length = ps.length) (hb : BodyX P w K mg base k d N ps sp) :
    FnOk P w K mg base (L2.CX P w) (k + 1) (d.ad K) fd ps sp := FunD.ok D S len hb
end
end Hk

/-! Exceptions as values: made by a def of their own or without one, positionally or by keywords; their fields; isinstance of them. -/
namespace Hk
open PySem PySem.Spec PyProof.Rows L2
abbrev tlV : List Value := [.type "ValueError", .type "Exception", .type "BaseException", .type "object"]
abbrev tlL : List Value := [.type "LookupError", .type "Exception", .type "BaseException", .type "object"]
abbrev tlR : List Value := [.type "RuntimeError", .type "Exception", .type "BaseException", .type "object"]
abbrev tlA : List Value := [.type "ArithmeticError", .type "Exception", .type "BaseException", .type "object"]
/-- one of four built-in bases -/
structure Bas (B newId initId : String) (bm : List Value) : Prop where
  f : ExcBaseFacts B newId initId bm
  s : StoreFacts B bm "object.__setattr__" "object"
theorem basV : Bas "ValueError" "ValueError.__new__" "ValueError.__init__" tlV := ⟨PySem.F.excBase_ValueError, PySem.F.store_ValueError⟩
theorem basL : Bas "LookupError" "LookupError.__new__" "LookupError.__init__" tlL := ⟨PySem.F.excBase_LookupError, PySem.F.store_LookupError⟩
theorem basR : Bas "RuntimeError" "RuntimeError.__new__" "RuntimeError.__init__" tlR := ⟨PySem.F.excBase_RuntimeError, PySem.F.store_RuntimeError⟩
theorem basA : Bas "ArithmeticError" "ArithmeticError.__new__" "ArithmeticError.__init__" tlA := ⟨PySem.F.excBase_ArithmeticError, PySem.F.store_ArithmeticError⟩
/-- what the written part says of an own exception class -/
structure VeC (K : Fr) (C : Addr) : Prop where
  b : ∃ B newId initId bm, Bas B newId initId bm ∧ PySem.W.excInitIn K C bm newId = true ∧ PySem.W.excOver K C bm = true
  sa : PySem.W.findIn K (.ref C) "__setattr__" = some (some (.builtin "object.__setattr__"))
  kC : PySem.W.keepIn K (.ref C) = true
  x : ExcC K C
def basB (K : Fr) (C : Addr) (bm : List Value) (n : String) : Bool := PySem.W.excInitIn K C bm n && PySem.W.excOver K C bm
def veB (K : Fr) (C : Addr) : Bool := (basB K C tlV "ValueError.__new__" || (basB K C tlL "LookupError.__new__" || (basB K C tlR "RuntimeError.__new__" || basB K C tlA "ArithmeticError.__new__"))) &&
  (He.eqO (PySem.W.findIn K (.ref C) "__setattr__") (some (some (.builtin "object.__setattr__"))) && (PySem.W.keepIn K (.ref C) && excB K C))
theorem veB_ok {K : Fr} {C : Addr} (c : veB K C = true) : VeC K C := by
  obtain ⟨c1, c⟩ := He.ba c
  obtain ⟨c2, c⟩ := He.ba c
  obtain ⟨c3, c4⟩ := He.ba c
  refine ⟨?_, He.eqO_ok c2, c3, excB_ok c4⟩
  rcases Bool.or_eq_true_iff.mp c1 with h | h
  · exact ⟨_, _, _, _, basV, He.ba h⟩
  · rcases Bool.or_eq_true_iff.mp h with h | h
    · exact ⟨_, _, _, _, basL, He.ba h⟩
    · rcases Bool.or_eq_true_iff.mp h with h | h
      · exact ⟨_, _, _, _, basR, He.ba h⟩
      · exact ⟨_, _, _, _, basA, He.ba h⟩
def tVe (x : Str) : Tst := fun K => veB K (He.ga K x)
end Hk
namespace Hk
open PySem PySem.Spec PyProof.Rows L2
/-! ### a class called, with keywords too -/
section
variable {prog : Program} {w : World} {A : Around} {E : Value → Shared → Prop} {R : Result → Shared → Prop} {h : Heap} {g : Array GenState} {d : Drawn} {t : Nat} {os : OsState}
variable {nm q : Str} {C N : Addr} {bs bm bmB : List Value} {hdct : Bool} {sn : List Str} {sub : List Value} {ab : Bool} {col : Option Bool} {dd : Option Addr} {k0 k1 k2 k3 k5 : Option Value} {B newId initId : String}
theorem chk_new (F : ExcBaseFacts B newId initId bmB) (hT : ∀ X : String, bm.contains (.type X) = bmB.contains (.type X)) {rest : List Value} {kw : List (Str × Value)} {Q : Unit → Shared → Prop} {M : Model}
    (hC : h.get? C = some (excClassObj nm q C N bs bm hdct sn sub ab col dd k0 k1 k2 k3 k5 newId)) (hq : Q () ⟨h, g, d, t, os⟩) : wpAny M A (checkBuiltinCall newId ⟨.ref C :: rest, kw⟩) Q E ⟨h, g, d, t, os⟩ := by
  have c1 : (Value.ref C :: bm).contains (.type B) = true := by rw [List.contains_cons, hT, F.hasB, Bool.or_true]
  have c2 := F.noStar
  cases kw with
  | nil => exact HandSPX.check_new_own F hT hC hq
  | cons k r =>
    simp only [checkBuiltinCall, F.newKind, F.newSplit, F.newRow]
    repeat (first | (refine wpAny_loadPart_at hC ?_) | (refine wpAny_isSubtype_exc hC ?_; rw [c1]) | (refine wpAny_staticBase_exc hC ?_) | (refine wpAny_madeBy_exc hC ?_) | (simp only [bne_self_eq_false, Bool.false_eq_true, if_false]) | wp_step)
    exact hq
end
end Hk

namespace Hk
open PySem PySem.Spec PyProof.Rows L2
section
variable {prog : Program} {w : World} {A : Around} {E : Value → Shared → Prop} {R : Result → Shared → Prop} {h : Heap} {g : Array GenState} {d : Drawn} {t : Nat} {os : OsState}
variable {nm q : Str} {C N : Addr} {bs bm bmB : List Value} {hdct : Bool} {sn : List Str} {sub : List Value} {ab : Bool} {col : Option Bool} {dd : Option Addr} {k0 k1 k2 k3 k5 : Option Value} {B newId initId : String}
theorem new_kw (F : ExcBaseFacts B newId initId bmB) (hT : ∀ X : String, bm.contains (.type X) = bmB.contains (.type X)) {rest : List Value} {kw : List (Str × Value)}
    (hC : h.get? C = some (excClassObj nm q C N bs bm hdct sn sub ab col dd k0 k1 k2 k3 k5 newId))
    (hq : R (.ok (.ret (.ref (h.objs.size + 1)))) ⟨(h.push (PySem.W.kdv_tup rest)).push (HandSPX.excO C h.objs.size), g, d, t, os⟩) (hrest : rest.length ≤ sizeLine) :
    codeAny (model prog w) A (.builtin newId ⟨.ref C :: rest, kw⟩) R ⟨h, g, d, t, os⟩ := by
  have e1 := F.ends
  have e2 : (Value.ref C :: bm).contains (.type B) = true := by rw [List.contains_cons, hT, F.hasB, Bool.or_true]
  have e3 : (Value.ref C :: bm).contains (.type "AttributeError") = false := by rw [List.contains_cons, hT, F.noAttr]; rfl
  have e4 : (Value.ref C :: bm).contains (.type "NameError") = false := by rw [List.contains_cons, hT, F.noName]; rfl
  refine codeAny_builtinAt F.entry ?_
  unfold Builtin.«BaseException.__new__»
  refine PySem.wpAt_bind ?_
  show PySem.wpAt _ _ _ (stack >>= _) _ _ _
  refine PySem.wpAt_bind (PySem.wpAt_stack fun p below => PySem.wpAt_of_wpAny ?_)
  wp_walk
  refine PySem.wpAt_of_wpAny ?_
  rw [F.owner]
  repeat (first | (with_reducible refine wpAny_madeHere_exc F.canon hC ?_) | (with_reducible refine wpAny_loadPart_at hC ?_) | (with_reducible refine wpAny_isSubtype_exc hC ?_; first | rw [e2] | rw [e3] | rw [e4]) | wp_step)
  show R _ _
  rw [Heap.size_push]
  exact hq
theorem type_kw (F : ExcBaseFacts B newId initId bmB) (hT : ∀ X : String, bm.contains (.type X) = bmB.contains (.type X)) {rest : List Value} {kw : List (Str × Value)} {fI : Addr} {Q : Fin → Shared → Prop}
    (hC : h.get? C = some (excClassObj nm q C N bs bm hdct sn sub ab col dd k0 k1 k2 k3 k5 newId))
    (hi : PySem.W.Looks (model prog w) h (typeLookup (.ref C) "__init__") (some (.ref fI))) (hb : ∀ self, PySem.W.Looks (model prog w) h (bindSpecial (.ref fI) self) (.ref fI, [self])) (hrest : rest.length ≤ sizeLine)
    (hq : codeAny (model prog w) A (.call (.ref fI) ⟨.ref (h.objs.size + 1) :: rest, kw⟩)
      (fun r s' => match r with | .ok (.ret v) => v = .none ∧ Q (.done (.ret (.ref (h.objs.size + 1)))) s' | .ok _ => False | .error e => E e s')
      ⟨(h.push (PySem.W.kdv_tup rest)).push (HandSPX.excO C h.objs.size), g, d, t, os⟩) :
    wpAny (model prog w) A (Builtin.«type.__call__» ⟨.ref C :: rest, kw⟩) Q E ⟨h, g, d, t, os⟩ := by
  repeat (first | (with_reducible refine wpAny_loadPart_at hC ?_) | (with_reducible refine wpAny_madeBy_exc hC ?_) | wp_step)
  refine codeAny_call_builtin_code (Code.quiet_builtin _ F.quiet) (chk_new F hT hC ?_)
  refine new_kw F hT hC ?_ hrest
  show wpAny _ _ _ _ _ _
  have kk : ∀ b o, h.get? b = some o → ((h.push (PySem.W.kdv_tup rest)).push (HandSPX.excO C h.objs.size)).get? b = some o := fun b o e => Heap.get?_push_of_some _ (Heap.get?_push_of_some _ e)
  have hC2 := kk _ _ hC
  have hg2 : ((h.push (PySem.W.kdv_tup rest)).push (HandSPX.excO C h.objs.size)).get? (h.objs.size + 1) = some (HandSPX.excO C h.objs.size) := by heap_get
  have hcc : (Value.ref C :: bm).contains (.ref C) = true := by simp
  have i1 := hi.keeps kk
  have b1 := (hb (.ref (h.objs.size + 1))).keeps kk
  unfold isInstance
  repeat (first | (with_reducible refine wpAny_loadPart_at hg2 ?_) | (with_reducible refine wpAny_isSubtype_exc hC2 ?_; rw [hcc]) | wp_step)
  show wpAny _ _ (typeLookup (.ref C) _) _ _ _
  refine i1.at ?_
  refine wpAny_holding (wpAny_bind (b1.at ?_))
  refine wpAny_bind (wpAny_call (codeAny_mono hq fun r s' z => ?_))
  rcases r with e | (v | _ | _ | _) <;> first | exact z | exact z.elim | skip
  obtain ⟨rfl, z⟩ := z
  first
    | exact wpAny_pure (wpAny_pure z)
    | (wp_walk; exact z)
theorem chk_tc {M : Model} {rest : List Value} {kw : List (Str × Value)} {Q : Unit → Shared → Prop} (hC : h.get? C = some (excClassObj nm q C N bs bm hdct sn sub ab col dd k0 k1 k2 k3 k5 newId))
    (hq : Q () ⟨h, g, d, t, os⟩) : wpAny M A (checkBuiltinCall "type.__call__" ⟨.ref C :: rest, kw⟩) Q E ⟨h, g, d, t, os⟩ := by
  cases kw with
  | nil => exact wpAny_check_type_call_sub hC hq
  | cons k r =>
    have f3 := tc_sub
    have hT : (⟨h, g, d, t, os⟩ : Shared).TypeIs (.ref C) "type" := ⟨_, hC, rfl⟩
    simp only [checkBuiltinCall, tc_kind, tc_split]
    repeat (any_goals (first | assumption | (with_reducible refine wpAny_loadPart_at hC ?_) | (with_reducible refine wpAny_onRaise ?_) | (with_reducible refine wpAny_map ?_) | wp_step))
theorem call_kw (F : ExcBaseFacts B newId initId bmB) (hT : ∀ X : String, bm.contains (.type X) = bmB.contains (.type X)) {rest : List Value} {kw : List (Str × Value)} {fI : Addr}
    (hC : h.get? C = some (excClassObj nm q C N bs bm hdct sn sub ab col dd k0 k1 k2 k3 k5 newId))
    (hi : PySem.W.Looks (model prog w) h (typeLookup (.ref C) "__init__") (some (.ref fI))) (hb : ∀ self, PySem.W.Looks (model prog w) h (bindSpecial (.ref fI) self) (.ref fI, [self])) (hrest : rest.length ≤ sizeLine)
    (hq : codeAny (model prog w) (A.under (.builtin "type.__call__" ⟨.ref C :: rest, kw⟩)) (.call (.ref fI) ⟨.ref (h.objs.size + 1) :: rest, kw⟩) (PySem.W.InitBack (h.objs.size + 1) R)
      ⟨(h.push (PySem.W.kdv_tup rest)).push (HandSPX.excO C h.objs.size), g, d, t, os⟩) :
    codeAny (model prog w) A (.call (.ref C) ⟨rest, kw⟩) R ⟨h, g, d, t, os⟩ := by
  have f1 := tc_lookup
  have f2 := tc_bind (.ref C)
  have hTy : (⟨h, g, d, t, os⟩ : Shared).TypeIs (.ref C) "type" := ⟨_, hC, rfl⟩
  refine codeAny_of_tree ?_
  show wpAny _ _ (callAny (.ref C) _) _ _ _
  repeat (any_goals (first | assumption | (with_reducible refine wpAny_loadPart_at hC ?_) | wp_step))
  refine ⟨rfl, ?_⟩
  refine codeAny_call_builtin_at (Code.quiet_builtin _ (by decide +kernel)) entry_typeCall (chk_tc hC (type_kw F hT hC hi hb hrest ?_))
  refine codeAny_mono hq fun r s' z => ?_
  rcases r with e | (v | _ | _ | _) <;> exact z
end
end Hk

namespace Hk
open PySem PySem.Spec PyProof.Rows L2
/-! ### self.f = y in __init__ -/
section
open PySem.Builtin PySem.Builtin.ObjectAttr
variable {prog : Program} {w : World} {A : Around} {E : Value → Shared → Prop} {R : Result → Shared → Prop} {hp : Heap} {g : Array GenState} {d : Drawn} {t : Nat} {os : OsState} {K : Fr}
theorem osa_first {name : Str} {tk : Tok} {v : Value} {x C : Addr} {fv : Array Value} (T : VeC K C)
    (Y : K.In hp) (hx : hp.get? x = some { cls := .ref C, data := .fields fv }) (ha : PySem.W.findIn K (.ref C) name = some none)
    (hq : ∀ h' tk' dx, (∀ b o, b ≠ x → hp.get? b = some o → h'.get? b = some o) → hp.objs.size ≤ dx → dx ≠ x → h'.get? x = some { cls := .ref C, dict := some dx, data := .fields fv } →
      h'.Ns1 dx (fun y => if y = name then some v else none) → R (.ok (.ret .none)) ⟨h', g, d, tk', os⟩) :
    codeAny (model prog w) A (.call (.builtin "object.__setattr__") ⟨[.ref x, .str name tk, v], []⟩) R ⟨hp, g, d, t, os⟩ := by
  obtain ⟨B, newId, initId, bm, b, _, ov⟩ := T.b
  have I : PySem.W.InstAt hp x { cls := .ref C, data := .fields fv } C none := ⟨hx, rfl, rfl, trivial⟩
  have hxs : x ≠ hp.objs.size := Nat.ne_of_lt (Heap.lt_size hx)
  refine PySem.W.osa_openX (s := ⟨hp, g, d, t, os⟩) (r := none) b.s Y I ov (by unfold PySem.W.takerIn; rw [ha]; rfl) fun bb => ?_
  show wpAny _ _ (storeInOwnDict (.ref x) (.ref C) (.str name tk) name v bb) _ _ _
  obtain ⟨cd, hcd, hh⟩ := PySem.W.any_some T.x.hd
  have hcls : PySem.W.Looks (model prog w) hp (classData C) cd := PySem.W.looks_clsIn Y hcd
  obtain ⟨nm, bs, mro, ns, qn, hd, sn, sb, ab, col, del⟩ := cd
  dsimp only at hh
  subst hh
  unfold storeInOwnDict ownDictForStores
  repeat (first | (with_reducible refine HandSPX.store_in_new ?_ ?_) | (with_reducible refine wpAny_loadPart_at hx ?_) | (with_reducible refine hcls.at ?_) | wp_step)
  · exact ⟨_, #[], _, (Heap.get?_update_ne _ _ _ _ hxs.symm).trans (Heap.get?_push_at rfl rfl), rfl, fun e he => absurd he (by simp), fun _ => rfl⟩
  · intro h' tk' hn' hs
    have hx1 : (hp.push { cls := .type "dict", data := .dict #[] }).get? x = some { cls := .ref C, data := .fields fv } := Heap.get?_push_of_some _ hx
    refine hq h' tk' hp.objs.size (fun b o hb ho => ?_) (Nat.le_refl _) hxs.symm ?_ hn'
    · exact (hs.2 b (Nat.ne_of_lt (Heap.lt_size ho))).trans ((Heap.get?_update_ne _ _ _ _ hb).trans (Heap.get?_push_of_some _ ho))
    · exact (hs.2 x hxs).trans (Heap.get?_update_self _ hx1 rfl)
theorem osa_more {name : Str} {tk : Tok} {v : Value} {m0 : Str → Option Value} {ns : List Str} {x C dx : Addr} {fv : Array Value} (T : VeC K C)
    (Y : K.In hp) (hx : hp.get? x = some { cls := .ref C, dict := some dx, data := .fields fv }) (hns : hp.Ns1 dx m0) (hw : Within m0 ns) (hz : ns.length ≤ 1000) (ha : PySem.W.findIn K (.ref C) name = some none)
    (hq : ∀ h' tk', (∀ b o, b ≠ dx → hp.get? b = some o → h'.get? b = some o) → h'.Ns1 dx (fun y => if y = name then some v else m0 y) → R (.ok (.ret .none)) ⟨h', g, d, tk', os⟩) :
    codeAny (model prog w) A (.call (.builtin "object.__setattr__") ⟨[.ref x, .str name tk, v], []⟩) R ⟨hp, g, d, t, os⟩ := by
  obtain ⟨B, newId, initId, bm, b, _, ov⟩ := T.b
  obtain ⟨oD, esD, epD, hoD, hdD, _⟩ := hns.count hw
  have I : PySem.W.InstAt hp x { cls := .ref C, dict := some dx, data := .fields fv } C (some oD) := ⟨hx, rfl, rfl, hoD⟩
  refine PySem.W.osa_openX (s := ⟨hp, g, d, t, os⟩) (r := none) b.s Y I ov (by unfold PySem.W.takerIn; rw [ha]; rfl) fun bb => ?_
  show wpAny _ _ (storeInOwnDict (.ref x) (.ref C) (.str name tk) name v bb) _ _ _
  obtain ⟨cd, hcd, hh⟩ := PySem.W.any_some T.x.hd
  have hcls : PySem.W.Looks (model prog w) hp (classData C) cd := PySem.W.looks_clsIn Y hcd
  obtain ⟨nm, bs, mro, nn, qn, hd, sn, sb, ab, col, del⟩ := cd
  dsimp only at hh
  subst hh
  unfold storeInOwnDict ownDictForStores
  repeat (first | (with_reducible refine PySem.OEX.store_in_old hns hw hz ?_) | (with_reducible refine wpAny_loadPart_at hx ?_) | (with_reducible refine hcls.at ?_) | wp_step)
  intro h' tk' hn' hs
  exact hq h' tk' (fun b o hb ho => (hs.2 b hb).trans ho) hn'
end
section
variable {X : Cx} {pins : List (Addr × Obj)} {σ : L2.St} {H : Hp} {s : Shared} {a C dx : Addr} {f : Str} {y : V} {u : Value} {fs : List (Str × V)} {Q : Unit → Shared → Prop} {E : Value → Shared → Prop} {A : Around}
theorem vst_new (T : VeC X.K C) (I : Inv X pins σ H s) (e : H a = some (exo a C none)) (hno : PySem.W.findIn X.K (.ref C) f = some none) (ry : RelV y u)
    (h : ∀ dx s', H dx = none → dx ≠ a → Inv X pins σ (upd (upd H dx (exd dx [(f, y)])) a (exo a C (some dx))) s' → Q () s') : wpAny (model X.prog X.w) A (setAttr (.ref a) f u) Q E s := by
  obtain ⟨t1, ho⟩ := exo_at I.hok e
  obtain ⟨hp, g, d, t, os⟩ := s
  refine PySem.W.set_plain I.kIn (ox := { cls := .ref C, dict := none, data := .fields #[.ref t1, .none, .none, .none, .bool false, .none] }) (od := none) ⟨ho, rfl, rfl, trivial⟩ T.sa ?_
  refine osa_first T I.kIn ho hno (fun h' tk' dx k dn dne hx hn => ?_)
  have hnd : H dx = none := I.hok.fresh dn
  have nd : ∀ {b : Addr} {o : Obj}, hp.get? b = some o → b ≠ dx := fun {b o} q => Nat.ne_of_lt (Nat.lt_of_lt_of_le (Heap.lt_size q) dn)
  have na : ∀ {b : Addr}, H b = none → b ≠ a := fun {b} n z => by
    rw [z, e] at n
    exact nomatch n
  have U : Un X.fs [] H (upd (upd H dx (exd dx [(f, y)])) a (exo a C (some dx))) hp h' := by
    refine ⟨fun b o q n _ _ => k b o (na n) q, fun b o q n _ _ => ⟨o.slots, k b o (na n) q⟩, fun b o q n _ => ?_, fun b o q _ => ?_, fun b xs q => ?_, fun b o v q => ?_, fun b ps q => ⟨#[], ?_⟩⟩
    · rw [upd_ne (na n), upd_ne (nd q)]
      exact n
    · by_cases hb : b = a
      · exact ⟨_, by rw [hb]; exact hx⟩
      · exact ⟨o, k b o hb q⟩
    · rw [upd_ne (at_ne e q exo_tup), upd_ne (ne_of_none q hnd)]
      exact q
    · rw [upd_ne (at_ne e q exo_frz), upd_ne (ne_of_none q hnd)]
      exact q
    · rw [upd_ne (at_ne e q exo_tbl), upd_ne (ne_of_none q hnd), q]
      simp
  refine h dx _ hnd dne (I.un (t' := tk') U fun b o q => ?_)
  by_cases hb : b = a
  · subst hb
    rw [upd_same] at q
    cases q
    exact exo_ok hx
  · rw [upd_ne hb] at q
    by_cases hd : b = dx
    · subst hd
      rw [upd_same] at q
      cases q
      exact exd_ok hn (relO_put (fs := []) ry fun g => True.intro)
    · rw [upd_ne hd] at q
      refine (I.hok b o q).stay (fun c v hc z => k c v ?_ z) (fun c hc => ?_) fun c xs hc => ?_
      · rcases hc with hc | hc
        · rw [hc]
          exact hb
        · exact at_ne e hc exo_own
      · rw [upd_ne (at_ne e hc exo_own), upd_ne (ne_of_none hc hnd)]
        exact hc
      · rw [upd_ne (at_ne e hc exo_tup), upd_ne (ne_of_none hc hnd)]
        exact hc
theorem vst_old (T : VeC X.K C) (I : Inv X pins σ H s) (e : H a = some (exo a C (some dx))) (ed : H dx = some (exd dx fs)) (hl : fs.length ≤ 900) (hno : PySem.W.findIn X.K (.ref C) f = some none) (ry : RelV y u)
    (h : ∀ s', Inv X pins σ (upd H dx (exd dx ((f, y) :: fs))) s' → Q () s') : wpAny (model X.prog X.w) A (setAttr (.ref a) f u) Q E s := by
  obtain ⟨t1, ho⟩ := exo_at I.hok e
  obtain ⟨mA, hns, rel⟩ := exd_at I.hok ed
  have hw := within_of rel
  obtain ⟨hp, g, d, t, os⟩ := s
  obtain ⟨oD, _, _, hoD, _, _⟩ := hns.count hw
  refine PySem.W.set_plain I.kIn (ox := { cls := .ref C, dict := some dx, data := .fields #[.ref t1, .none, .none, .none, .bool false, .none] }) (od := some oD) ⟨ho, rfl, rfl, hoD⟩ T.sa ?_
  refine osa_more T I.kIn ho hns hw (by rw [List.length_map]; omega) hno (fun h' tk' k hn => ?_)
  have hd : ∃ o, h'.get? dx = some o := by
    obtain ⟨o, _, _, e', _⟩ := hn
    exact ⟨o, e'⟩
  exact h _ (I.write (t' := tk') (x := dx) (e := dx) (o := exd dx ((f, y) :: fs)) (by rw [ed]; exact True.intro) (.inl rfl) k hd (exd_ok hn (relO_put ry rel)))
end
/-- self.f = e -/
def tVst (K : Fr) (f : Str) (to te : TE) : TS := fun D σ H => te σ H fun y H1 => to σ H1 fun x H2 => ∃ a C : Addr, x = .ref a ∧ VeC K C ∧ PySem.W.findIn K (.ref C) f = some none ∧
  ((H2 a = some (exo a C none) ∧ ∀ dx, H2 dx = none → dx ≠ a → D.nx σ (upd (upd H2 dx (exd dx [(f, y)])) a (exo a C (some dx)))) ∨
    ∃ (dx : Addr) (fs : List (Str × V)), H2 a = some (exo a C (some dx)) ∧ H2 dx = some (exd dx fs) ∧ fs.length ≤ 900 ∧ D.nx σ (upd H2 dx (exd dx ((f, y) :: fs))))
section
variable {X : Cx} {o e : Expr} {to te : TE} {f : Str} {p' pos : Pos}
theorem ps_vst (ho : PE X o to) (he : PE X e te) (hs : swapsWith e (some (.Attribute o f p')) pos.line X.env = pure false := by rfl) : PS X (.Assign [.Attribute o f p'] e pos) (tVst X.K f to te) := by
  refine ⟨fun pins s σ H D I h => ?_⟩
  refine plainObj_wpAny_Assign_Attribute (thn (he.run pins s σ H _ I h) fun v s1 ⟨y, H1, I1, r1, q1⟩ => thn (ho.run pins s1 σ H1 _ I1 q1) fun u s2 ⟨x, H2, I2, r2, a, C, ex, T, hno, q⟩ => ?_) hs
  subst ex
  obtain rfl : u = Value.ref a := r2
  rcases q with ⟨ea, q⟩ | ⟨dx, fs, ea, ed, hl, q⟩
  · exact vst_new T I2 ea hno r1 fun dx s' n ne J => ⟨σ, _, J, q dx n ne⟩
  · exact vst_old T I2 ea ed hl hno r1 fun s' J => ⟨σ, _, J, q⟩
end
end Hk

namespace Hk
open PySem PySem.Spec PyProof.Rows L2
/-- an exception of the class C with these fields stands at a -/
def VeAt (H : Hp) (a C : Addr) (fs : List (Str × V)) : Prop := ∃ d, H a = some (exo a C (some d)) ∧ H d = some (exd d fs)
/-- one without fields -/
def VeBare (H : Hp) (a C : Addr) : Prop := H a = some (ExO (.ref C) a)
theorem VeAt.same {H H' : Hp} {a C : Addr} {fs : List (Str × V)} (v : VeAt H a C fs) (s : Same H H') : VeAt H' a C fs := by
  obtain ⟨d, h1, h2⟩ := v
  exact ⟨d, s _ _ h1, s _ _ h2⟩
section
variable {X : Cx} {k : Nat} {C fI : Addr} {fd : FuncData} {ps ks : List Str} {sp : Sp}
/-- the class called: a new object, then its __init__ -/
theorem run_ve {pins : List (Addr × Obj)} {σ : L2.St} {H : Hp} {s : Shared} {Q : VK} {us ws : List Value} {vl : Addr → List V} {al : Addr → List Value} (T : VeC X.K C) (iC : PySem.W.findIn X.K (.ref C) "__init__" = some (some (.ref fI))) (tI : PySem.W.typeIn X.K (.ref fI) = some (.type "function"))
    (F : FnOk X.prog X.w X.K X.mg X.base CX0 k fI fd ps sp) (hr : Room (k + 1) X.A) (I : Inv X pins σ H s) (hl : us.length ≤ sizeLine)
    (hb : ∀ (s' : Shared) (a : Addr), X.K.In s'.heap → BindsTo s' fd ⟨.ref a :: us, ks.zip ws⟩ (ps.zip (al a))) (hv : ∀ a, Vals (vl a) (al a))
    (h : ∀ a, H a = none → sp (vl a) (upd H a (exo a C none)) (fun v H2 => v = .non ∧ Q (.ref a) H2) E0) :
    wpAny (model X.prog X.w) X.A (call (.ref C) us (ks.zip ws)) (EP X pins σ Q) X.xe s := by
  obtain ⟨B, newId, initId, bmB, b, ei, _⟩ := T.b
  obtain ⟨nm, N, q, bs, bm, hdct, sn, sub, ab, col, dd, k0, k1, k2, k3, k5, hC, hT⟩ := PySem.W.excInit_of I.kIn ei
  obtain ⟨hp, g, dr, tk, os⟩ := s
  have hsz : hp.objs.size ≤ hp.objs.size + 1 := Nat.le_succ _
  have hn : H (hp.objs.size + 1) = none := I.hok.fresh hsz
  have hq := h (hp.objs.size + 1) hn
  have kk : ∀ b o, hp.get? b = some o → ((hp.push (PySem.W.kdv_tup us)).push (HandSPX.excO C hp.objs.size)).get? b = some o := fun b o e => Heap.get?_push_of_some _ (Heap.get?_push_of_some _ e)
  have hget : ((hp.push (PySem.W.kdv_tup us)).push (HandSPX.excO C hp.objs.size)).get? (hp.objs.size + 1) = some (HandSPX.excO C hp.objs.size) := by heap_get
  have I2 : Inv X pins σ (upd H (hp.objs.size + 1) (exo (hp.objs.size + 1) C none)) ⟨(hp.push (PySem.W.kdv_tup us)).push (HandSPX.excO C hp.objs.size), g, dr, tk, os⟩ :=
    I.laid (t' := tk) (a := hp.objs.size + 1) (o := exo (hp.objs.size + 1) C none) (h' := (hp.push (PySem.W.kdv_tup us)).push (HandSPX.excO C hp.objs.size)) kk hsz (exo_ok hget)
  refine wpAny_call (call_kw b.f hT hC (PySem.W.looks_findIn I.kIn iC) (fun self => PySem.W.bind_fn I.kIn self tI) hl
    (codeAny_mono (F.run _ X.stack _ _ ⟨Value.ref (hp.objs.size + 1) :: us, ks.zip ws⟩ (al (hp.objs.size + 1)) (vl (hp.objs.size + 1)) _ E0 (hr.make C us (ks.zip ws)) (I2.env0.make C us (ks.zip ws)) (hb _ _ I2.kIn) (hv _) hq) fun r s' hq' => ?_))
  cases r with
  | error er => exact (show False from hq').elim
  | ok fl =>
    cases fl with
    | ret u =>
      obtain ⟨v, H', I3, rv, ev, q3⟩ := I2.after hq'
      subst ev
      exact ⟨rv, V.ref (hp.objs.size + 1), H', I3, rfl, q3⟩
    | _ => exact (show False from hq').elim
/-- C(e, ..) -/
def tVe1 (C : Addr) (sp : Sp) (t : TA) : TE := fun σ H Q => t σ H fun vs H1 => vs.length ≤ 1000 ∧ ∀ a, H1 a = none → sp (.ref a :: vs) (upd H1 a (exo a C none)) (fun v H2 => v = .non ∧ Q (.ref a) H2) E0
theorem len_line {us : List Value} {vs : List V} (r : Vals vs us) (h : vs.length ≤ 1000) : us.length ≤ sizeLine := by
  rw [← r.length]
  exact Nat.le_trans h (by decide)
theorem pe_ve {x : Str} {e : Expr} {es : List Expr} {t : TA} {p pos : Pos} (T : VeC X.K C) (iC : PySem.W.findIn X.K (.ref C) "__init__" = some (some (.ref fI))) (tI : PySem.W.typeIn X.K (.ref fI) = some (.type "function"))
    (F : FnOk X.prog X.w X.K X.mg X.base CX0 k fI fd ps sp) (hr : Room (k + 1) X.A) (hm : X.mg x = some (.ref C)) (hb : Binds X.K fd ps []) (ha : PA X (e :: es) t) (hg : Gl X x := by rfl)
    (hdb : (x == ("__debug__" : Str)) = false := by decide) (he : starEach (e :: es) X.env = (false, eval e X.env) :: starEach es X.env := by rfl) (hpl : (backTo pos (starEach es X.env)).any (·.1) = false := by rfl) :
    PE X (.Call (.Name x p) (e :: es) [] pos) (tVe1 C sp t) := by
  refine ⟨fun pins s σ H Q I h => wpAny_Call_Name_kw (ld_glob I hg hm ?_ hdb)⟩
  refine PySem.W.callWith_K (h₀ := X.base) I.ok.mod.kin T.kC (thn (ha.run pos pins s σ H _ I h) fun us s1 hu => ?_) he hpl
  obtain ⟨vs, H1, J, r, hl, q⟩ := hu
  have fr : ∃ a, H1 a = none := ⟨_, J.hok.fresh (Nat.le_refl _)⟩
  obtain ⟨a0, n0⟩ := fr
  have ln : us.length + 1 = ps.length := by
    have e1 := F.len _ _ _ _ (q a0 n0)
    rw [List.length_cons, r.length] at e1
    exact e1
  refine ⟨J.kIn, run_ve (ks := []) (ws := []) (vl := fun a => .ref a :: vs) (al := fun a => .ref a :: us) T iC tI F hr J (len_line r hl) (fun s' a Y => ?_) (fun a => .cons rfl r) q⟩
  have := hb s' (.ref a :: us) Y (by rw [List.append_nil, List.length_cons]; exact ln)
  rwa [List.append_nil] at this
/-- C(k = e, ..): how the keywords come to the parameters -/
def tVeK (C : Addr) (sp : Sp) (gV : List V → List V) (tk : TA) : TE := fun σ H Q => tk σ H fun zs H1 => ∀ a, H1 a = none → sp (.ref a :: gV zs) (upd H1 a (exo a C none)) (fun v H2 => v = .non ∧ Q (.ref a) H2) E0
theorem pe_veK {x : Str} {kws : List Keyword} {tk : TA} {p pos : Pos} {g : List Value → List Value} {gV : List V → List V} (T : VeC X.K C) (iC : PySem.W.findIn X.K (.ref C) "__init__" = some (some (.ref fI))) (tI : PySem.W.typeIn X.K (.ref fI) = some (.type "function"))
    (F : FnOk X.prog X.w X.K X.mg X.base CX0 k fI fd ps sp) (hr : Room (k + 1) X.A) (hm : X.mg x = some (.ref C)) (hb : ∀ (s' : Shared) (a : Addr) (ws : List Value), X.K.In s'.heap → ws.length = ks.length → BindsTo s' fd ⟨[.ref a], ks.zip ws⟩ (ps.zip (.ref a :: g ws)))
    (hgv : ∀ {zs : List V} {ws : List Value}, Vals zs ws → Vals (gV zs) (g ws)) (hlk : ∀ (σ : L2.St) (H : Hp) (Q : List V → Hp → Prop), tk σ H Q → tk σ H fun zs H1 => zs.length = ks.length ∧ Q zs H1) (hk : PK X kws tk) (hg : Gl X x := by rfl)
    (hall : (backToKw pos (keywordEach kws X.env)).all (·.1.isSome) = true := by rfl) (hks : (backToKw pos (keywordEach kws X.env)).filterMap (·.1) = ks := by rfl) (hdb : (x == ("__debug__" : Str)) = false := by decide)
    (hpl : ((backTo pos (starEach [] X.env)).any (·.1) || (backToKw pos (keywordEach kws X.env)).any (·.1.isNone)) = false := by rfl) : PE X (.Call (.Name x p) [] kws pos) (tVeK C sp gV tk) := by
  refine ⟨fun pins s σ H Q I h => wpAny_Call_Name_kw (ld_glob I hg hm ?_ hdb)⟩
  refine PySem.W.callWith_KW0 (h₀ := X.base) I.ok.mod.kin T.kC hall (thn (hk.run pos pins s σ H _ I (hlk _ _ _ h)) fun ws s2 hu => ?_) hpl
  obtain ⟨zs, H2, J, rz, ln, q⟩ := hu
  refine ⟨J.kIn, ?_⟩
  rw [hks]
  exact run_ve (us := []) (vl := fun a => .ref a :: gV zs) (al := fun a => .ref a :: g ws) T iC tI F hr J (Nat.zero_le _) (fun s' a Y => hb s' a ws Y (rz.length.symm.trans ln)) (fun a => .cons rfl (hgv rz)) q
/-- C() of a class without an __init__ of its own -/
theorem pe_ve0 {bmB : List Value} {B newId initId : String} {x : Str} {p pos : Pos} (F : ExcBaseFacts B newId initId bmB) (q : PySem.W.excIn X.K C bmB newId = true) (gC : X.mg x = some (.ref C)) (kC : PySem.W.keepIn X.K (.ref C) = true) (hg : Gl X x := by rfl)
    (hdb : (x == ("__debug__" : Str)) = false := by decide) : PE X (.Call (.Name x p) [] [] pos) (fun σ H Q => ∀ a, H a = none → Q (.ref a) (upd H a (ExO (.ref C) a))) := by
  refine ⟨fun pins s σ H Q I h => wpAny_Call_Name_kw (ld_glob I hg gC ?_ hdb)⟩
  refine PySem.W.callWith_K0 I.kIn kC ?_
  obtain ⟨bm, N, nm, qn, bs, hdct, sn, sub, ab, col, dd, k0, k1, k2, k3, k5, mN, hC, hN, hni, T⟩ := exc_obj I.kIn q
  refine wpAny_call_exc_subT F T hC hN hni (fun h' a hm => ?_) (Nat.zero_le _)
  have hn : H a = none := I.hok.gone hm.new
  obtain ⟨t, ht, _, _⟩ := hm.there
  exact ⟨.ref a, upd H a (ExO (.ref C) a), I.laidN hm.keeps hm.new hn (exO_ok ht ⟨rfl, rfl⟩ rfl rfl rfl (show 4 < 6 by decide)), rfl, h a hn⟩
/-- e.n -/
def tVeF (K : Fr) (n : Str) (te : TE) : TE := fun σ H Q => te σ H fun x H1 => ∃ (a C : Addr) (fs : List (Str × V)) (v : V), x = .ref a ∧ VeAt H1 a C fs ∧ ExcC K C ∧ PySem.W.findIn K (.ref C) n = some none ∧ fs.lookup n = some v ∧ Q v H1
theorem pe_veF {e : Expr} {te : TE} {pos : Pos} {n : Str} (he : PE X e te) (hb : attributeBase e n X.env (eval e X.env) = eval e X.env := by rfl) : PE X (.Attribute e n pos) (tVeF X.K n te) := by
  refine ⟨fun pins s σ H Q I h => ?_⟩
  refine attr_of hb (thn (he.run pins s σ H _ I h) fun u s1 hh => ?_)
  obtain ⟨x, H1, I1, rx, a, C, fs, v, ex, ⟨d, ea, ed⟩, T, hno, l, q⟩ := hh
  subst ex
  obtain rfl : u = Value.ref a := rx
  obtain ⟨t1, ho⟩ := exo_at I1.hok ea
  obtain ⟨mz, ns, rel⟩ := exd_at I1.hok ed
  obtain ⟨od, hod, hl⟩ := lookIn_ns ns
  have rn := rel n
  rw [l] at rn
  obtain ⟨val, ev, rv⟩ := RelO.some_of rn
  have J : PySem.W.InstAt s1.heap a { cls := .ref C, dict := some d, data := .fields #[.ref t1, .none, .none, .none, .bool false, .none] } C (some od) := ⟨ho, rfl, rfl, hod⟩
  exact HandSPX.exc_get I1.kIn J T.hg T.hk T.hs (PySem.W.findObj_own T.hd hno rfl ((hl n).trans (congrArg some ev))) (handed_of rv) ⟨v, H1, I1.tok _, rv, q⟩
/-- isinstance(e, c) -/
def rIsV (K : Fr) : List V → Hp → VK → Prop := fun xs H Q => ∃ (a D : Addr) (c : V) (cv : Value) (b : Bool), xs = [.ref a, c] ∧ ((∃ fs, VeAt H a D fs) ∨ VeBare H a D) ∧ ExcC K D ∧ ClsV c cv ∧ PySem.W.kitOne K (.ref D) cv = some b ∧ Q (.bl b) H
theorem call_isV : CallR X (.builtin "isinstance") (rIsV X.K) := by
  intro pins s σ H xs us Q I r h
  obtain ⟨a, D, c, cv, b, rfl, hv, C, hcv, e, q⟩ := h
  obtain ⟨u1, u2, rfl, r1, r2⟩ := vals2 r
  have ec := hcv.eq r2
  subst ec
  cases (show u1 = Value.ref a from r1)
  obtain ⟨cdD, hcD, _⟩ := PySem.W.any_some C.hd
  have hcl : (PySem.W.clsIn X.K D).isSome = true := by rw [hcD]; rfl
  have fin : ∀ {ox : Obj} {od : Option Obj}, PySem.W.InstAt s.heap a ox D od → wpAny (model X.prog X.w) X.A (call (.builtin "isinstance") [.ref a, u2]) (EP X pins σ Q) X.xe s := fun {ox od} J =>
    PySem.W.kia_one (PySem.W.kitx_exc hcl C.hg C.hk C.hs C.ha C.hn C.ht C.hm) I.kIn J e (fun z => nomatch z) fun tk => ⟨.bl b, H, I.kept (t' := tk) fun _ _ z => z, rfl, q⟩
  rcases hv with ⟨fs, d, ea, ed⟩ | ea
  · obtain ⟨t1, ho⟩ := exo_at I.hok ea
    obtain ⟨mz, ns, rel⟩ := exd_at I.hok ed
    obtain ⟨od, hod, hl⟩ := lookIn_ns ns
    exact fin (ox := { cls := .ref D, dict := some d, data := .fields #[.ref t1, .none, .none, .none, .bool false, .none] }) (od := some od) ⟨ho, rfl, rfl, hod⟩
  · obtain ⟨⟨oe, vs, ho, hz, hd, _⟩, _, _⟩ := I.hok a _ ea
    refine fin (ox := oe) (od := none) ⟨ho, hz.1, ?_, by rw [hz.2]; trivial⟩
    unfold PySem.W.notCls
    rw [hd] <;> rfl
end
/-- an __init__ that stores its one argument -/
def spSet (C : Addr) (f : Str) : Sp := fun vs H Q _ => ∃ (a : Addr) (y : V), vs = [.ref a, y] ∧ H a = some (exo a C none) ∧ ∀ dx, H dx = none → dx ≠ a → Q .non (upd (upd H dx (exd dx [(f, y)])) a (exo a C (some dx)))
end Hk

namespace Hk
open PySem PySem.Spec PyProof.Rows L2
/-! ### of which classes an error is -/
def ownBs : List (Str × Nat) := [("InputError", 0), ("NetError", 1), ("StateError", 2), ("LimitError", 3)]
def pyBs : List (String × Nat) := [("ValueError", 0), ("LookupError", 1), ("RuntimeError", 2), ("ArithmeticError", 3)]
def kits (K : Fr) (C : Addr) (i : Nat) : Bool := (ownBs.all fun p => decide (PySem.W.kitOne K (.ref C) (.ref (He.ga K p.1)) = some (decide (p.2 = i)))) && (pyBs.all fun p => decide (PySem.W.kitOne K (.ref C) (.type p.1) = some (decide (p.2 = i))))
structure RowC (K : Fr) (D : Addr) (i : Nat) : Prop where
  x : ExcC K D
  o : ∀ p ∈ ownBs, PySem.W.kitOne K (.ref D) (.ref (He.ga K p.1)) = some (decide (p.2 = i))
  b : ∀ p ∈ pyBs, PySem.W.kitOne K (.ref D) (.type p.1) = some (decide (p.2 = i))
theorem kits_ok {K : Fr} {C : Addr} {i : Nat} (x : ExcC K C) (c : kits K C i = true) : RowC K C i := by
  obtain ⟨c1, c2⟩ := He.ba c
  exact ⟨x, fun p hp => of_decide_eq_true (List.all_eq_true.mp c1 p hp), fun p hp => of_decide_eq_true (List.all_eq_true.mp c2 p hp)⟩
/-- a class with fields over the base i: its facts; all its fields have no class attribute -/
def tEc (x : Str) (fs : List Str) (i : Nat) : Tst := fun K => tVe x K && (tInit x K && (kits K (He.ga K x) i && fs.all fun f => tNof x f K))
structure EcC (K : Fr) (C fI : Addr) (fs : List Str) (i : Nat) : Prop where
  v : VeC K C
  iC : PySem.W.findIn K (.ref C) "__init__" = some (some (.ref fI))
  tI : PySem.W.typeIn K (.ref fI) = some (.type "function")
  r : RowC K C i
  n : ∀ f ∈ fs, PySem.W.findIn K (.ref C) f = some none
theorem ec_ok {K : Fr} {x : Str} {fs : List Str} {i : Nat} (c : tEc x fs i K = true) : EcC K (He.ga K x) (mAd x "__init__" K) fs i := by
  obtain ⟨c1, c⟩ := He.ba c
  obtain ⟨c2, c⟩ := He.ba c
  obtain ⟨c3, c4⟩ := He.ba c
  obtain ⟨c5, c6⟩ := He.ba c2
  have v := veB_ok c1
  exact ⟨v, (own_ok c5).at_, of_decide_eq_true c6, kits_ok v.x c3, fun f hf => He.eqO_ok (List.all_eq_true.mp c4 f hf)⟩
/-- a class without a def of its own -/
def tEb (x : Str) (bm : List Value) (n : String) (i : Nat) : Tst := fun K => PySem.W.excIn K (He.ga K x) bm n && (PySem.W.keepIn K (.ref (He.ga K x)) && (excB K (He.ga K x) && kits K (He.ga K x) i))
structure EbC (K : Fr) (C : Addr) (i : Nat) : Prop where
  e : ∃ B newId initId bm, ExcBaseFacts B newId initId bm ∧ PySem.W.excIn K C bm newId = true
  kC : PySem.W.keepIn K (.ref C) = true
  r : RowC K C i
theorem eb_ok {K : Fr} {x : Str} {B n ii : String} {bm : List Value} {i : Nat} (b : Bas B n ii bm) (c : tEb x bm n i K = true) : EbC K (He.ga K x) i := by
  obtain ⟨c1, c⟩ := He.ba c
  obtain ⟨c2, c⟩ := He.ba c
  obtain ⟨c3, c4⟩ := He.ba c
  exact ⟨⟨B, n, ii, bm, b.f, c1⟩, c2, kits_ok (excB_ok c3) c4⟩
theorem kwN {K : Fr} {x qual : Str} {params : Arguments} {body : List Stmt} {scope : Scope} {kws : List (Str × V)} {f : Addr} {fd : FuncData} {ps ks : List Str} {g : List Value → List Value} (F : FunD K x qual params body scope [] kws f fd)
    (h : ∀ (kV doc pm : Value) (an : Option Addr) (cdv ct v : Value) (ws : List Value), ws.length = ks.length → bindArgs (PySem.W.fnOf x qual params body scope .none kV doc pm an cdv ct) ⟨[v], ks.zip ws⟩ = pure (ps.zip (v :: g ws))) :
    ∀ (s' : Shared) (a : Addr) (ws : List Value), K.In s'.heap → ws.length = ks.length → BindsTo s' fd ⟨[.ref a], ks.zip ws⟩ (ps.zip (.ref a :: g ws)) := by
  obtain ⟨oc, od, dV, kV, doc, pm, an, cdv, ct, osl, rfl, lk, hcd, hD, hK⟩ := F.ex
  rcases hD with ⟨_, rfl⟩ | ⟨e, _⟩
  · exact fun s' a ws _ hl => .of_eq (h kV doc pm an cdv ct (.ref a) ws hl)
  · exact absurd rfl e
/-- a class by its name: called with one value, or with it by its name -/
structure ErC (P : Program) (w : World) (K : Fr) (mg : Str → Option Value) (base : Heap) (x f : Str) (i : Nat) : Prop where
  c : EcC K (He.ga K x) (mAd x "__init__" K) [f] i
  m : mg x = some (.ref (He.ga K x))
  fn : ∃ fd, FnOk P w K mg base CX0 1 (mAd x "__init__" K) fd [("self" : Str), f] (spSet (He.ga K x) f) ∧ Binds K fd [("self" : Str), f] [] ∧
    ∀ (s' : Shared) (a : Addr) (ws : List Value), K.In s'.heap → ws.length = 1 → BindsTo s' fd ⟨[.ref a], List.zip [f] ws⟩ (List.zip [("self" : Str), f] (.ref a :: ws))
def tE1 (C : Addr) (f : Str) (t : TA) : TE := fun σ H Q => t σ H fun vs H1 => ∃ y, vs = [y] ∧ ∀ H' a, Same H1 H' → H1 a = none → VeAt H' a C [(f, y)] → Q (.ref a) H'
theorem set_same {H : Hp} {a dx C : Addr} {f : Str} {y : V} (na : H a = none) (nd : upd H a (exo a C none) dx = none) (ne : dx ≠ a) :
    Same H (upd (upd (upd H a (exo a C none)) dx (exd dx [(f, y)])) a (exo a C (some dx))) ∧ VeAt (upd (upd (upd H a (exo a C none)) dx (exd dx [(f, y)])) a (exo a C (some dx))) a C [(f, y)] := by
  rw [upd_ne ne] at nd
  refine ⟨fun b o e => ?_, dx, upd_same, ?_⟩
  · rw [upd_ne (ne_of_none e na), upd_ne (ne_of_none e nd), upd_ne (ne_of_none e na)]
    exact e
  · rw [upd_ne ne, upd_same]
theorem sp_set {H : Hp} {C a : Addr} {f : Str} {y : V} {Q : VK} (na : H a = none) (q : ∀ H' a, Same H H' → H a = none → VeAt H' a C [(f, y)] → Q (.ref a) H') :
    spSet C f [.ref a, y] (upd H a (exo a C none)) (fun v H2 => v = .non ∧ Q (.ref a) H2) E0 := by
  refine ⟨a, y, rfl, upd_same, fun dx nd ne => ⟨rfl, ?_⟩⟩
  obtain ⟨s, v⟩ := set_same (f := f) (y := y) na nd ne
  exact q _ a s na v
section
variable {X : Cx} {x f : Str} {i : Nat}
theorem pe_e1 {e : Expr} {t : TA} {p pos : Pos} (c : ErC X.prog X.w X.K X.mg X.base x f i) (hr : Room 2 X.A) (ha : PA X [e] t) (hg : Gl X x := by rfl)
    (hdb : (x == ("__debug__" : Str)) = false := by decide) (he : starEach [e] X.env = (false, eval e X.env) :: starEach [] X.env := by rfl) (hpl : (backTo pos (starEach [] X.env)).any (·.1) = false := by rfl) :
    PE X (.Call (.Name x p) [e] [] pos) (tE1 (He.ga X.K x) f t) := by
  obtain ⟨fd, F, b, _⟩ := c.fn
  refine ⟨fun pins s σ H Q I h => wpAny_Call_Name_kw (ld_glob I hg c.m ?_ hdb)⟩
  refine PySem.W.callWith_K (h₀ := X.base) I.ok.mod.kin c.c.v.kC (thn (ha.run pos pins s σ H _ I h) fun us s1 hu => ?_) he hpl
  obtain ⟨vs, H1, J, r, y, rfl, q⟩ := hu
  obtain ⟨u, rfl, ru⟩ := r.one
  refine ⟨J.kIn, run_ve (ks := []) (ws := []) (vl := fun a => [.ref a, y]) (al := fun a => [.ref a, u]) c.c.v c.c.iC c.c.tI F hr J (by show 1 ≤ sizeLine; decide) (fun s' a Y => ?_) (fun a => .cons rfl (.cons ru .nil)) fun a na => sp_set na q⟩
  exact b s' [.ref a, u] Y rfl
def tEK (C : Addr) (f : Str) (tk : TA) : TE := fun σ H Q => tk σ H fun zs H1 => ∃ y, zs = [y] ∧ ∀ H' a, Same H1 H' → H1 a = none → VeAt H' a C [(f, y)] → Q (.ref a) H'
theorem pe_eK {kws : List Keyword} {tk : TA} {p pos : Pos} (c : ErC X.prog X.w X.K X.mg X.base x f i) (hr : Room 2 X.A) (hk : PK X kws tk) (hg : Gl X x := by rfl)
    (hall : (backToKw pos (keywordEach kws X.env)).all (·.1.isSome) = true := by rfl) (hks : (backToKw pos (keywordEach kws X.env)).filterMap (·.1) = [f] := by rfl) (hdb : (x == ("__debug__" : Str)) = false := by decide)
    (hpl : ((backTo pos (starEach [] X.env)).any (·.1) || (backToKw pos (keywordEach kws X.env)).any (·.1.isNone)) = false := by rfl) : PE X (.Call (.Name x p) [] kws pos) (tEK (He.ga X.K x) f tk) := by
  obtain ⟨fd, F, _, b⟩ := c.fn
  refine ⟨fun pins s σ H Q I h => wpAny_Call_Name_kw (ld_glob I hg c.m ?_ hdb)⟩
  refine PySem.W.callWith_KW0 (h₀ := X.base) I.ok.mod.kin c.c.v.kC hall (thn (hk.run pos pins s σ H _ I h) fun ws s2 hu => ?_) hpl
  obtain ⟨zs, H2, J, rz, y, rfl, q⟩ := hu
  obtain ⟨u, rfl, ru⟩ := rz.one
  refine ⟨J.kIn, ?_⟩
  rw [hks]
  exact run_ve (us := []) (ws := [u]) (vl := fun a => [.ref a, y]) (al := fun a => [.ref a, u]) c.c.v c.c.iC c.c.tI F hr J (Nat.zero_le _) (fun s' a Y => b s' a [u] Y rfl) (fun a => .cons rfl (.cons ru .nil)) fun a na => sp_set na q
/-- C() -/
theorem pe_e0 {p pos : Pos} (c : EbC X.K (He.ga X.K x) i) (hm : X.mg x = some (.ref (He.ga X.K x))) (hg : Gl X x := by rfl) (hdb : (x == ("__debug__" : Str)) = false := by decide) :
    PE X (.Call (.Name x p) [] [] pos) (fun σ H Q => ∀ a, H a = none → Q (.ref a) (upd H a (ExO (.ref (He.ga X.K x)) a))) := by
  obtain ⟨B, n, ii, bm, F, q⟩ := c.e
  exact pe_ve0 F q hm c.kC hg hdb
end
/-! ### an error with two fields -/
def spSet2 (C : Addr) (f g : Str) : Sp := fun vs H Q _ => ∃ (a : Addr) (y z : V), vs = [.ref a, y, z] ∧ H a = some (exo a C none) ∧ ∀ dx, H dx = none → dx ≠ a → Q .non (upd (upd (upd H dx (exd dx [(f, y)])) a (exo a C (some dx))) dx (exd dx [(g, z), (f, y)]))
structure Er2C (P : Program) (w : World) (K : Fr) (mg : Str → Option Value) (base : Heap) (x f g : Str) (i : Nat) : Prop where
  c : EcC K (He.ga K x) (mAd x "__init__" K) [f, g] i
  m : mg x = some (.ref (He.ga K x))
  fn : ∃ fd, FnOk P w K mg base CX0 1 (mAd x "__init__" K) fd [("self" : Str), f, g] (spSet2 (He.ga K x) f g) ∧ Binds K fd [("self" : Str), f, g] [] ∧
    ∀ (s' : Shared) (a : Addr) (ws : List Value), K.In s'.heap → ws.length = 2 → BindsTo s' fd ⟨[.ref a], List.zip [g, f] ws⟩ (List.zip [("self" : Str), f, g] (.ref a :: ws.reverse))
theorem set2_same {H : Hp} {a dx C : Addr} {f g : Str} {y z : V} (na : H a = none) (nd : upd H a (exo a C none) dx = none) (ne : dx ≠ a) {G : Hp}
    (e : G = upd (upd (upd (upd H a (exo a C none)) dx (exd dx [(f, y)])) a (exo a C (some dx))) dx (exd dx [(g, z), (f, y)])) : Same H G ∧ VeAt G a C [(g, z), (f, y)] := by
  subst e
  rw [upd_ne ne] at nd
  refine ⟨fun b o e => ?_, dx, ?_, upd_same⟩
  · rw [upd_ne (ne_of_none e nd), upd_ne (ne_of_none e na), upd_ne (ne_of_none e nd), upd_ne (ne_of_none e na)]
    exact e
  · rw [upd_ne (Ne.symm ne), upd_same]
theorem sp_set2 {H : Hp} {C a : Addr} {f g : Str} {y z : V} {Q : VK} (na : H a = none) (q : ∀ H' a, Same H H' → H a = none → VeAt H' a C [(g, z), (f, y)] → Q (.ref a) H') :
    spSet2 C f g [.ref a, y, z] (upd H a (exo a C none)) (fun v H2 => v = .non ∧ Q (.ref a) H2) E0 := by
  refine ⟨a, y, z, rfl, upd_same, fun dx nd ne => ⟨rfl, ?_⟩⟩
  obtain ⟨s, v⟩ := set2_same (f := f) (g := g) (y := y) (z := z) na nd ne rfl
  exact q _ a s na v
section
variable {X : Cx} {x f g : Str} {i : Nat}
def tE2 (C : Addr) (f g : Str) (t : TA) : TE := fun σ H Q => t σ H fun vs H1 => ∃ y z, vs = [y, z] ∧ ∀ H' a, Same H1 H' → H1 a = none → VeAt H' a C [(g, z), (f, y)] → Q (.ref a) H'
theorem pe_e2 {e e2 : Expr} {t : TA} {p pos : Pos} (c : Er2C X.prog X.w X.K X.mg X.base x f g i) (hr : Room 2 X.A) (ha : PA X [e, e2] t) (hg : Gl X x := by rfl)
    (hdb : (x == ("__debug__" : Str)) = false := by decide) (he : starEach [e, e2] X.env = (false, eval e X.env) :: starEach [e2] X.env := by rfl) (hpl : (backTo pos (starEach [e2] X.env)).any (·.1) = false := by rfl) :
    PE X (.Call (.Name x p) [e, e2] [] pos) (tE2 (He.ga X.K x) f g t) := by
  obtain ⟨fd, F, b, _⟩ := c.fn
  refine ⟨fun pins s σ H Q I h => wpAny_Call_Name_kw (ld_glob I hg c.m ?_ hdb)⟩
  refine PySem.W.callWith_K (h₀ := X.base) I.ok.mod.kin c.c.v.kC (thn (ha.run pos pins s σ H _ I h) fun us s1 hu => ?_) he hpl
  obtain ⟨vs, H1, J, r, y, z, rfl, q⟩ := hu
  obtain ⟨u, u2, rfl, ru, ru2⟩ := vals2 r
  refine ⟨J.kIn, run_ve (ks := []) (ws := []) (vl := fun a => [.ref a, y, z]) (al := fun a => [.ref a, u, u2]) c.c.v c.c.iC c.c.tI F hr J (by show 2 ≤ sizeLine; decide) (fun s' a Y => ?_) (fun a => .cons rfl (.cons ru (.cons ru2 .nil))) fun a na => sp_set2 na q⟩
  exact b s' [.ref a, u, u2] Y rfl
def tE2K (C : Addr) (f g : Str) (tk : TA) : TE := fun σ H Q => tk σ H fun zs H1 => ∃ y z, zs = [z, y] ∧ ∀ H' a, Same H1 H' → H1 a = none → VeAt H' a C [(g, z), (f, y)] → Q (.ref a) H'
theorem pe_e2K {kws : List Keyword} {tk : TA} {p pos : Pos} (c : Er2C X.prog X.w X.K X.mg X.base x f g i) (hr : Room 2 X.A) (hk : PK X kws tk) (hg : Gl X x := by rfl)
    (hall : (backToKw pos (keywordEach kws X.env)).all (·.1.isSome) = true := by rfl) (hks : (backToKw pos (keywordEach kws X.env)).filterMap (·.1) = [g, f] := by rfl) (hdb : (x == ("__debug__" : Str)) = false := by decide)
    (hpl : ((backTo pos (starEach [] X.env)).any (·.1) || (backToKw pos (keywordEach kws X.env)).any (·.1.isNone)) = false := by rfl) : PE X (.Call (.Name x p) [] kws pos) (tE2K (He.ga X.K x) f g tk) := by
  obtain ⟨fd, F, _, b⟩ := c.fn
  refine ⟨fun pins s σ H Q I h => wpAny_Call_Name_kw (ld_glob I hg c.m ?_ hdb)⟩
  refine PySem.W.callWith_KW0 (h₀ := X.base) I.ok.mod.kin c.c.v.kC hall (thn (hk.run pos pins s σ H _ I h) fun ws s2 hu => ?_) hpl
  obtain ⟨zs, H2, J, rz, y, z, rfl, q⟩ := hu
  obtain ⟨u, u2, rfl, ru, ru2⟩ := vals2 rz
  refine ⟨J.kIn, ?_⟩
  rw [hks]
  exact run_ve (us := []) (ws := [u, u2]) (vl := fun a => [.ref a, y, z]) (al := fun a => [.ref a, u2, u]) c.c.v c.c.iC c.c.tI F hr J (Nat.zero_le _) (fun s' a Y => b s' a [u, u2] Y rfl) (fun a => .cons rfl (.cons ru2 (.cons ru .nil))) fun a na => sp_set2 na q
end
end Hk

/-! Where an exception is handled: walks over lists and texts, comprehensions. -/
namespace Hk
open PySem PySem.Spec PyProof.Rows L2 HotX L2H
section
variable {prog : Program} {w : World} {A : Around} {E : Value → Shared → Prop} {s : Shared}
theorem list_end_hot {it l x1 : Addr} {i : Nat} {items} {Q : Option Value → Shared → Prop} (hot : HotAt A x1 s.heap) (ne : x1 ≠ it)
    (hit : s.heap.IsListIter it l i) (hl : s.heap.IsList l items) (hx : items[i]? = none)
    (hQ : ∀ h', (∀ b o, b ≠ it → s.heap.get? b = some o → h'.get? b = some o) → Q none { s with heap := h' }) : wpAny (model prog w) A (pyNext (.ref it)) Q E s := by
  obtain ⟨o, ho, hc, hd⟩ := id hit
  obtain ⟨ol, hol, _, nl, hdl⟩ := hl
  obtain ⟨hh, o1, vs1, h1, d1, c1⟩ := hot
  unfold pyNext
  refine wpAny_bind (wpAny_attempt (wpAny_callSpecial?_slot (name := Str.ofString "__next__") hit.typeIs slot_listiter_next
    (wpAny_call_entry slot_listiter_next hit.typeIs entry_listiter_next ?_ (args_listiter_next _))))
  show wpAny _ _ (field (.ref it) 0 >>= _) _ _ s
  refine wpAny_bind (wpAny_field ho hd (x := .ref l) rfl ?_)
  show wpAny _ _ (if (Value.ref l == Value.none) = true then _ else _) _ _ s
  rw [if_neg (show ¬ ((Value.ref l == Value.none) = true) from Bool.false_ne_true)]
  show wpAny _ _ (field (.ref it) 1 >>= _) _ _ s
  refine wpAny_bind (wpAny_field ho hd (x := .int i 0) rfl ?_)
  show wpAny _ _ (seqItems? (.ref l) >>= _) _ _ s
  refine wpAny_bind (wpAny_seqItems hol hdl ?_)
  simp only [Int.toNat_natCast, hx]
  refine wpAny_bind (wpAny_rule (wpAny_bind (wpAny_setField ho hd (by simp) ?_)))
  show wpAny _ _ (newExc (.type "StopIteration") [] >>= _) _ _ _
  refine wpAny_bind ?_
  simp only [newExc, newTuple]
  refine wpAny_bind (wpAny_newObj_type ?_ (by size_fits))
  refine wpAny_bind (m := firstArgMember _ _) (wpAny_of_eq (a := Value.none) (by first | rfl | (simp only [firstArgMember]; rfl)) ?_)
  refine wpAny_newObj_type ?_ (by size_fits)
  have g1 := fun {f : Obj → Obj} => (Heap.get?_update_other s.heap f (Ne.symm ne)).trans h1
  refine raiseNew_hot ⟨hh, o1, vs1, Heap.get?_push_of_some _ (Heap.get?_push_of_some _ g1), d1, c1⟩ (Nat.ne_of_lt (Heap.lt_size (Heap.get?_push_of_some _ g1))) (Heap.get?_push_size _ rfl) rfl (by first | (simp; done) | (simp; omega) | decide) ?_
  refine wpAny_bind (wpAny_isInstance (T := "StopIteration") (b := true) ⟨_, Heap.get?_update_self _ (Heap.get?_push_size _ rfl) rfl, rfl⟩ isSubtype_stop ?_)
  refine wpAny_pure (hQ _ fun b o hb e => ?_)
  have g2 := fun {f : Obj → Obj} => (Heap.get?_update_other s.heap f (Ne.symm hb)).trans e
  rw [Heap.get?_update_other _ _ (Nat.ne_of_gt (Heap.lt_size (Heap.get?_push_of_some _ g2)))]
  exact Heap.get?_push_of_some _ (Heap.get?_push_of_some _ g2)
theorem ascii_end_hot {it x1 : Addr} {x : Str} {t : Tok} {i : Nat} {Q : Option Value → Shared → Prop} (hot : HotAt A x1 s.heap) (ne : x1 ≠ it)
    (hit : s.heap.IsStrIter it "str_ascii_iterator" x t i) (hx : x.cps[i]? = none)
    (hQ : ∀ h', (∀ b o, b ≠ it → s.heap.get? b = some o → h'.get? b = some o) → Q none { s with heap := h' }) : wpAny (model prog w) A (pyNext (.ref it)) Q E s := by
  obtain ⟨o, ho, hc, hd⟩ := id hit
  obtain ⟨hh, o1, vs1, h1, d1, c1⟩ := hot
  unfold pyNext
  refine wpAny_bind (wpAny_attempt (wpAny_callSpecial?_slot (name := Str.ofString "__next__") hit.typeIs F.slot_str_ascii_iterator_next
    (wpAny_call_entry F.slot_str_ascii_iterator_next hit.typeIs F.entry_str_ascii_iterator_next ?_ (F.args_str_ascii_iterator_next_1 _))))
  show wpAny _ _ (field (.ref it) 0 >>= _) _ _ s
  refine wpAny_bind (wpAny_field ho hd (x := .str x t) rfl ?_)
  show wpAny _ _ (field (.ref it) 1 >>= _) _ _ s
  refine wpAny_bind (wpAny_field ho hd (x := .int i 0) rfl ?_)
  simp only [Int.toNat_natCast, hx]
  refine wpAny_bind (wpAny_rule (wpAny_bind (wpAny_setField ho hd (by simp) (wpAny_bind (wpAny_letGo ?_)))))
  show wpAny _ _ (newExc (.type "StopIteration") [] >>= _) _ _ _
  refine wpAny_bind ?_
  simp only [newExc, newTuple]
  refine wpAny_bind (wpAny_newObj_type ?_ (by size_fits))
  refine wpAny_bind (m := firstArgMember _ _) (wpAny_of_eq (a := Value.none) (by first | rfl | (simp only [firstArgMember]; rfl)) ?_)
  refine wpAny_newObj_type ?_ (by size_fits)
  have g1 := fun {f : Obj → Obj} => (Heap.get?_update_other s.heap f (Ne.symm ne)).trans h1
  refine raiseNew_hot ⟨hh, o1, vs1, Heap.get?_push_of_some _ (Heap.get?_push_of_some _ g1), d1, c1⟩ (Nat.ne_of_lt (Heap.lt_size (Heap.get?_push_of_some _ g1))) (Heap.get?_push_size _ rfl) rfl (by first | (simp; done) | (simp; omega) | decide) ?_
  refine wpAny_bind (wpAny_isInstance (T := "StopIteration") (b := true) ⟨_, Heap.get?_update_self _ (Heap.get?_push_size _ rfl) rfl, rfl⟩ isSubtype_stop ?_)
  refine wpAny_pure (hQ _ fun b o hb e => ?_)
  have g2 := fun {f : Obj → Obj} => (Heap.get?_update_other s.heap f (Ne.symm hb)).trans e
  rw [Heap.get?_update_other _ _ (Nat.ne_of_gt (Heap.lt_size (Heap.get?_push_of_some _ g2)))]
  exact Heap.get?_push_of_some _ (Heap.get?_push_of_some _ g2)
end
/-- a context that holds what is handled, and is apart from the iterator -/
theorem hot_at {X : Cx} {pins : List (Addr × Obj)} {σ : L2.St} {H : Hp} {s : Shared} {it : Addr} (c : HotC X) (I : Inv X pins σ H s) (f : FpOk X pins H it) : ∃ x1, HotAt X.A x1 s.heap ∧ x1 ≠ it := by
  obtain ⟨p, ⟨hh, v1, e1, c1⟩, hp⟩ := c
  exact ⟨p.1, ⟨hh, p.2, v1, (I.pin p (List.mem_append_left _ hp)).1, e1, c1⟩, f.2.2.2.2.2 p (List.mem_append_left _ hp)⟩
theorem turn_listH {P : Program} {w : World} {K : Fr} {tg : Expr} (a it : Addr) : TurnH P w K tg (Itl K a) [it] it (fun i h => h.IsListIter it a i) where
  mem := by simp
  obj := (turn_list (P := P) (w := w) (K := K) (tg := tg) a it).obj
  keep := (turn_list (P := P) (w := w) (K := K) (tg := tg) a it).keep
  item := by
    intro X hP hw hK hc i pins s σ H E I hf st hg
    subst hP hw hK
    obtain ⟨xs, x, hq, hx⟩ := hg
    obtain ⟨its, rv, p, hz⟩ := I.list hq
    obtain ⟨u, hu, ru⟩ := rv.get hx
    obtain ⟨f0, f1, f2, f3, f4, f5⟩ := hf it (by simp)
    refine wpAny_pyNext_list_item st p.isList (x := u) (by simpa using hu) fun h' st' sb => ?_
    have I1 : Inv X pins σ H { s with heap := h' } := I.turned (t' := s.toks) (fun b o hb e => (sb.2 b hb).trans e) f0 f1 f3 f4 f5
    obtain ⟨o, e, c, d⟩ := id st'
    exact ⟨u, rfl, go_of (s := { s with heap := h' }) e c d (by decide) ⟨x, H, I1, ru, ⟨rfl, fun ys hy => by rw [I.list_inj hy hq]; exact hx⟩, st', fun b hb => (hf b hb).1⟩⟩
  done := by
    intro X hP hw hK hc i pins s σ H E I hf st hg
    subst hP hw hK
    obtain ⟨xs, hq, hx⟩ := hg
    obtain ⟨its, rv, p, hz⟩ := I.list hq
    have f := hf it (by simp)
    obtain ⟨x1, hot, ne⟩ := hot_at hc I f
    obtain ⟨f0, f1, f2, f3, f4, f5⟩ := f
    have hl := rv.length
    exact list_end_hot hot ne st p.isList (by simp; omega) fun h' eb => ⟨rfl, I.turned (t' := s.toks) (fun b o hb e => eb b o hb e) f0 f1 f3 f4 f5⟩
  self := fun _ _ _ _ _ st h => wpAny_pyIter_listiter st h
theorem turn_strH {P : Program} {w : World} {K : Fr} {tg : Expr} (it : Addr) (x : Str) (t : Tok) : TurnH P w K tg (Its x) [it] it (fun i h => h.IsStrIter it "str_ascii_iterator" x t i) where
  mem := by simp
  obj := (turn_str (P := P) (w := w) (K := K) (tg := tg) it x t _ (.inl rfl)).obj
  keep := (turn_str (P := P) (w := w) (K := K) (tg := tg) it x t _ (.inl rfl)).keep
  item := by
    intro X hP hw hK hc i pins s σ H E I hf st hg
    subst hP hw hK
    obtain ⟨f0, f1, f2, f3, f4, f5⟩ := hf it (by simp)
    have hg' : i < x.cps.size := hg
    refine wpAny_pyNext_ascii_item st (c := x.cps[i]) (by simp [hg']) fun h' st' sb => ?_
    have I1 : Inv X pins σ H { s with heap := h', toks := s.toks + 1 } := I.turned (fun b o hb e => (sb.2 b hb).trans e) f0 f1 f3 f4 f5
    obtain ⟨oi, e, cc, dd⟩ := id st'
    exact ⟨_, rfl, go_of (s := { s with heap := h', toks := s.toks + 1 }) e cc dd (by decide) ⟨.str ⟨#[x.cps[i]]⟩, H, I1, ⟨_, rfl⟩, ⟨rfl, _, by simp [hg'], rfl⟩, st', fun b hb => (hf b hb).1⟩⟩
  done := by
    intro X hP hw hK hc i pins s σ H E I hf st hg
    subst hP hw hK
    have f := hf it (by simp)
    obtain ⟨x1, hot, ne⟩ := hot_at hc I f
    obtain ⟨f0, f1, f2, f3, f4, f5⟩ := f
    exact ascii_end_hot hot ne st (Array.getElem?_eq_none hg) fun h' eb => ⟨rfl, I.turned (t' := s.toks) (fun b o hb e => eb b o hb e) f0 f1 f3 f4 f5⟩
  self := fun A i s Q E st h => wpAny_pyIter_striter_ascii st h
end Hk

namespace Hk
open PySem PySem.Spec PyProof.Rows L2 HotX L2H
/-! ### iterables where an exception is handled -/
theorem pie_hot {X : Cx} {tg : Expr} {pins : List (Addr × Obj)} {σ : L2.St} {H : Hp} {s : Shared} {R : It → Hp → Prop} {J : It} {tn : Nat → Heap → Prop} {tk : Nat} (I : Inv X pins σ H s) (o : Obj)
    (T : TurnH X.prog X.w X.K tg J [s.heap.objs.size] s.heap.objs.size tn) (st : tn 0 (s.heap.push o)) (q : R J H) : PIEH X pins σ tg R (.ref s.heap.objs.size) { s with heap := s.heap.push o, toks := tk } := by
  refine ⟨s.heap.objs.size, [s.heap.objs.size], tn, J, H, rfl, I.kept fun b ob e => Heap.get?_push_of_some _ e, T, st, fun b hb => ?_, q⟩
  have e : b = s.heap.objs.size := by simpa using hb
  subst e
  exact I.fpOk (Nat.le_refl _) (I.hok.fresh (Nat.le_refl _))
theorem pih_list {X : Cx} {tg l : Expr} {tl : TE} (hl : PE X l tl) : PIH X tg l (iList X.K tl) := by
  refine ⟨fun pins s σ H R I h => thn (hl.run pins s σ H _ I h) fun v s1 hv => ?_⟩
  obtain ⟨x, H1, I1, r1, a, rfl, ⟨xs, hq⟩, q⟩ := hv
  cases r1
  obtain ⟨its, rv, p, hz⟩ := I1.list hq
  exact wpAny_pyIter_list p.isList (pie_hot (tk := s1.toks) I1 _ (turn_listH a _) ⟨_, Heap.get?_push_size _ rfl, rfl, rfl⟩ q)
/-- a text of ASCII signs -/
def iStrA (te : TE) : TI := fun σ H R => te σ H fun v H1 => ∃ x, v = .str x ∧ x.cps.all (· < 128) = true ∧ R (Its x) H1
theorem pih_str {X : Cx} {tg e : Expr} {te : TE} (he : PE X e te) : PIH X tg e (iStrA te) := by
  refine ⟨fun pins s σ H R I h => thn (he.run pins s σ H _ I h) fun v s1 hv => ?_⟩
  obtain ⟨y, H1, I1, r1, x, rfl, ha, q⟩ := hv
  obtain ⟨t, rfl⟩ := r1
  exact wpAny_pyIter_ascii ha (pie_hot (tk := s1.toks) I1 _ (turn_strH _ x t) ⟨_, Heap.get?_push_size _ rfl, rfl, rfl⟩ q)
/-! ### a list comprehension there -/
/-- the context of its block, which keeps what is pinned -/
abbrev blkP (X : Cx) (s : Shared) (H : Hp) (scope : Scope) (cenv : Env) (fp : List Addr) : Cx := { X.blk s H scope cenv fp with pn := X.pn }
theorem blkP_start {X : Cx} {pins : List (Addr × Obj)} {σ : L2.St} {H : Hp} {s : Shared} {scope : Scope} {own : List (Str × Nat)} {fp : List Addr} (I : Inv X pins σ H s) (ok : BlkOk X.N X.env.scope scope own) (hN : X.N.Nodup) (hfp : ∀ b ∈ fp, FpOk X pins H b ∧ b < s.heap.objs.size) :
    Inv (blkP X s H scope (compEnvC scope (cellsFrom (s.heap.objs.size + 1) scope.names (cloFrom X.env.cells scope.names [])) s.heap.objs.size X.env) fp) [] (wipe σ (own.map (·.2))) H { s with heap := pushCells (s.heap.push { cls := .type "dict", data := .dict #[] }) scope.names } := by
  have J := block_start I ok hN hfp
  have k := J.ok
  refine ⟨⟨k.mod, k.kind, k.glob, k.blt, k.above, k.inj, k.has, k.cab, k.hd, k.frames, k.stk, k.exf, k.bs, k.bsz, k.noex, k.exfs, k.funs, k.frf⟩, J.os, J.bare, J.base, J.loc, J.cell, J.free, J.freeC, fun p hp => ?_, J.hok, J.len⟩
  have hp : p ∈ X.pn := by simpa using hp
  obtain ⟨g, n, nl, nf, nc⟩ := I.pin p (List.mem_append_left _ hp)
  refine ⟨pushCells_keeps _ _ _ _ (Heap.get?_push_of_some _ g), n, Nat.ne_of_lt (Heap.lt_size g), fun z => ?_, nc⟩
  rcases List.mem_cons.mp (I.stkSub _ z) with y | y
  · exact nl y
  · exact nf y
theorem pe_lcH {X : Cx} {elt tg iter : Expr} {ifs : List Expr} {scope : Scope} {own : List (Str × Nat)} {pos : Pos} {wi : TI} {g : TG} {tt : TT} {te : TE} (hc : HotC X) (hN : X.N.Nodup) (hi : PIH X tg iter wi) (ok : BlkOk X.N X.env.scope scope own)
    (hg : ∀ (s : Shared) (H : Hp) (C : Addr) (cl : List (Str × Addr)) (fp : List Addr), PG (blkP X s H scope (compEnvC scope cl C X.env) fp) tg g) (ht : ∀ (s : Shared) (H : Hp) (C : Addr) (cl : List (Str × Addr)) (fp : List Addr), PTs (blkP X s H scope (compEnvC scope cl C X.env) fp) ifs tt)
    (he : ∀ (s : Shared) (H : Hp) (C : Addr) (cl : List (Str × Addr)) (fp : List Addr), PE (blkP X s H scope (compEnvC scope cl C X.env) fp) elt te) (hs : ∀ x, foldedSetIterable iter X.env x = pure x := by intro _; rfl) :
    PE X (.ListComp elt [⟨tg, iter, ifs, 0⟩] scope pos) (tLc wi g tt te (own.map (·.2))) := by
  refine ⟨fun pins s σ H Q I h => ?_⟩
  rw [eval_ListComp]
  have hfree : ∀ y ∈ scope.names, y.2 = .free → ∃ c, X.env.cells.lookup y.1 = some c := fun y hy e => (ok.free y hy e).elim (fun k => I.ok.has _ (.inl k)) fun k => I.ok.has _ (.inr k)
  refine wpAny_comprehension_free rfl hs (closure_ok hfree) ok.kind (fun y hy e => by rw [ok.uniq y hy, e]) (thn (hi.run pins s σ H _ I h) fun xv s1 hx => thn hx fun itv s2 h2 => ?_)
  obtain ⟨it, fp, tn, J, H2, rfl, I2, T, st2, f2, q⟩ := h2
  refine wpAny_newObj_type (newEnv_comp ?_) (by show 0 ≤ sizeLine; decide)
  generalize hD : s2.heap.objs.size = D
  have hDn : H2 D = none := I2.hok.fresh (Nat.le_of_eq hD)
  obtain ⟨W, ⟨m0, w0⟩, turn⟩ := q D hDn
  generalize hs3 : ({ s2 with heap := s2.heap.push { cls := .type "list", data := .seq ([] : List Value).toArray } } : Shared) = s3
  have h3 : s3.heap = s2.heap.push { cls := .type "list", data := .seq ([] : List Value).toArray } := by rw [← hs3]
  have I3 : Inv X pins σ (upd H2 D (.lst [])) s3 := by
    rw [← hs3]
    refine I2.laid (t' := s2.toks) (fun b o e => Heap.get?_push_of_some _ e) (Nat.le_of_eq hD) ⟨Nat.zero_le _, [], 0, .nil, ?_⟩
    rw [← hD]
    exact Heap.get?_push_size _ rfl
  have f3 : ∀ b ∈ fp, FpOk X pins (upd H2 D (.lst [])) b ∧ b < s3.heap.objs.size := fun b hb => by
    obtain ⟨o, e, _⟩ := T.obj _ _ st2 b hb
    have lt := Heap.lt_size e
    refine ⟨⟨?_, (f2 b hb).2⟩, by rw [h3, Heap.size_push]; exact Nat.lt_succ_of_lt lt⟩
    rw [upd_ne (by rw [← hD]; exact Nat.ne_of_lt lt)]
    exact (f2 b hb).1
  have st3 : tn 0 s3.heap := T.keep _ _ _ st2 fun b _ o e => by rw [h3]; exact Heap.get?_push_of_some _ e
  have I4 := blkP_start I3 ok hN f3
  have pg := hg s3 (upd H2 D (.lst [])) s3.heap.objs.size (cellsFrom (s3.heap.objs.size + 1) scope.names (cloFrom X.env.cells scope.names [])) fp
  have pt := ht s3 (upd H2 D (.lst [])) s3.heap.objs.size (cellsFrom (s3.heap.objs.size + 1) scope.names (cloFrom X.env.cells scope.names [])) fp
  have pe := he s3 (upd H2 D (.lst [])) s3.heap.objs.size (cellsFrom (s3.heap.objs.size + 1) scope.names (cloFrom X.env.cells scope.names [])) fp
  have nfp : ∀ b ∈ fp, (upd H2 D (.lst [])) b = none := fun b hb => (f3 b hb).1.1
  have cL : (compEnvC scope (cellsFrom (s3.heap.objs.size + 1) scope.names (cloFrom X.env.cells scope.names [])) s3.heap.objs.size X.env).locals = s3.heap.objs.size := rfl
  have st4 : tn 0 (pushCells (s3.heap.push { cls := .type "dict", data := .dict #[] }) scope.names) := T.keep _ _ _ st3 fun b _ o e => pushCells_keeps _ _ _ _ (Heap.get?_push_of_some _ e)
  show codeAny _ _ (.compStart (.ListComp elt [⟨tg, iter, ifs, 0⟩] scope pos) 0 (.ref it) (.ref D) (compEnvC scope (cellsFrom (s3.heap.objs.size + 1) scope.names (cloFrom X.env.cells scope.names [])) s3.heap.objs.size X.env)) (compPost (model X.prog X.w) X.A X.xe none (EP X pins σ Q) (.ref D) s3.heap.objs.size) { s3 with heap := pushCells (s3.heap.push { cls := .type "dict", data := .dict #[] }) scope.names }
  generalize hce : compEnvC scope (cellsFrom (s3.heap.objs.size + 1) scope.names (cloFrom X.env.cells scope.names [])) s3.heap.objs.size X.env = ce at I4 pg pt pe cL ⊢
  generalize upd H2 D (.lst []) = H3 at I3 I4 pg pt pe w0 nfp f3
  have hcB : HotC (blkP X s3 H3 scope ce fp) := hc
  have stat : ∀ {σ' : L2.St} {H' : Hp} {s' : Shared}, Inv (blkP X s3 H3 scope ce fp) [] σ' H' s' → (∀ b ∈ fp, H' b = none) → ∀ b ∈ fp, FpOk (blkP X s3 H3 scope ce fp) [] H' b := fun {σ' H' s'} I' hn b hb =>
    ⟨hn b hb, (I'.ok.exf b hb).1, I'.ok.exfs b hb, .inl hb, fun x c e => (I'.ok.exf b hb).2 x c e, fun p hp => (f3 b hb).1.2.2.2.2.2 p (List.mem_append_left _ (by simpa using hp))⟩
  generalize hs4 : ({ s3 with heap := pushCells (s3.heap.push { cls := .type "dict", data := .dict #[] }) scope.names } : Shared) = s4 at I4 ⊢
  have st4' : tn 0 s4.heap := by rw [← hs4]; exact st4
  have run : codeAny (model X.prog X.w) X.A (.compLoop (.ListComp elt [⟨tg, iter, ifs, 0⟩] scope pos) 0 (.ref it) (.ref D) ce) (compPost (model X.prog X.w) X.A X.xe none (EP X pins σ Q) (.ref D) s3.heap.objs.size) s4 := by
    refine compLoop_any (fun n s' => ∃ i H', Inv (blkP X s3 H3 scope ce fp) [] (wipe σ (own.map (·.2))) H' s' ∧ tn i s'.heap ∧ (∀ b ∈ fp, H' b = none) ∧ W i n H') ?_ m0 ⟨0, H3, I4, st4', nfp, w0⟩
    rintro n s5 ⟨i, H5, I5, st5, n5, w5⟩
    rcases turn i n H5 w5 with ⟨stop, qq⟩ | ⟨go, Nx, hNx, step⟩
    · refine thnF (T.done (blkP X s3 H3 scope ce fp) rfl rfl rfl hcB i [] s5 _ H5 (fun _ _ => False) I5 (stat I5 n5) st5 stop) fun r s6 hr => ?_
      obtain ⟨rfl, I6⟩ := hr
      have I7 : Inv X pins σ H5 s6 := I3.call' (ch := fp) I6.os I6.base I6.hok I6.bare fun b hb => ⟨(f3 b hb).1.2.2.2.1, (f3 b hb).1.2.1, (f3 b hb).1.2.2.2.2.1, (f3 b hb).1.2.2.2.2.2⟩
      have nC : H5 s3.heap.objs.size = none := by
        have z : H5 ce.locals = none := I6.free
        rw [cL] at z
        exact z
      obtain ⟨m, hn, _⟩ := I6.loc
      have hn : s6.heap.Ns ce.locals m := hn
      rw [cL] at hn
      obtain ⟨c0, c1, c2, c3, c4, c5⟩ := I3.fpOk (Nat.le_refl _) nC
      exact ⟨m, hn, fun h'' sb => ⟨.ref D, H5, I7.turned (t' := s6.toks) (fun b o hb e => (sb.2 b hb).trans e) c0 c1 c3 c4 c5, rfl, qq⟩⟩
    · refine thnF (T.item (blkP X s3 H3 scope ce fp) rfl rfl rfl hcB i [] s5 _ H5 (fun _ _ => False) I5 (stat I5 n5) st5 go) fun r s6 hr => ?_
      obtain ⟨u, rfl, h6⟩ := hr
      refine thnF h6 fun _ s7 h7 => ?_
      obtain ⟨x, H7, I7, r7, y7, st7, n7⟩ := h7
      have P7 := I7.pinned (stat I7 n7) (T.obj _ _ st7)
      refine thnF (pg.run _ s7 _ H7 x u _ P7 r7 (step x H7 y7)) fun _ s8 h8 => ?_
      obtain ⟨σ8, H8, I8, hw8, q8⟩ := h8
      refine thnF (pt.run _ s8 σ8 H8 _ I8 q8) fun b s9 h9 => ?_
      obtain ⟨H9, I9, q9⟩ := h9
      have again : ∀ {s' : Shared} {H' : Hp}, Inv (blkP X s3 H3 scope ce fp) ([] ++ pinsAt fp s7.heap) σ8 H' s' → Nx H' → ∃ m, m < n ∧ ∃ i H', Inv (blkP X s3 H3 scope ce fp) [] (wipe σ (own.map (·.2))) H' s' ∧ tn i s'.heap ∧ (∀ b ∈ fp, H' b = none) ∧ W i m H' := fun {s' H'} I' nx => by
        obtain ⟨m', hm, w'⟩ := hNx H' nx
        have keepP : ∀ b ∈ fp, ∀ o, s7.heap.get? b = some o → s'.heap.get? b = some o ∧ H' b = none := fun b hb o e =>
          let z := I'.pin (b, o) (List.mem_append_right _ (List.mem_append_right _ (mem_pinsAt hb e)))
          ⟨z.1, z.2.1⟩
        refine ⟨m', hm, i + 1, H', (I'.unpinned (pins := [])).weak (by rw [← hw8, wipe_length]) (fun j v e => ?_), T.keep _ _ _ st7 fun b hb o e => (keepP b hb o e).1, fun b hb => ?_, w'⟩
        · rw [← hw8] at e
          exact (wipe_some e).1
        · obtain ⟨o, e, _⟩ := T.obj _ _ st7 b hb
          exact (keepP b hb o e).2
      cases b with
      | false =>
        simp only [Bool.false_eq_true, if_false] at q9 ⊢
        exact again I9 q9
      | true =>
        simp only [if_true] at q9 ⊢
        refine thnF (pe.run _ s9 σ8 H9 _ I9 q9) fun z s10 h10 => ?_
        obtain ⟨yv, H10, I10, r10, acc, hD10, hz10, nx⟩ := h10
        exact app_ok (X := blkP X s3 H3 scope ce fp) I10 hD10 hz10 r10 fun s11 I11 => again I11 nx
  exact codeAny_compStart_list run (T.self X.A 0 _ _ _ st4' run)
end Hk

namespace Hk
open PySem PySem.Spec PyProof.Rows L2 HotX L2H
/-! ### all, any of a list of truths there -/
theorem walks_list_hot {prog : Program} {w : World} {A : Around} (it ax x1 : Addr) (hne : ax ≠ it) (hx : x1 ≠ it) (items : Array Value) :
    Walks prog w A it [it, ax, x1] [it] items.size (fun i v => items[i]? = some v) (fun i h => h.IsListIter it ax i ∧ (h.IsList ax items ∧ HotAt A x1 h)) where
  sub := fun b hb => by simp at hb; simp [hb]
  frame := fun _ _ _ st hk => by
    obtain ⟨s1, s2, hh, o, vs, e, d, c⟩ := st
    exact ⟨s1.at fun o e => hk it (by simp) o e, s2.at fun o e => hk ax (by simp) o e, hh, o, vs, hk x1 (by simp) o e, d, c⟩
  item := fun i s Q E hi st hQ => by
    obtain ⟨s1, s2, hh, o, vs, e, d, c⟩ := st
    refine wpAny_pyNext_list_item s1 s2 (x := items[i]) (by simp [hi]) fun h' hit' hs' => ?_
    exact hQ _ h' s.toks (by simp [hi]) ⟨hit', s2.extBut hs'.extBut hne, hh, o, vs, hs'.extBut x1 o hx e, d, c⟩ fun b o hb e => hs'.extBut b o (fun h => hb (by simp [h])) e
  done := fun s Q E st hQ => list_end_hot st.2.2 hx st.1 st.2.1 (by simp) fun h' he' => hQ h' s.toks fun b o hb e => he' b o (fun h => hb (by simp [h])) e
  self := fun _ _ _ _ st hQ => wpAny_pyIter_listiter st.1 hQ
section
variable {X : Cx}
theorem cr_allH (hc : HotC X) : CallR X (.builtin "all") (rAll X.K) := by
  intro pins s σ H vs us Q I r h
  obtain ⟨a, bs, rfl, hs, q⟩ := h
  obtain ⟨its, rv, hl, _⟩ := I.list hs
  rw [Vals.ref1 r]
  have hb := rv.bls
  obtain ⟨x1, hh, o1, v1, e1, d1, c1⟩ := hc.at I
  refine call_all_walk (iter_any hl.isList fun s₂ e2 st hne => ?_)
  subst e2
  have lx : x1 < s.heap.objs.size := Heap.lt_size e1
  refine ⟨_, _, _, _, _, _, _, rfl, walks_list_hot (A := X.A.in1) _ a x1 hne (Nat.ne_of_lt lx) its.toArray, ⟨st.1, st.2, hh, o1, v1, Heap.get?_push_of_some _ e1, d1, c1⟩, truth_bools hb, fun h' tk hk => ?_⟩
  refine ⟨.bl _, H, I.kept fun b o eo => hk b o (fun hmem => ?_) (Heap.get?_push_of_some _ eo), ?_, q⟩
  · have z : b = s.heap.objs.size := by simpa using hmem
    exact absurd (z ▸ Heap.lt_size eo) (Nat.lt_irrefl _)
  · show Value.bool _ = Value.bool _
    rw [← L2.all_range, hb, List.size_toArray, List.length_map]
theorem cr_anyH (hc : HotC X) : CallR X (.builtin "any") (rAny X.K) := by
  intro pins s σ H vs us Q I r h
  obtain ⟨a, bs, rfl, hs, q⟩ := h
  obtain ⟨its, rv, hl, _⟩ := I.list hs
  rw [Vals.ref1 r]
  have hb := rv.bls
  obtain ⟨x1, hh, o1, v1, e1, d1, c1⟩ := hc.at I
  refine call_any_walk (iter_any hl.isList fun s₂ e2 st hne => ?_)
  subst e2
  have lx : x1 < s.heap.objs.size := Heap.lt_size e1
  refine ⟨_, _, _, _, _, _, _, rfl, walks_list_hot (A := X.A.in1) _ a x1 hne (Nat.ne_of_lt lx) its.toArray, ⟨st.1, st.2, hh, o1, v1, Heap.get?_push_of_some _ e1, d1, c1⟩, truth_bools hb, fun h' tk hk => ?_⟩
  refine ⟨.bl _, H, I.kept fun b o eo => hk b o (fun hmem => ?_) (Heap.get?_push_of_some _ eo), ?_, q⟩
  · have z : b = s.heap.objs.size := by simpa using hmem
    exact absurd (z ▸ Heap.lt_size eo) (Nat.lt_irrefl _)
  · show Value.bool _ = Value.bool _
    rw [← L2.any_range, hb, List.size_toArray, List.length_map]
end
/-! ### defs called there that let nothing out -/
section
variable {P : Program} {w : World} {K : Fr} {mg : Str → Option Value} {base : Heap}
theorem hotC_cx {CX : CXT} {N : List Str} {qual : Str} {scope : Scope} {f : Addr} {cd : Value} {A : Around} {outer : List Env} {s : Shared} {H : Hp} {E : XK} {p : Addr × Obj} (h : Hot1 A p) : HotC (cxH CX P w K mg base N qual scope f cd A outer s H E p) := ⟨p, h, List.mem_cons_self⟩
abbrev BodyH (P : Program) (w : World) (K : Fr) (mg : Str → Option Value) (base : Heap) (k : Nat) (d : Dx) (N ps : List Str) (sp : Sp) : Prop :=
  ∀ (cdv : Value) (A : Around) (outer : List Env) (s : Shared) (H : Hp) (vs : List V) (Q : VK) (E : XK) (p : Addr × Obj), Hot1 A p → RoomH k (A.deeper (envOfC d.ql (defScope d.st) s.heap.objs.size (d.ad K) cdv)) → sp vs H Q E →
      ∃ t, PSs (cxH CX0 P w K mg base N d.ql (defScope d.st) (d.ad K) cdv A outer s H E p) (defBody d.st) t ∧ t { nx := fun _ H' => Q .non H', rt := Q } (L2.start N vs) H
theorem okh_of {k : Nat} {d : Dx} {N ps : List Str} {sp : Sp} {fd : FuncData} (D : DAt K d fd) (S : FnScope N ps (defScope d.st)) (len : ∀ vs H Q E, sp vs H Q E → vs.length = ps.length) (hb : BodyH P w K mg base k d N ps sp) :
    FnH P w K mg base CX0 (k + 1) (d.ad K) fd ps sp := by
  obtain ⟨oc, od, dV, kV, doc, pm, an, cdv, ct, osl, rfl, lk, hcd, _, _⟩ := D.ex
  exact fn_ofH lk hcd S len fun A outer s H vs Q E p hot hr h => hb cdv A outer s H vs Q E p hot hr h
def CalH (P : Program) (w : World) (K : Fr) (mg : Str → Option Value) (base : Heap) (k : Nat) (x : Str) (ad : Addr) (ps : List Str) (sp : Sp) : Prop :=
  ∃ fd : FuncData, FnH P w K mg base CX0 k ad fd ps sp ∧ Binds K fd ps [] ∧ PySem.W.keepIn K (.ref ad) = true ∧ mg x = some (.ref ad)
theorem pe_ch {X : Cx} {k : Nat} {x : Str} {ad : Addr} {ps : List Str} {sp : Sp} {e : Expr} {es : List Expr} {t : TA} {p pos : Pos} (c : CalH X.prog X.w X.K X.mg X.base k x ad ps sp) (hr : RoomH k X.A) (hc : HotC X) (ha : PA X (e :: es) t) (hg : Gl X x := by rfl)
    (hdb : (x == ("__debug__" : Str)) = false := by decide) (he : starEach (e :: es) X.env = (false, eval e X.env) :: starEach es X.env := by rfl) (hpl : (backTo pos (starEach es X.env)).any (·.1) = false := by rfl) :
    PE X (.Call (.Name x p) (e :: es) [] pos) (tCallS sp (fun _ => E0) t) := by
  obtain ⟨fd, F, b, kp, m⟩ := c
  exact pe_callH F hr hc hg m kp b (fun σ _ _ _ _ _ _ z => (show False from z).elim) ha hdb he hpl
theorem calh_of {k : Nat} {d : Dx} {N ps : List Str} {sp : Sp} {x : Str} (D : ∃ fd, DAt K d fd) (hv : d.df = []) (S : FnScope N ps (defScope d.st)) (hm : mg x = some (.ref (d.ad K)))
    (hbi : ∀ (kV doc pm : Value) (an : Option Addr) (cdv ct : Value) (us : List Value), us.length = ps.length → bindArgs (PySem.W.fnOf d.nm d.ql (defArgs d.st) (defBody d.st) (defScope d.st) .none kV doc pm an cdv ct) ⟨us, []⟩ = pure (ps.zip us))
    (len : ∀ vs H Q E, sp vs H Q E → vs.length = ps.length) (hb : BodyH P w K mg base k d N ps sp) : CalH P w K mg base (k + 1) x (d.ad K) ps sp := by
  obtain ⟨fd, D⟩ := D
  have e : d.vs K = [] := by
    unfold Dx.vs
    rw [hv]
    rfl
  have D' : FunD K d.nm d.ql (defArgs d.st) (defBody d.st) (defScope d.st) [] [] (d.ad K) fd := by
    rw [← e]
    exact D
  exact ⟨fd, okh_of D S len hb, FunD.bindsN D' hbi, D.kp, hm⟩
end
/-! ### str and repr of own instances there -/
section
variable {X : Cx} {k : Nat} {C f : Addr} {fd : FuncData} {ps : List Str} {sp : Sp}
theorem own_runH {A' : Around} {pins : List (Addr × Obj)} {σ : L2.St} {H : Hp} {s : Shared} {Q : VK} {E' : Value → Shared → Prop} {us : List Value} {vs : List V} {p : Addr × Obj} (F : FnH X.prog X.w X.K X.mg X.base CX0 k f fd ps sp)
    (hr : RoomH k A') (hot : Hot1 A' p) (hp : p ∈ X.pn) (e0 : Env0 X.prog X.w X.K X.mg X.base A' X.stack s H) (hb : Binds X.K fd ps []) (I : Inv X pins σ H s) (r : Vals vs us) (h : sp vs H Q E0) : wpAny (model X.prog X.w) A' (call (.ref f) us) (EP X pins σ Q) E' s := by
  have ln : us.length = ps.length := r.length.symm.trans (F.len _ _ _ _ h)
  have bd : BindsTo s fd ⟨us, []⟩ (ps.zip us) := by
    have := hb s us I.kIn (by rw [List.append_nil]; exact ln)
    rwa [List.append_nil] at this
  obtain ⟨g1, g2, g3, g4, g5⟩ := I.pin p (List.mem_append_left _ hp)
  refine wpAny_call (codeAny_mono (F.run A' X.stack s H ⟨us, []⟩ us vs Q E0 p hr hot ⟨g1, g2, fun hm => (List.mem_cons.mp (I.stkSub p.1 hm)).elim g3 g4, g5⟩ e0 bd r h) fun z s' hq => ?_)
  rcases z with e | fl
  · exact (show False from hq).elim
  · cases fl with
    | ret u => exact I.after hq
    | _ => exact (show False from hq).elim
theorem call_strOH (O : Own X.K C "__str__" f) (F : FnH X.prog X.w X.K X.mg X.base CX0 k f fd ps sp) (hb : Binds X.K fd ps []) (hr : RoomH (k + 1) X.A) (hc : HotC X) : CallR X (.type "str") (rText C sp) := by
  intro pins s σ H xs us Q I r h
  obtain ⟨a, dx, fs, rfl, ha, q⟩ := h
  obtain ⟨u, rfl, ru⟩ := r.one
  cases (show u = Value.ref a from ru)
  obtain ⟨mA, M, _⟩ := ins_get I.hok ha
  obtain ⟨od, J, _⟩ := M.look
  obtain ⟨p, hot, hp⟩ := hc
  have r2 : RoomH k X.A.in1.in1 := ⟨by have := hr.dp; show X.A.depth + 3 * k + 5 < _; omega, by have := hr.un; show X.A.units + 1 + 1 + 16 * k + 200 < _; omega⟩
  refine PySem.W.kso_call (by have := hr.un; show X.A.units + 1 + 1 < _; omega) I.kIn J O.at_ O.fn (wpAny_mono (own_runH (vs := [.ref a]) F r2 hot hp I.env0.in1.in1 hb I (.cons rfl .nil) q) (fun v s' z => ?_) fun _ _ z => z)
  obtain ⟨z', H', I', rz, y, ey, qz⟩ := z
  subst ey
  obtain ⟨t, e⟩ := (show ∃ t, v = Value.str y t from rz)
  cases e
  exact ⟨.str y, H', I', ⟨t, rfl⟩, qz⟩
theorem call_reprOH (O : Own X.K C "__repr__" f) (F : FnH X.prog X.w X.K X.mg X.base CX0 k f fd ps sp) (hb : Binds X.K fd ps []) (hr : RoomH (k + 1) X.A) (hc : HotC X) : CallR X (.builtin "repr") (rText C sp) := by
  intro pins s σ H xs us Q I r h
  obtain ⟨a, dx, fs, rfl, ha, q⟩ := h
  obtain ⟨u, rfl, ru⟩ := r.one
  cases (show u = Value.ref a from ru)
  obtain ⟨mA, M, _⟩ := ins_get I.hok ha
  obtain ⟨od, J, _⟩ := M.look
  obtain ⟨p, hot, hp⟩ := hc
  have r2 : RoomH k X.A.in1 := ⟨by have := hr.dp; show X.A.depth + 3 * k + 5 < _; omega, by have := hr.un; show X.A.units + 1 + 16 * k + 200 < _; omega⟩
  obtain ⟨m, hF⟩ := I.fr
  refine PySem.W.repr_K (by have := hr.un; show X.A.units + 1 < _; omega) hF I.ok.mod.kin J O.at_ O.fn (wpAny_mono (own_runH (vs := [.ref a]) F r2 hot hp I.env0.in1 hb I (.cons rfl .nil) q) (fun v s' z => ?_) fun _ _ z => z)
  obtain ⟨z', H', I', rz, y, ey, qz⟩ := z
  subst ey
  obtain ⟨t, e⟩ := (show ∃ t, v = Value.str y t from rz)
  cases e
  exact ⟨.str y, H', I', ⟨t, rfl⟩, qz⟩
end
end Hk

namespace Hk
open PySem PySem.Spec PyProof.Rows L2 HotX L2H
section
variable {P : Program} {w : World} {K : Fr} {mg : Str → Option Value} {base : Heap}
theorem hotC_n {X : Cx} {p : Addr × Obj} (h : Hot1 X.A p) (m : p ∈ X.pn) : HotC X := ⟨p, h, m⟩
/-- as BodyH, the body letting nothing out -/
abbrev BodyHn (P : Program) (w : World) (K : Fr) (mg : Str → Option Value) (base : Heap) (k : Nat) (d : Dx) (N ps : List Str) (sp : Sp) : Prop :=
  ∀ (cdv : Value) (A : Around) (outer : List Env) (s : Shared) (H : Hp) (vs : List V) (Q : VK) (E : XK) (p : Addr × Obj), Hot1 A p → RoomH k (A.deeper (envOfC d.ql (defScope d.st) s.heap.objs.size (d.ad K) cdv)) → sp vs H Q E →
      ∃ t, PSs (cxH CX0 P w K mg base N d.ql (defScope d.st) (d.ad K) cdv A outer s H E p).nox (defBody d.st) t ∧ t { nx := fun _ H' => Q .non H', rt := Q } (L2.start N vs) H
theorem calh_n {k : Nat} {d : Dx} {N ps : List Str} {sp : Sp} {x : Str} (D : ∃ fd, DAt K d fd) (hv : d.df = []) (S : FnScope N ps (defScope d.st)) (hm : mg x = some (.ref (d.ad K)))
    (hbi : ∀ (kV doc pm : Value) (an : Option Addr) (cdv ct : Value) (us : List Value), us.length = ps.length → bindArgs (PySem.W.fnOf d.nm d.ql (defArgs d.st) (defBody d.st) (defScope d.st) .none kV doc pm an cdv ct) ⟨us, []⟩ = pure (ps.zip us))
    (len : ∀ vs H Q E, sp vs H Q E → vs.length = ps.length) (hb : BodyHn P w K mg base k d N ps sp) : CalH P w K mg base (k + 1) x (d.ad K) ps sp :=
  calh_of D hv S hm hbi len fun cdv A outer s H vs Q E p hot hr h => by
    obtain ⟨t, c, q⟩ := hb cdv A outer s H vs Q E p hot hr h
    exact ⟨t, c.nox, q⟩
theorem okh_n {k : Nat} {d : Dx} {N ps : List Str} {sp : Sp} {fd : FuncData} (D : DAt K d fd) (S : FnScope N ps (defScope d.st)) (len : ∀ vs H Q E, sp vs H Q E → vs.length = ps.length) (hb : BodyHn P w K mg base k d N ps sp) :
    FnH P w K mg base CX0 (k + 1) (d.ad K) fd ps sp :=
  okh_of D S len fun cdv A outer s H vs Q E p hot hr h => by
    obtain ⟨t, c, q⟩ := hb cdv A outer s H vs Q E p hot hr h
    exact ⟨t, c.nox, q⟩
end
theorem iteTd {c A B : Prop} [Decidable c] (hc : c) (h : A) : if decide c = true then A else B := by
  rw [decide_eq_true hc]
  exact iteT h
theorem iteFd {c A B : Prop} [Decidable c] (hc : ¬ c) (h : B) : if decide c = true then A else B := by
  rw [decide_eq_false hc]
  exact iteF h
theorem unH {k : Nat} {A : Around} (r : RoomH k A) : A.units + 64 < cLine := by have := r.un; omega
/-- both branches give one value -/
theorem if_te {b : Bool} {ta tb : TE} {σ : L2.St} {H : Hp} {Q : VK} (v : V) (hq : Q v H) (ha : b = true → ∀ Q' : VK, Q' v H → ta σ H Q') (hb : b = false → ∀ Q' : VK, Q' v H → tb σ H Q') : if b = true then ta σ H Q else tb σ H Q := by
  cases b with
  | true => exact iteT (ha rfl Q hq)
  | false => exact iteF (hb rfl Q hq)
theorem cutV_from1 (x : V) (xs : List V) : cutV (x :: xs) (some 1) none = xs := by
  unfold cutV
  have e1 : HT.sIx (x :: xs).length 0 (some 1) = 1 := by
    show (if (1 : Int) < 0 then ((1 : Int) + ((x :: xs).length : Int)).toNat else min (1 : Int).toNat (x :: xs).length) = 1
    rw [if_neg (by decide), List.length_cons]
    show min 1 _ = 1
    omega
  rw [e1]
  show (List.drop 1 (x :: xs)).take ((x :: xs).length - 1) = xs
  rw [List.drop_one, List.tail_cons, List.length_cons]
  exact List.take_of_length_le (by omega)
/-! ### comprehensions of a function of each item -/
theorem lc_fn {K : Fr} {a : Addr} {xs : List V} {i : Nat} {te : TE} {σ : L2.St} {H1 : Hp} {D : Addr} {Qd : Hp → Prop} (f : V → V) (nD : H1 D = none) (hl : SqL K H1 a xs) (hz : xs.length ≤ 100000)
    (hs : ∀ x ∈ xs, ∀ (H : Hp) (R : VK), Same H1 H → (∀ H', Same H H' → R (f x) H') → te ((σ.set i none).set i (some x)) H R)
    (hd : ∀ H, Same H1 H → H D = some (.lst (xs.map f)) → Qd H) :
    ∃ W : Nat → Nat → Hp → Prop, (∃ m, W 0 m (upd H1 D (.lst []))) ∧ ∀ j m H, W j m H →
      ((Itl K a).stop j H ∧ Qd H) ∨ ((Itl K a).go j H ∧ ∃ Nx : Hp → Prop, (∀ H', Nx H' → ∃ m', m' < m ∧ W (j + 1) m' H') ∧ ∀ x H', (Itl K a).yld j H x H' → gName i x (wipe σ [i]) H' fun σ2 H2 => wipe σ2 [i] = wipe σ [i] ∧ tYes σ2 H2 fun b H3 =>
        if b = true then te σ2 H3 fun y H4 => ∃ acc, H4 D = some (.lst acc) ∧ acc.length < sizeLine ∧ Nx (upd H4 D (.lst (acc ++ [y]))) else Nx H3) := by
  refine lc_list (xs := xs) (fun j H' => Same H1 H' ∧ H' D = some (.lst ((xs.take j).map f))) ⟨same_upd nD, upd_same⟩ (fun j H' _ h => h.1.seq hl) ?_ ?_
  · rintro j x H hx ⟨s1, hD⟩
    have hj := (List.getElem?_eq_some_iff.mp hx).1
    refine ⟨by show ((σ.set i none).set i (some x)).set i none = σ.set i none; rw [List.set_set, List.set_set], ?_⟩
    unfold tYes
    dsimp only
    rw [if_pos rfl]
    refine hs x (List.mem_of_getElem? hx) H _ s1 fun H' s2 => ⟨_, s2 _ _ hD, ?_, same_upd' (s1.trans s2) nD, ?_⟩
    · rw [List.length_map, List.length_take]
      have : (100000 : Nat) < sizeLine := by decide
      omega
    · rw [upd_same, List.take_add_one, hx, List.map_append]
      rfl
  · rintro H ⟨s1, hD⟩
    rw [List.take_length] at hD
    exact hd H s1 hD
theorem lc_fnS {z : Str} {i : Nat} {te : TE} {σ : L2.St} {H1 : Hp} {D : Addr} {Qd : Hp → Prop} (f : Nat → V) (nD : H1 D = none) (hz : z.cps.size ≤ 100000)
    (hs : ∀ c ∈ z.cps.toList, ∀ (H : Hp) (R : VK), Same H1 H → (∀ H', Same H H' → R (f c) H') → te ((σ.set i none).set i (some (.str ⟨#[c]⟩))) H R)
    (hd : ∀ H, Same H1 H → H D = some (.lst (z.cps.toList.map f)) → Qd H) :
    ∃ W : Nat → Nat → Hp → Prop, (∃ m, W 0 m (upd H1 D (.lst []))) ∧ ∀ j m H, W j m H →
      ((Its z).stop j H ∧ Qd H) ∨ ((Its z).go j H ∧ ∃ Nx : Hp → Prop, (∀ H', Nx H' → ∃ m', m' < m ∧ W (j + 1) m' H') ∧ ∀ x H', (Its z).yld j H x H' → gName i x (wipe σ [i]) H' fun σ2 H2 => wipe σ2 [i] = wipe σ [i] ∧ tYes σ2 H2 fun b H3 =>
        if b = true then te σ2 H3 fun y H4 => ∃ acc, H4 D = some (.lst acc) ∧ acc.length < sizeLine ∧ Nx (upd H4 D (.lst (acc ++ [y]))) else Nx H3) := by
  refine lc_it walk_str (fun j H' => Same H1 H' ∧ H' D = some (.lst ((z.cps.toList.take j).map f))) ⟨same_upd nD, upd_same⟩ (fun _ _ _ _ => trivial) ?_ ?_
  · rintro j x H H' hj ⟨s1, hD⟩ ⟨e, c, hc, ex⟩
    subst e ex
    have hx : z.cps.toList[j]? = some c := by rw [Array.getElem?_toList]; exact hc
    refine ⟨by show ((σ.set i none).set i (some _)).set i none = σ.set i none; rw [List.set_set, List.set_set], ?_⟩
    unfold tYes
    dsimp only
    rw [if_pos rfl]
    refine hs c (List.mem_of_getElem? hx) _ _ s1 fun H' s2 => ⟨_, s2 _ _ hD, ?_, same_upd' (s1.trans s2) nD, ?_⟩
    · rw [List.length_map, List.length_take]
      have : (100000 : Nat) < sizeLine := by decide
      omega
    · rw [upd_same, List.take_add_one, hx, List.map_append]
      rfl
  · rintro H ⟨s1, hD⟩
    have e : z.cps.toList.take z.cps.size = z.cps.toList := by
      rw [← Array.length_toList]
      exact List.take_length
    rw [e] at hD
    exact hd H s1 hD
end Hk

/-! Tuples taken apart where an exception is handled. -/
namespace Hk
open PySem PySem.Spec PyProof.Rows L2 HotX L2H
section
variable {prog : Program} {w : World} {A : Around} {E : Value → Shared → Prop} {s : Shared}
theorem tuple_end_hot {it t x1 : Addr} {i : Nat} {items} {Q : Option Value → Shared → Prop} (hot : HotAt A x1 s.heap) (ne : x1 ≠ it)
    (hit : IsTupIter s.heap it t i) (ht : IsTup s.heap t items) (hx : items[i]? = none)
    (hQ : ∀ h', (∀ b o, b ≠ it → s.heap.get? b = some o → h'.get? b = some o) → Q none { s with heap := h' }) : wpAny (model prog w) A (pyNext (.ref it)) Q E s := by
  obtain ⟨o, ho, hc, hd⟩ := id hit
  obtain ⟨ol, hol, _, nl, hdl⟩ := ht
  obtain ⟨hh, o1, vs1, h1, d1, c1⟩ := hot
  unfold pyNext
  refine wpAny_bind (wpAny_attempt (wpAny_callSpecial?_slot (name := Str.ofString "__next__") hit.typeIs slot_tupleiter_next
    (wpAny_call_entry slot_tupleiter_next hit.typeIs entry_tupleiter_next ?_ (args_tupleiter_next _))))
  show wpAny _ _ (field (.ref it) 0 >>= _) _ _ s
  refine wpAny_bind (wpAny_field ho hd (x := .ref t) rfl ?_)
  show wpAny _ _ (if (Value.ref t == Value.none) = true then _ else _) _ _ s
  rw [if_neg (show ¬ ((Value.ref t == Value.none) = true) from Bool.false_ne_true)]
  show wpAny _ _ (field (.ref it) 1 >>= _) _ _ s
  refine wpAny_bind (wpAny_field ho hd (x := .int i 0) rfl ?_)
  show wpAny _ _ (seqItems? (.ref t) >>= _) _ _ s
  refine wpAny_bind (wpAny_seqItems hol hdl ?_)
  simp only [Int.toNat_natCast, hx]
  refine wpAny_bind (wpAny_rule (wpAny_bind (wpAny_setField ho hd (by simp) ?_)))
  show wpAny _ _ (newExc (.type "StopIteration") [] >>= _) _ _ _
  refine wpAny_bind ?_
  simp only [newExc, newTuple]
  refine wpAny_bind (wpAny_newObj_type ?_ (by size_fits))
  refine wpAny_bind (m := firstArgMember _ _) (wpAny_of_eq (a := Value.none) (by first | rfl | (simp only [firstArgMember]; rfl)) ?_)
  refine wpAny_newObj_type ?_ (by size_fits)
  have g1 := fun {f : Obj → Obj} => (Heap.get?_update_other s.heap f (Ne.symm ne)).trans h1
  refine raiseNew_hot ⟨hh, o1, vs1, Heap.get?_push_of_some _ (Heap.get?_push_of_some _ g1), d1, c1⟩ (Nat.ne_of_lt (Heap.lt_size (Heap.get?_push_of_some _ g1))) (Heap.get?_push_size _ rfl) rfl (by first | (simp; done) | (simp; omega) | decide) ?_
  refine wpAny_bind (wpAny_isInstance (T := "StopIteration") (b := true) ⟨_, Heap.get?_update_self _ (Heap.get?_push_size _ rfl) rfl, rfl⟩ isSubtype_stop ?_)
  refine wpAny_pure (hQ _ fun b o hb e => ?_)
  have g2 := fun {f : Obj → Obj} => (Heap.get?_update_other s.heap f (Ne.symm hb)).trans e
  rw [Heap.get?_update_other _ _ (Nat.ne_of_gt (Heap.lt_size (Heap.get?_push_of_some _ g2)))]
  exact Heap.get?_push_of_some _ (Heap.get?_push_of_some _ g2)
theorem unpackItems_tupleH {x1 t : Addr} {items : Array Value} {Q : List Value → Shared → Prop} (hot : HotAt A x1 s.heap) (ht : IsTup s.heap t items)
    (hQ : ∀ h', Heap.ExtBut s.heap.objs.size s.heap h' → Q items.toList { s with heap := h' }) : wpAny (model prog w) A (unpackItems (.ref t) items.size none) Q E s := by
  have hlt : t ≠ s.heap.objs.size := by obtain ⟨o, ho, _⟩ := ht; exact Nat.ne_of_lt (Heap.lt_size ho)
  obtain ⟨hh, o1, vs1, h1, d1, c1⟩ := hot
  have hx1 : x1 ≠ s.heap.objs.size := Nat.ne_of_lt (Heap.lt_size h1)
  unfold unpackItems
  refine wpAny_bind ?_
  · unfold notIterableAtAll
    refine wpAny_bind (wpAny_specialOf ht.typeIs slot_tuple_iter.lookup ?_)
    refine wpAny_pure ?_
    simp only [Bool.false_eq_true, if_false]
    refine wpAny_bind (wpAny_holding (iter_tuple ht ?_))
    refine wpAny_bind (wpAny_holding (draw_tuple hlt items.size 0 _ _ ⟨_, Heap.get?_push_size _ rfl, rfl, rfl⟩ (ht.push _) (by omega) fun h₁ hit₁ hs₁ => ?_))
    have hall : List.take items.size (List.drop 0 items.toList) = items.toList := by
      rw [List.drop_zero]; exact List.take_of_length_le (by simp)
    rw [hall]
    rw [if_neg (by simp)]
    have ht₁ : IsTup h₁ t items := (ht.push _).extBut hs₁.extBut hlt
    have hg : h₁.get? x1 = some o1 := hs₁.extBut x1 o1 hx1 (Heap.get?_push_of_some _ h1)
    refine wpAny_bind (wpAny_holding (tuple_end_hot (x1 := x1) ⟨hh, o1, vs1, hg, d1, c1⟩ hx1 hit₁ ht₁ (by simp) fun h₂ he₂ => ?_))
    simp only [Option.isSome_none, Bool.false_eq_true, if_false]
    refine wpAny_pure (hQ h₂ fun b o hb e => he₂ b o hb (hs₁.extBut b o hb (Heap.get?_push_of_some _ e)))
theorem assign_Tuple_tupleH {env : Env} {elts : List Expr} {k1} {pos : Pos} {x1 t : Addr} {items : Array Value} {Q : Unit → Shared → Prop} (hot : HotAt A x1 s.heap) (ht : IsTup s.heap t items)
    (hn : (assignEach elts env).length = items.size) (hstar : (assignEach elts env).findIdx? (·.1) = none)
    (h : ∀ h', Heap.ExtBut s.heap.objs.size s.heap h' → wpAny (model prog w) A (assignInOrder ((assignEach elts env).map (·.2)) items.toList) Q E { s with heap := h' }) :
    wpAny (model prog w) A (assign (.Tuple elts k1 pos) env (.ref t)) Q E s := by
  rw [assign_Tuple]
  refine wpAny_bind (wpAny_standAt ?_)
  unfold unpack
  rw [hn, hstar]
  exact wpAny_bind (wpAny_holding (unpackItems_tupleH hot ht h))
end
section
variable {X : Cx}
theorem ps_parH {i j : Nat} {x y : Str} {a b : Expr} {ta : TA} {px py pt pos : Pos} {kt k2 pt2} (hc : HotC X) (hN : X.N.Nodup) (hi : X.N[i]? = some x) (hj : X.N[j]? = some y) (hij : i ≠ j)
    (hx : X.env.scope.names.lookup x = some .local) (hy : X.env.scope.names.lookup y = some .local) (ha : PA X [a, b] ta)
    (hw : swappedStores [.Tuple [.Name x px, .Name y py] kt pt] (.Tuple [a, b] k2 pt2) X.env = pure (some [x, y]))
    (hs : swapsWithSole [.Tuple [.Name x px, .Name y py] kt pt] (.Tuple [a, b] k2 pt2) pos.line X.env = pure false := by rfl) :
    PS X (.Assign [.Tuple [.Name x px, .Name y py] kt pt] (.Tuple [a, b] k2 pt2) pos) (tPar i j ta) := by
  refine ⟨fun pins s σ H D I h => ?_⟩
  rw [exec_Assign_arm]
  refine wpAny_bind (wpAny_standAt ?_)
  rw [hs]
  refine wpAny_bind (wpAny_pure ?_)
  rw [if_neg (by decide)]
  refine wpAny_bind (Tuple_ (thn (ha.run _ pins s σ H _ I h) fun us s1 ⟨vs, H1, I1, r1, q1⟩ => ?_))
  obtain ⟨v, w, e1, q1⟩ := q1
  subst e1
  obtain ⟨u1, u2, rfl, rv, rw'⟩ : ∃ u1 u2, us = [u1, u2] ∧ RelV v u1 ∧ RelV w u2 := by
    cases r1 with
    | cons p q =>
      cases q with
      | cons p' q' =>
        cases q'
        exact ⟨_, _, rfl, p, p'⟩
  refine wpAny_newObj_type ?_ (by show 2 ≤ sizeLine; decide)
  have I2 : Inv X pins σ H1 { s1 with heap := s1.heap.push { cls := .type "tuple", data := .seq [u1, u2].toArray } } := I1.kept (t' := s1.toks) fun b o e => Heap.get?_push_of_some _ e
  rw [hw]
  refine wpAny_bind (wpAny_pure ?_)
  obtain ⟨x1, hot⟩ := hc.at I2
  show wpAny (model X.prog X.w) X.A (do rule "assign.swapped-stores"; let items ← unpackItems (.ref s1.heap.objs.size) 2 none; assignInOrder [fun v => bindName X.env y v, fun v => bindName X.env x v] items.reverse; pure Flow.next) _ _ _
  refine wpAny_bind (wpAny_rule (wpAny_bind (unpackItems_tupleH (items := #[u1, u2]) hot (IsTup.new s1.heap _) fun h' hx' => ?_)))
  have I3 := I2.kept (h' := h') (t' := s1.toks) fun b o e => hx' b o (Nat.ne_of_lt (Heap.lt_size e)) e
  show wpAny _ _ (assignInOrder [fun v => bindName X.env y v, fun v => bindName X.env x v] [u2, u1] >>= fun _ => pure Flow.next) _ _ _
  refine wpAny_bind (assignInOrder_cons (wpAny_bindName (store_ok I3 hN hj (.inl hy) rw' (fun s2 I4 => ?_) (.inr hy))))
  refine assignInOrder_cons (wpAny_bindName (store_ok I4 hN hi (.inl hx) rv (fun s3 I5 => assignInOrder_nil (wpAny_pure ?_)) (.inr hx)))
  rw [List.set_comm _ _ (Ne.symm hij)] at I5
  exact ⟨_, H1, I5, q1⟩
end
end Hk

/-! Own exceptions made where nothing is handled, with their context known to be None; defs that raise such ones. -/
namespace Hk
open PySem PySem.Spec PyProof.Rows L2
theorem pmk_oexN {X : Cx} {CX : CXT} {x : Str} {e : Expr} {es : List Expr} {ta : TA} {p pos : Pos} {C fI : Addr} {k : Nat} {fd : FuncData} {ps : List Str} {sp : Sp} (T : OexC X.K C) (iC : PySem.W.findIn X.K (.ref C) "__init__" = some (some (.ref fI))) (tI : PySem.W.typeIn X.K (.ref fI) = some (.type "function"))
    (F1 : FnOk X.prog X.w X.K X.mg X.base CX k fI fd ps sp) (hr : Room (k + 1) X.A) (hb : Binds X.K fd ps []) (hx : Passes CX X (fun _ _ _ => False)) (hg : Gl X x) (hm : X.mg x = some (.ref C)) (ha : PA X (e :: es) ta)
    (hdb : (x == ("__debug__" : Str)) = false := by decide) (he : starEach (e :: es) X.env = (false, eval e X.env) :: starEach es X.env := by rfl) (hpl : (backTo pos (starEach es X.env)).any (·.1) = false := by rfl) :
    L2N.PMk X (.Call (.Name x p) (e :: es) [] pos) (tMkO C sp [] ta) := by
  intro pins s σ H Q I h
  obtain ⟨nm, q, N, bs, bm, sn, sub, ab, col, dd, k0, k1, k2, k3, k5, hC, hbm⟩ := T.cls
  refine wpAny_Call_Name_kw (ld_glob I hg hm ?_ hdb)
  refine PySem.W.callWith_K (h₀ := X.base) I.ok.mod.kin T.kC (thn (ha.run pos pins s σ H _ I h) fun us s1 ⟨vs, H1, I1, r1, hz, q1⟩ => ⟨I1.kIn, ?_⟩) he hpl
  show wpAny _ _ (call (.ref C) us) _ _ _
  obtain ⟨hp, g, dr, tk, os⟩ := s1
  have hsz : hp.objs.size ≤ hp.objs.size + 1 := Nat.le_succ _
  have hq := q1 (hp.objs.size + 1) (I1.hok.fresh hsz)
  rw [List.append_nil] at hq
  have kk : ∀ b o, hp.get? b = some o → ((hp.push (PySem.W.kdv_tup us)).push (PySem.HandSPX.excO C hp.objs.size)).get? b = some o := fun b o e => Heap.get?_push_of_some _ (Heap.get?_push_of_some _ e)
  have hget : ((hp.push (PySem.W.kdv_tup us)).push (PySem.HandSPX.excO C hp.objs.size)).get? (hp.objs.size + 1) = some (PySem.HandSPX.excO C hp.objs.size) := by heap_get
  have I2 : Inv X pins σ (upd H1 (hp.objs.size + 1) (exo (hp.objs.size + 1) C none)) ⟨(hp.push (PySem.W.kdv_tup us)).push (PySem.HandSPX.excO C hp.objs.size), g, dr, tk, os⟩ :=
    I1.laid (t' := tk) (a := hp.objs.size + 1) (o := exo (hp.objs.size + 1) C none) kk hsz (exo_ok hget)
  have r2 : Vals (V.ref (hp.objs.size + 1) :: vs) (Value.ref (hp.objs.size + 1) :: us) := .cons rfl r1
  have hl : (Value.ref (hp.objs.size + 1) :: us ++ []).length = ps.length := by
    rw [List.append_nil, ← r2.length, F1.len _ _ _ _ hq]
  have hus : us.length ≤ sizeLine := by
    rw [← Paired.length r1, sizeLine_eq]
    omega
  have b2 := hb _ (Value.ref (hp.objs.size + 1) :: us) I2.kIn hl
  rw [List.append_nil] at b2
  refine wpAny_call (PySem.HandSPX.call_own F.excBase_ValueError (fun Y => PySem.HandSPX.refsVE_contains Y bm hbm) (I1.kIn _ _ hC) (PySem.W.looks_findIn I1.kIn iC) (fun self => PySem.W.bind_fn I1.kIn self tI) hus
    (codeAny_mono (F1.run _ X.stack _ _ ⟨Value.ref (hp.objs.size + 1) :: us, []⟩ (Value.ref (hp.objs.size + 1) :: us) _ _ (fun _ _ _ => False) (hr.make C us []) (I2.env0.make C us []) b2 r2 hq) fun r s' hq' => ?_))
  cases r with
  | error er => exact hx pins σ _ _ er s' I2 hq'
  | ok fl =>
    cases fl with
    | ret u =>
      obtain ⟨v, H2, os2, bare2, un2, hok2, rv, ev, d, fs, ea, ed, hd1, q2⟩ := hq'
      subst ev
      obtain ⟨h2, g2, d2, t2, os'⟩ := s'
      obtain ⟨t0, G, J, kG, ge, hoe, na⟩ := mk_end0 (d2 := d2) (t2 := t2) I1 hsz kk un2 hok2 os2 bare2 ea ed hd1
      refine ⟨rv, ⟨hp.objs.size + 1, _, _, ⟨G, g2, d2, t2, os'⟩, _, .ref C, some d, rfl, J, kG, ge, hoe, ⟨rfl, rfl, fun vs hv => ?_⟩, rfl, rfl, na, rfl, bare2, raises_own T.exC T.tyC, q2⟩⟩
      cases hv
      rfl
    | next => exact False.elim hq'
    | brk => exact False.elim hq'
    | cont => exact False.elim hq'
/-! ### defs that raise (context None) -/
section
variable {P : Program} {w : World} {K : Fr} {mg : Str → Option Value} {base : Heap}
def CalN (P : Program) (w : World) (K : Fr) (mg : Str → Option Value) (base : Heap) (k : Nat) (x : Str) (ad : Addr) (ps : List Str) (sp : Sp) : Prop :=
  ∃ fd : FuncData, FnOk P w K mg base (L2N.CX P w) k ad fd ps sp ∧ Binds K fd ps [] ∧ PySem.W.keepIn K (.ref ad) = true ∧ mg x = some (.ref ad)
theorem pe_cn {X : Cx} {k : Nat} {x : Str} {ad : Addr} {ps : List Str} {sp : Sp} {W : WX} {e : Expr} {es : List Expr} {t : TA} {p pos : Pos} (c : CalN X.prog X.w X.K X.mg X.base k x ad ps sp) (tk : L2N.Takes X W) (hr : Room k X.A) (ha : PA X (e :: es) t) (hg : Gl X x := by rfl)
    (hdb : (x == ("__debug__" : Str)) = false := by decide) (he : starEach (e :: es) X.env = (false, eval e X.env) :: starEach es X.env := by rfl) (hpl : (backTo pos (starEach es X.env)).any (·.1) = false := by rfl) :
    PE X (.Call (.Name x p) (e :: es) [] pos) (tCallS sp (WE W) t) := by
  obtain ⟨fd, F, b, kp, m⟩ := c
  exact pe_callS F hr hg m kp b (fun σ => L2N.passAt tk σ) ha hdb he hpl
abbrev BodyN (P : Program) (w : World) (K : Fr) (mg : Str → Option Value) (base : Heap) (k : Nat) (d : Dx) (N ps : List Str) (sp : Sp) : Prop :=
  ∀ (cdv : Value) (A : Around) (outer : List Env) (s : Shared) (H : Hp) (vs : List V) (Q : VK) (E : XK), Room k (A.deeper (envOfC d.ql (defScope d.st) s.heap.objs.size (d.ad K) cdv)) → sp vs H Q E →
      ∃ t, PSs (cxOf (L2N.CX P w) P w K mg base N d.ql (defScope d.st) (d.ad K) cdv A outer s H E) (defBody d.st) t ∧ t { nx := fun _ H' => Q .non H', rt := Q } (start N vs) H
theorem okn_of {k : Nat} {d : Dx} {N ps : List Str} {sp : Sp} {fd : FuncData} (D : DAt K d fd) (S : FnScope N ps (defScope d.st)) (len : ∀ vs H Q E, sp vs H Q E → vs.length = ps.length) (hb : BodyN P w K mg base k d N ps sp) :
    FnOk P w K mg base (L2N.CX P w) (k + 1) (d.ad K) fd ps sp := FunD.ok D S len hb
end
end Hk

/-! A static method that may raise, called off its class by keyword or by position. -/
namespace Hk
open PySem PySem.Spec PyProof.Rows L2
def tStatKX (C : Addr) (sp : Sp) (E : L2.St → XK) (ta : TE) (tk : TA) : TE := fun σ H Q => ta σ H fun x H1 => x = .ref C ∧ tk σ H1 fun vs H2 => sp vs H2 Q (E σ)
section
variable {X : Cx} {CX : CXT} {E : L2.St → XK} {k : Nat} {C p g : Addr} {mc : Value} {m : Str} {fd : FuncData} {ps : List Str} {sp : Sp} {o : Expr} {kws : List Keyword} {e : Expr} {es : List Expr} {ta : TE} {tk : TA} {pos apos : Pos} {pl : Sem Bool}
theorem pe_statKX (he : PE X o ta) (S : Stat X.K C mc m p g) (F : FnOk X.prog X.w X.K X.mg X.base CX k g fd ps sp) (hr : Room k X.A) (hx : ∀ σ, PassesAt CX X σ (E σ))
    (hbk : ∀ (s : Shared) (ws : List Value), X.K.In s.heap → ws.length = ps.length → BindsTo s fd ⟨[], ps.zip ws⟩ (ps.zip ws)) (hk : PK X kws tk)
    (hall : (backToKw pos (keywordEach kws X.env)).all (·.1.isSome) = true := by rfl) (hks : (backToKw pos (keywordEach kws X.env)).filterMap (·.1) = ps := by rfl)
    (hpl : ((backTo pos (starEach [] X.env)).any (·.1) || (backToKw pos (keywordEach kws X.env)).any (·.1.isNone)) = false := by rfl)
    (ht : eval (.Call (.Attribute o m apos) [] kws pos) X.env = (do
      let ov ← eval o X.env
      standAt apos.atName
      let (f, first) ← holding [ov] (getMethod ov m pl)
      callWith pos f first (backTo pos (starEach [] X.env)) (backToKw pos (keywordEach kws X.env))) := by rfl) :
    PE X (.Call (.Attribute o m apos) [] kws pos) (tStatKX C sp E ta tk) := by
  refine ⟨fun pins s σ H Q I h => PySem.W.methodCall_KW (pl := pl) (thn (he.run pins s σ H _ I h) fun u s1 hu => ?_) ht⟩
  obtain ⟨x, H1, I1, rx, ex, q⟩ := hu
  subst ex
  obtain rfl : u = Value.ref C := rx
  obtain ⟨rest, hp⟩ := S.rc
  refine PySem.W.method_cls I1.kIn S.rd.ga (PySem.W.cls_bind I1.kIn S.rd.rd S.at_ (wpAny_call (PySem.W.sm_get (s := { s1 with toks := s1.toks + 1 }) I1.kIn hp (PySem.W.handed_on rfl ?_))))
  refine PySem.W.callWith_KW0 (h₀ := X.base) I1.ok.mod.kin S.kp hall (thn (hk.run pos pins _ σ H1 _ (I1.tok _) q) fun ws s2 hw => ?_) hpl
  obtain ⟨vs, H2, I2, rv, q2⟩ := hw
  have ln : ws.length = ps.length := rv.length.symm.trans (F.len _ _ _ _ q2)
  refine ⟨I2.kIn, ?_⟩
  rw [hks]
  refine wpAny_call (codeAny_mono (F.run X.A X.stack s2 H2 ⟨[], ps.zip ws⟩ ws vs Q (E σ) hr I2.env0 (hbk s2 ws I2.kIn ln) rv q2) fun z s' hq => ?_)
  rcases z with er | fl
  · exact hx σ pins H2 s2 er s' I2 hq
  · cases fl with
    | ret u => exact I2.after hq
    | _ => exact (show False from hq).elim
theorem pe_statP (he : PE X o ta) (S : Stat X.K C mc m p g) (F : FnOk X.prog X.w X.K X.mg X.base CX k g fd ps sp) (hr : Room k X.A) (hx : ∀ σ, PassesAt CX X σ (E σ))
    (hb : Binds X.K fd ps []) (ha : PA X (e :: es) tk)
    (hst : starEach (e :: es) X.env = (false, eval e X.env) :: starEach es X.env := by rfl) (hpl : (backTo pos (starEach es X.env)).any (·.1) = false := by rfl)
    (ht : eval (.Call (.Attribute o m apos) (e :: es) [] pos) X.env = (do
      let ov ← eval o X.env
      standAt apos.atName
      let (f, first) ← holding [ov] (getMethod ov m pl)
      callWith pos f first (backTo pos (starEach (e :: es) X.env)) (backToKw pos (keywordEach [] X.env))) := by rfl) :
    PE X (.Call (.Attribute o m apos) (e :: es) [] pos) (tStatKX C sp E ta tk) := by
  refine ⟨fun pins s σ H Q I h => PySem.W.methodCall_KW (pl := pl) (thn (he.run pins s σ H _ I h) fun u s1 hu => ?_) ht⟩
  obtain ⟨x, H1, I1, rx, ex, q⟩ := hu
  subst ex
  obtain rfl : u = Value.ref C := rx
  obtain ⟨rest, hp⟩ := S.rc
  refine PySem.W.method_cls I1.kIn S.rd.ga (PySem.W.cls_bind I1.kIn S.rd.rd S.at_ (wpAny_call (PySem.W.sm_get (s := { s1 with toks := s1.toks + 1 }) I1.kIn hp (PySem.W.handed_on rfl ?_))))
  refine PySem.W.callWith_K (h₀ := X.base) I1.ok.mod.kin S.kp (thn (ha.run pos pins _ σ H1 _ (I1.tok _) q) fun us s2 ⟨vs, H2, I2, r, q2⟩ => ⟨I2.kIn, ?_⟩) hst hpl
  exact run_fnS F hr hb (hx σ) I2 r q2
end
end Hk

/-! Own exceptions with one field: their __init__, raised where nothing is handled. -/
namespace Hk
open PySem PySem.Spec PyProof.Rows L2
theorem iteNSn {c A B : Prop} [Decidable c] (hc : ¬ c) (h : A) : if (!decide c) = true then A else B := by
  rw [decide_eq_false hc]
  exact iteT h
/-- __init__(self, f): self.f = f -/
def spXin (C : Addr) (f : Str) : Sp := fun vs H Q _ => ∃ (a : Addr) (y : V), vs = [.ref a, y] ∧ H a = some (exo a C none) ∧ ∀ dx, H dx = none → dx ≠ a → Q .non (upd (upd H dx (exd dx [(f, y)])) a (exo a C (some dx)))
theorem xin_mk {C : Addr} {f : Str} {H1 : Hp} {y : V} {Q : XK} (k : ∀ d, H1 d = none → Q (.ref C) (some d) (upd H1 d (.xd [(f, y)]))) : [y].length ≤ 1000 ∧ ∀ a, H1 a = none → spXin C f (.ref a :: ([y] ++ [])) (upd H1 a (exo a C none))
    (fun v H2 => v = .non ∧ ∃ (d : Addr) (fs : List (Str × V)), H2 a = some (exo a C (some d)) ∧ H2 d = some (exd d fs) ∧ H1 d = none ∧ Q (.ref C) (some d) (upd (del H2 a) d (.xd fs))) (fun _ _ _ => False) := by
  refine ⟨by show 1 ≤ 1000; decide, fun a na => ⟨a, y, rfl, upd_same, fun dx nd ne => ⟨rfl, dx, [(f, y)], upd_same, ?_, ?_, ?_⟩⟩⟩
  · rw [upd_ne ne, upd_same]
  · rw [upd_ne ne] at nd
    exact nd
  · have n1 : H1 dx = none := by
      rw [upd_ne ne] at nd
      exact nd
    have e : upd (del (upd (upd (upd H1 a (exo a C none)) dx (exd dx [(f, y)])) a (exo a C (some dx))) a) dx (.xd [(f, y)]) = upd H1 dx (.xd [(f, y)]) := by
      funext b
      by_cases h1 : b = dx
      · rw [h1, upd_same, upd_same]
      · rw [upd_ne h1, upd_ne h1]
        by_cases h2 : b = a
        · rw [h2, del_same, na]
        · rw [del_ne h2, upd_ne h2, upd_ne h1, upd_ne h2]
    rw [e]
    exact k dx n1
section
variable {P : Program} {w : World} {K : Fr} {mg : Str → Option Value} {base : Heap}
/-- a class over ValueError with one field -/
structure XrC (P : Program) (w : World) (K : Fr) (mg : Str → Option Value) (base : Heap) (x f : Str) : Prop where
  c : OexC K (He.ga K x)
  iC : PySem.W.findIn K (.ref (He.ga K x)) "__init__" = some (some (.ref (mAd x "__init__" K)))
  tI : PySem.W.typeIn K (.ref (mAd x "__init__" K)) = some (.type "function")
  m : mg x = some (.ref (He.ga K x))
  fn : ∃ fd, FnOk P w K mg base CX0 1 (mAd x "__init__" K) fd [("self" : Str), f] (spXin (He.ga K x) f) ∧ Binds K fd [("self" : Str), f] []
theorem xin_ok {d : Dx} {x f : Str} {fd : FuncData} (D : DAt K d fd) (S : FnScope [("self" : Str), f] [("self" : Str), f] (defScope d.st)) (T : OexC K (He.ga K x)) (hn : PySem.W.findIn K (.ref (He.ga K x)) f = some none)
    (hb : ∀ (cdv : Value) (A : Around) (outer : List Env) (s : Shared) (H : Hp) (E : XK), PSs (cxOf CX0 P w K mg base [("self" : Str), f] d.ql (defScope d.st) (d.ad K) cdv A outer s H E).nox (defBody d.st) (tSeq (tOst K f (tVar 0) (tVar 1)) tNext)) :
    FnOk P w K mg base CX0 1 (d.ad K) fd [("self" : Str), f] (spXin (He.ga K x) f) := by
  refine ok_of (N := [("self" : Str), f]) D S (fun vs H Q E h => ?_) (fun cdv A outer s H vs Q E hr h => ?_)
  · obtain ⟨a, y, rfl, _⟩ := h
    rfl
  · obtain ⟨a, y, rfl, ha, k⟩ := h
    exact ⟨_, hb cdv A outer s H E, y, rfl, .ref a, rfl, a, _, rfl, T, hn, .inl ⟨ha, fun dx n ne => k dx n ne⟩⟩
end
/-- raise C(e); at the end: xin_mk -/
def tRz (C : Addr) (f : Str) (W : WX) (ta : TA) : TS := fun _ σ H => tMkO C (spXin C f) [] ta σ H fun cls d H' => W cls d σ H'
section
variable {X : Cx} {x f : Str} {e : Expr} {es : List Expr} {ta : TA} {p pos pos' : Pos} {W : WX}
theorem ps_rz (c : XrC X.prog X.w X.K X.mg X.base x f) (hr : Room 2 X.A) (hg : Gl X x) (tk : L2N.Takes X W) (ha : PA X (e :: es) ta) (hc : X.calm = true := by rfl)
    (hdb : (x == ("__debug__" : Str)) = false := by decide) (he : starEach (e :: es) X.env = (false, eval e X.env) :: starEach es X.env := by rfl) (hpl : (backTo pos (starEach es X.env)).any (·.1) = false := by rfl) :
    PS X (.Raise (some (.Call (.Name x p) (e :: es) [] pos)) none pos') (tRz (He.ga X.K x) f W ta) := by
  obtain ⟨fd, F, b⟩ := c.fn
  exact L2N.ps_raise hc tk (pmk_oexN c.c c.iC c.tI F hr b pass0 hg c.m ha hdb he hpl)
end
end Hk

/-! repr of data wherever there is room; one of two rules. -/
namespace Hk
open PySem PySem.Spec PyProof.Rows L2 HotX L2H
section
variable {X : Cx}
theorem callr_or {f : Value} {r1 r2 : List V → Hp → VK → Prop} (h1 : CallR X f r1) (h2 : CallR X f r2) : CallR X f (fun xs H Q => r1 xs H Q ∨ r2 xs H Q) := by
  intro pins s σ H xs us Q I r h
  rcases h with h | h
  · exact h1 pins s σ H xs us Q I r h
  · exact h2 pins s σ H xs us Q I r h
theorem call_reprDU (hc : Calm X.A) (hu : X.A.units + 200 < cLine) : CallR X (.builtin "repr") (rRepr X.K) := by
  intro pins s σ H xs us Q I r h
  obtain ⟨x, d, rfl, hd, hs, hdp, hz, q⟩ := h
  obtain ⟨u, rfl, ru⟩ := r.one
  cases hd with
  | non =>
    cases ru
    rw [PyData.shown_none] at q
    exact PySem.P.repr_of_none ⟨.str _, H, I.tok _, ⟨_, rfl⟩, q⟩
  | bl b =>
    cases ru
    rw [PyData.shown_bool] at q
    refine PySem.P.repr_of_bool ⟨.str _, H, I.tok _, ⟨_, rfl⟩, ?_⟩
    cases b <;> exact q
  | int i =>
    obtain ⟨t, rfl⟩ := ru
    rw [PyData.shown_int] at q
    refine PySem.P.repr_of_int ?_ ⟨.str _, H, I.tok _, ⟨_, rfl⟩, q⟩
    simpa [PyData.showable] using hs
  | str y =>
    obtain ⟨t, rfl⟩ := ru
    rw [PyData.shown_str] at q hz
    exact PySem.P.repr_of_str ⟨.str _, H, I.tok _, ⟨_, rfl⟩, q⟩ hz
  | @lst a ys ds h1 h2 =>
    have e : u = Value.ref a := ru
    subst e
    have nd := Dp.noDict _ _ (Dp.lst h1 h2)
    obtain ⟨as, hr'⟩ := Dp.reads I (.list ds) _ _ (Dp.lst h1 h2) rfl
    refine PySem.repr_of_reads' hr' hs (fun z => by rw [nd] at z; exact nomatch z) hc ?_ (fun b o z => z) (fun h' u tk kp => ⟨.str _, H, I.kept kp, ⟨_, rfl⟩, q⟩) hz
    omega
  | @tup a ys ds h1 h2 =>
    have e : u = Value.ref a := ru
    subst e
    have nd := Dp.noDict _ _ (Dp.tup h1 h2)
    obtain ⟨as, hr'⟩ := Dp.reads I (.tuple ds) _ _ (Dp.tup h1 h2) rfl
    refine PySem.repr_of_reads' hr' hs (fun z => by rw [nd] at z; exact nomatch z) hc ?_ (fun b o z => z) (fun h' u tk kp => ⟨.str _, H, I.kept kp, ⟨_, rfl⟩, q⟩) hz
    omega
/-- repr of data or of an own instance -/
def rRp (K : Fr) (C : Addr) (sp : Sp) : List V → Hp → VK → Prop := fun xs H Q => rRepr K xs H Q ∨ rText C sp xs H Q
theorem takesN0 (X : Cx) : L2N.Takes X (fun _ _ _ _ => False) := fun _ _ ⟨_, _, _, _, _, _, _, _, _, _, _, _, _, _, _, _, w⟩ => w.elim
theorem hotC_suite {a : Addr} {oe : Obj} {cls : Value} {d : Option Addr} {pn : List (Addr × Obj)} (hz : L2N.Zn cls d oe) (hf : ∃ vs, oe.data = .fields vs) : HotC (X.suite a ((a, oe) :: pn)) := by
  obtain ⟨vs, hv⟩ := hf
  exact hotC_n (p := (a, oe)) ⟨rfl, vs, hv, hz.2.2 vs hv⟩ List.mem_cons_self
end
end Hk

/-! A try with clauses `except HEAD as n`, HEAD a class or a tuple of classes; contexts None. -/
namespace Hk
open PySem PySem.Spec PyProof.Rows L2 HotX L2H
theorem flying_keep {B h h' : Heap} {l : List Env} {e : Addr} {Z : Obj → Prop} (x : PySem.HandSPX.FlyingZ B l e Z h) (k : ∀ b o, h.get? b = some o → h'.get? b = some o) : PySem.HandSPX.FlyingZ B l e Z h' := by
  obtain ⟨x1, x2, x3, oe, vs, T, oT, ts, he, hz, hd, h1, hnT, hTe, hT, hdT, h3⟩ := x
  exact ⟨fun b o q => k b o (x1 b o q), x2, Heap.FunFrames.of_keeps (fun b o q _ => ⟨o, k b o q, rfl⟩) x3, oe, vs, T, oT, ts, k _ _ he, hz, hd, h1, hnT, hTe, k _ _ hT, hdT, h3⟩
/-- what a head answers of the class of what flies -/
def HeadIs (X : Cx) (te : Expr) (m : Value → Option Bool) : Prop :=
  ∀ (a : Addr) (oe : Obj) (pn : List (Addr × Obj)) (σ : L2.St) (H : Hp) (s : Shared) (b : Bool) (Q : Bool → Shared → Prop) (E : Value → Shared → Prop), Inv (X.suite a ((a, oe) :: pn)) [] σ H s → s.heap.get? a = some oe → m oe.cls = some b →
    (∀ (h' : Heap) (t' : Nat), (∀ b o, s.heap.get? b = some o → h'.get? b = some o) → Q b { s with heap := h', toks := t' }) →
    wpAny (model X.prog X.w) (X.A.mark (some (.ref a))) (eval te X.env) (fun c s1 => wpAny (model X.prog X.w) (X.A.mark (some (.ref a))) (excMatches (.ref a) c) Q E s1) E s
section
variable {X : Cx}
theorem head_name {x : Str} {c : Value} {np : Pos} (hc : Names X x c) : HeadIs X (.Name x np) (fun cls => PySem.W.exmOne X.K cls c) := by
  intro a oe pn σ H s b Q E I he hm q
  have LT : PySem.W.Looks (model X.prog X.w) s.heap (typeOf (.ref a)) oe.cls := fun A Q E s k q => wpAny_typeOf_ref (k _ _ he) q
  have LM := PySem.W.exm_one (M := model X.prog X.w) I.kIn LT hm
  have go : wpAny (model X.prog X.w) (X.A.mark (some (.ref a))) (excMatches (.ref a) c) Q E s := LM.here (q s.heap s.toks fun _ _ z => z)
  obtain ⟨hg, hdbg, hm' | ⟨hm', hv, hnn⟩⟩ := hc
  · exact ld_glob (X := X.suite a ((a, oe) :: pn)) I hg hm' go hdbg
  · exact ld_blt (X := X.suite a ((a, oe) :: pn)) I hg hm' hv go hnn hdbg
inductive HdsA (X : Cx) : List ExceptHandler → List ((Value → Option Bool) × Nat × (Addr → Value → Option Addr → TS)) → Prop
  | nil : HdsA X [] []
  | cons {te : Expr} {m : Value → Option Bool} {n : Str} {i : Nat} {ts : Addr → Value → Option Addr → TS} {b₀ : Stmt} {suite : List Stmt} {pos' : Pos} {hds : List ExceptHandler} {l : List ((Value → Option Bool) × Nat × (Addr → Value → Option Addr → TS))}
      (hd : HeadIs X te m) (hi : X.N[i]? = some n) (hln : X.env.kindOf n = some .local)
      (hsu : ∀ (a : Addr) (oe : Obj) (cls : Value) (d : Option Addr) (pn : List (Addr × Obj)), L2N.Zn cls d oe → (∃ vs, oe.data = .fields vs) → PSs (X.suite a ((a, oe) :: pn)) (b₀ :: suite) (ts a cls d)) (r : HdsA X hds l) :
      HdsA X (.ExceptHandler (some te) (some n) (b₀ :: suite) pos' :: hds) ((m, i, ts) :: l)
/-- what the clauses wish of an exception of the body -/
def wManyA (Wout : WX) (D : Ends) : List ((Value → Option Bool) × Nat × (Addr → Value → Option Addr → TS)) → WX
  | [] => Wout
  | (m, i, ts) :: r => fun cls d σ H => ∃ b, m cls = some b ∧ (b = true → ∀ a, H a = none → ts a cls d { nx := fun σ' H' => D.nx (σ'.set i none) H', rt := D.rt, bk := fun σ' H' => D.bk (σ'.set i none) H', ct := fun σ' H' => D.ct (σ'.set i none) H' } (σ.set i (some (.ref a))) H) ∧
      (b = false → wManyA Wout D r cls d σ H)
end
section
variable {X : Cx} {body : List Stmt} {h₀ : ExceptHandler} {hds : List ExceptHandler} {l : List ((Value → Option Bool) × Nat × (Addr → Value → Option Addr → TS))} {pos : Pos} {tb : WX → TS} {Wout : WX}
theorem ps_try_A (hs : X.stack = X.env :: X.outer) (hf : X.env.frame = some X.env.locals) (hN : X.N.Nodup) (tk : L2N.Takes X Wout)
    (hb : ∀ (W : WX) (pn : List (Addr × Obj)) (xe : Value → Shared → Prop), L2N.Takes (X.tr pn xe) W → PassesOwn (model X.prog X.w) X.A X.env xe → PSs (X.tr pn xe) body (tb W))
    (hh : HdsA X (h₀ :: hds) l) : PS X (.Try body (h₀ :: hds) [] [] pos) (fun D σ H => tb (wManyA Wout D l) D σ H) := by
  refine ⟨fun pins s σ H D I h => ?_⟩
  have ok := I.ok
  have hfr : X.A.frames = some (X.env :: X.outer) := by rw [ok.frames, hs]
  refine wpAny_Try_except ?_
  refine wpAny_mono ((hb (wManyA Wout D l) (X.pn ++ pins) (fun e s₁ => wpAny (model X.prog X.w) X.A (noteFrame e X.env) (fun _ s₂ => wpAny (model X.prog X.w) X.A (setFlight e none) (fun _ s₃ =>
    wpAny (model X.prog X.w) X.A (handleBy e X.env (h₀ :: hds)) (SP X pins D) X.xe s₃) X.xe s₂) X.xe s₁) (fun u s' xx => ?_) PassesOwn.looking).run [] s σ H D (I.toTry _) h) (fun f s1 hsp => ?_) (fun e s1 he => he)
  · obtain ⟨a, B, sI, pins', σ', H', cls, d, rfl, J', nb, up, sky, na, os, ag, w⟩ := xx
    have J : Inv X pins σ' H' sI := J'.ofTry ok
    have sky' : L2.Sky B (X.env :: X.outer) a (L2N.Zn cls d) X.env.locals s'.heap := by rw [← hs]; exact sky
    show wpAny (model X.prog X.w) X.A (noteFrame (.ref a) X.env) _ _ _
    refine L2N.Sky.land L2N.Zn.steady hfr hf sky' fun h3 fl3 up3 => ?_
    have notFr : ∀ {h : Heap} {o : Obj} {vs : Array Value}, h.FunFrames B (X.env :: X.outer) → h.get? a = some o → o.data = .fields vs → a ∉ frs (X.env :: X.outer) := fun {h o vs} ff e dd hm => by
      obtain ⟨_, o', e', hnf⟩ := ff.mem hm
      rw [e] at e'; cases e'
      exact hnf _ dd
    obtain ⟨oe3, vs3, he3, hz3, hd3⟩ := fl3.there
    have nfr := notFr fl3.2.2.1 he3 hd3
    have nL : a ≠ X.env.locals := fun z => nfr (List.mem_filterMap.mpr ⟨X.env, List.mem_cons_self, by rw [hf, z]⟩)
    have nF : a ∉ X.fs := fun hm => by
      obtain ⟨e, he, q⟩ := List.mem_filterMap.mp hm
      exact nfr (List.mem_filterMap.mpr ⟨e, List.mem_cons_of_mem _ he, q⟩)
    have go : ∀ {hds' : List ExceptHandler} {l' : List ((Value → Option Bool) × Nat × (Addr → Value → Option Addr → TS))}, HdsA X hds' l' → ∀ (hp : Heap) (tk' : Nat), PySem.HandSPX.FlyingZ B (X.env :: X.outer) a (L2N.Zn cls d) hp → s'.heap.UpToSlots hp → wManyA Wout D l' cls d σ' H' →
        wpAny (model X.prog X.w) X.A (handleBy (.ref a) X.env hds') (SP X pins D) X.xe { s' with heap := hp, toks := tk' } := by
      intro hds' l' hk
      induction hk with
      | nil =>
        intro hp tk' fl uph w
        refine wpAny_handleBy_nil ?_
        obtain ⟨k1, k2, k3, oe, vs, T, oT, ts', he, hz, hd, h1, hr⟩ := id fl
        unfold PySem.passOn
        refine wpAny_bind (wpAny_field he hd h1 ?_)
        rw [if_neg (show ¬ ((Value.ref T == Value.none) = true) from by simp)]
        have fin : wpAny (model X.prog X.w) X.A (setFlight (.ref a) X.env.frame) (fun _ s4 => wpAny (model X.prog X.w) X.A (throw (.ref a) : Sem Flow) (SP X pins D) X.xe s4) X.xe { s' with heap := hp, toks := tk' } := by
          rw [hf]
          refine HandSPX.setFlight_upZ (s := { s' with heap := hp, toks := tk' }) fl fun h4 hh4 up4 => wpAny_throw (tk _ _ ?_)
          exact ⟨a, B, sI, pins, σ', H', cls, d, rfl, J, nb, (up.trans uph).trans up4, .inr (.inr (by rw [hs]; exact hh4)), na, os, ag, w⟩
        first
          | exact wpAny_bind (wpAny_pure (wpAny_bind fin))
          | exact wpAny_bind fin
      | @cons te m n i ts b₀ suite pos' hds2 l2 hd hi hln hsu r ih =>
        intro hp tk' fl uph w
        obtain ⟨b, hb1, hyes, hno⟩ := w
        obtain ⟨oe5, vs5, he5, hz5, hd5⟩ := fl.there
        have J5 : Inv X pins σ' H' { s' with heap := hp, toks := tk' } := J.landed nb fl.1 (up.trans uph) os ag
        have S5 := J5.suite he5 hd5 na nL nF
        have hloc : Loc X.env.scope n := .inl hln
        refine wpAny_handleBy_cons (codeAny_handlers_test ?_) (by intro q; cases q)
        refine hd a oe5 (X.pn ++ pins) σ' H' _ b _ _ S5 he5 (by rw [hz5.1]; exact hb1) fun h6 t6 k6 => ?_
        have fl6 := flying_keep fl k6
        have up6 : s'.heap.UpToSlots h6 := uph.trans (Heap.UpToSlots.of_keeps k6)
        cases b with
        | true =>
          refine codeAny_handlers_suite_as ?_
          refine HandSPX.lands_againZ (s := { s' with heap := h6, toks := t6 }) fl6 fun h4 fl4 up4 => ?_
          have J4 : Inv X pins σ' H' { s' with heap := h4, toks := t6 } := J.landed nb fl4.1 ((up.trans up6).trans up4) os ag
          obtain ⟨oe4, vs4, he4, hz4, hd4⟩ := fl4.there
          have S4 := J4.suite he4 hd4 na nL nF
          refine store_ok (X := X.suite a ((a, oe4) :: (X.pn ++ pins))) (v := .ref a) S4 hN hi hloc rfl (fun s5 S5 => ?_) (.inr hln)
          refine wpAny_mono ((hsu a oe4 cls d (X.pn ++ pins) hz4 ⟨_, hd4⟩).run [] s5 _ H' _ S5 (hyes rfl a na)) (fun f s6 hsp => ?_) (fun _ _ z => False.elim z)
          have end_ : ∀ {σ6 : L2.St} {H6 : Hp} {Q : Shared → Prop}, Inv (X.suite a ((a, oe4) :: (X.pn ++ pins))) [] σ6 H6 s6 → (∀ s7, Inv X pins (σ6.set i none) H6 s7 → Q s7) →
              wpAny (model X.prog X.w) X.A (do bindName X.env n .none; unbindBehindTheSuite X.env n pos') (fun _ s7 => Q s7) X.xe s6 := fun {σ6 H6 Q} S6 hq => gone_ok (S6.unsuite ok) hN hi hln hq
          cases f with
          | next =>
            obtain ⟨σ6, H6, S6, q6⟩ := hsp
            exact end_ S6 fun s7 J7 => ⟨_, _, J7, q6⟩
          | brk =>
            obtain ⟨σ6, H6, S6, q6⟩ := hsp
            exact end_ S6 fun s7 J7 => ⟨_, _, J7, q6⟩
          | cont =>
            obtain ⟨σ6, H6, S6, q6⟩ := hsp
            exact end_ S6 fun s7 J7 => ⟨_, _, J7, q6⟩
          | ret u =>
            obtain ⟨v6, σ6, H6, S6, r6, q6⟩ := hsp
            exact end_ S6 fun s7 J7 => ⟨_, _, _, J7, r6, q6⟩
        | false =>
          show wpAny _ X.A (handleBy (.ref a) X.env hds2) _ _ _
          exact ih h6 t6 fl6 up6 (hno rfl)
    exact go hh h3 s'.toks fl3 up3 w
  · cases f with
    | next =>
      obtain ⟨σ', H', J', q⟩ := hsp
      exact wpAny_execs_nil ⟨σ', H', J'.ofTry ok, q⟩
    | brk =>
      obtain ⟨σ', H', J', q⟩ := hsp
      exact ⟨σ', H', J'.ofTry ok, q⟩
    | cont =>
      obtain ⟨σ', H', J', q⟩ := hsp
      exact ⟨σ', H', J'.ofTry ok, q⟩
    | ret u =>
      obtain ⟨v, σ', H', J', r, q⟩ := hsp
      exact ⟨v, σ', H', J'.ofTry ok, r, q⟩
end
end Hk

/-! A lambda without parameters given to a def of the law; what it lets out has the context None. Built on HandS.Lambda's readings. -/
namespace Hk
open PySem PySem.Spec PyProof.Rows L2 LamX
/-- the context of the lambda's body, its exceptions told by L2N -/
def lamCxN (X : Cx) (A : Around) (outer : List Env) (s : Shared) (H : Hp) (E : XK) (scope : Scope) (f c' : Addr) : Cx :=
  (lamCx X A outer s H E scope f c').wish fun e s' => wpAny (model X.prog X.w) (A.deeper (lamEnv X scope s.heap.objs.size f c')) (leaving (lamEnv X scope s.heap.objs.size f c') e) (fun _ s'' => L2N.CX X.prog X.w outer H s E e s'') (fun e' s'' => L2N.CX X.prog X.w outer H s E e' s'') s'
theorem takes_lam {X : Cx} {A : Around} {outer : List Env} {s : Shared} {H : Hp} {E : XK} {scope : Scope} {f c' : Addr} : L2N.Takes (lamCxN X A outer s H E scope f c') (fun cls d _ H => E cls d H) := L2N.takes_of rfl rfl rfl rfl
section
variable {X : Cx} {pins : List (Addr × Obj)} {σ : L2.St} {H : Hp} {s : Shared}
theorem pe_actN {CXg : CXT} {Eg : XK} {Ng : List Str} {qg : Str} {sg : Scope} {g f c' : Addr} {cdg pm ctv : Value} {params : Arguments} {body : Expr} {scope : Scope} {k i : Nat} {a : Str} {pn : List (Addr × Obj)} {xe : Value → Shared → Prop} {W : WX} {E : XK} {tb : TE} {p1 p2 : Pos}
    (I : Inv X pins σ H s) (L : LamS X.env.scope scope) (hf : s.heap.get? f = some (PySem.W.kla_obj "<lambda>" (X.env.qual ++ "<lambda>") params body scope (cloFrom X.env.cells scope.names []) pm c' ctv)) (hfn : H f = none) (hfr : f ∉ frs X.stack)
    (hbind : bindArgs (PySem.W.kla_fn "<lambda>" (X.env.qual ++ "<lambda>") params body scope (cloFrom X.env.cells scope.names []) pm (.ref c') ctv) ⟨[], []⟩ = pure [])
    (tk : L2N.Takes ((cxOf CXg X.prog X.w X.K X.mg X.base Ng qg sg g cdg X.A X.stack s H Eg).tr pn xe) W) (hW : ∀ cls d (σ' : L2.St) H', σ'.length = Ng.length → E cls d H' → W cls d σ' H') (hr : Room (k + 1) (X.A.deeper (envOfC qg sg s.heap.objs.size g cdg)))
    (hbody : ∀ (A : Around) (outer : List Env) (s : Shared) (H : Hp), Room k (A.deeper (lamEnv X scope s.heap.objs.size f c')) → PE (lamCxN X A outer s H E scope f c') body tb)
    (hN : Ng[i]? = some a) (hv : Vis sg a) (hd : (a == ("__debug__" : Str)) = false := by decide) (hcd : (a == ("__classdict__" : Str)) = false := by decide) :
    PE ((cxOf CXg X.prog X.w X.K X.mg X.base Ng qg sg g cdg X.A X.stack s H Eg).tr pn xe) (.Call (.Name a p1) [] [] p2)
      (fun σZ HZ Q => σZ[i]? = some (some (.ref f)) ∧ HZ c' = some (CodeO c' (X.env.qual ++ "<lambda>")) ∧ tb σ HZ Q) := by
  refine ⟨fun pinsZ sZ σZ HZ Q IZ h => ?_⟩
  obtain ⟨hs, hc, ht⟩ := h
  refine wpAny_Call_Name_kw (thn ((pe_var (pos := p1) (i := i) hN hv hd hcd).run pinsZ sZ σZ HZ (fun v H1 => v = .ref f ∧ H1 = HZ) IZ ⟨.ref f, hs, rfl, rfl⟩) fun u s1 ⟨v, H1, I1, r1, q1⟩ => ?_)
  obtain ⟨ev, eH⟩ := q1
  subst ev
  rw [eH] at I1
  obtain rfl : u = Value.ref f := r1
  have of1 := I1.base.keep f _ hf hfn hfr (fun z => nomatch (show f ∈ ([] : List Addr) from z))
  refine PySem.W.callWith_F0 ⟨_, _, _, _, of1⟩ ?_
  have un : Un (frs X.stack) [] H HZ s.heap s1.heap := I1.base
  obtain ⟨⟨oc, vs, t, hoc, hdc, hvc⟩, _, _⟩ := I1.hok c' _ hc
  have rc : codeAny (model X.prog X.w) (X.A.deeper (envOfC qg sg s.heap.objs.size g cdg)) (.call (.ref f) ⟨[], []⟩) (CR (L2N.CX X.prog X.w) (envOfC qg sg s.heap.objs.size g cdg :: X.stack) X.prog X.w HZ s1 Q E) s1 := by
    refine PySem.W.kla_callFunE hr.depth of1 rfl L.co L.gen rfl ⟨c', oc, vs, t, rfl, hoc, hdc, hvc⟩ ?_
    rw [hbind]
    refine wpAny_pure (wpAny_newFunctionEnv (fun y hy => (L.own y hy).2) (fun y hy => absurd hy (by simp)) (fun h₁ hns hsb => ⟨I1.nolimit.fresh _ hsb, ?_⟩) L.kind)
    show codeAny _ _ (.expr body (lamEnv X scope s1.heap.objs.size f c')) _ _
    have kp : ∀ b o, s1.heap.get? b = some o → h₁.get? b = some o := fun b o e => hsb.extBut b o (Nat.ne_of_lt (Heap.lt_size e)) (Heap.get?_push_of_some _ e)
    have J := (lam_start2 (E := E) (c' := c') (f := f) (tk := s1.toks + ([] : List (Str × Value)).length) I L I1.env0 hr.hd un hns kp).wish (fun e s' => wpAny (model X.prog X.w) ((X.A.deeper (envOfC qg sg s.heap.objs.size g cdg)).deeper (lamEnv X scope s1.heap.objs.size f c')) (leaving (lamEnv X scope s1.heap.objs.size f c') e) (fun _ s'' => L2N.CX X.prog X.w (envOfC qg sg s.heap.objs.size g cdg :: X.stack) HZ s1 E e s'') (fun e' s'' => L2N.CX X.prog X.w (envOfC qg sg s.heap.objs.size g cdg :: X.stack) HZ s1 E e' s'') s')
    refine PySem.W.kla_codeExpr (wpAny_mono ((hbody _ _ s1 HZ (hr.deeper _)).run [] _ _ HZ Q J ht) (fun v s' hq => ?_) fun e s' hq => hq)
    obtain ⟨w', H', J', rv, q⟩ := hq
    exact ⟨w', H', J'.os, J'.bare, J'.base, J'.hok, rv, q⟩
  have hx : ∀ (e : Value) (s' : Shared), L2N.CX X.prog X.w (envOfC qg sg s.heap.objs.size g cdg :: X.stack) HZ s1 E e s' → ((cxOf CXg X.prog X.w X.K X.mg X.base Ng qg sg g cdg X.A X.stack s H Eg).tr pn xe).xe e s' :=
    fun e s' c => tk e s' (L2N.XE.of_call I1 (fun cls d H' h => hW cls d σZ H' I1.len h) c)
  refine wpAny_call (codeAny_mono rc fun r s' hq => ?_)
  cases r with
  | error e => exact hx e s' hq
  | ok fl =>
    cases fl with
    | ret u => exact I1.after hq
    | next => exact False.elim hq
    | brk => exact False.elim hq
    | cont => exact False.elim hq
/-- the def that calls what it got, nothing let out -/
def GivesN (k : Nat) (X : Cx) (Ng : List Str) (x : Str) (sg : Scope) (g : Addr) (cdg : Value) (bg : List Stmt) (a : Str) (q : Str) (TT : (XK → Hp → VK → Prop) → Hp → VK → Prop) : Prop :=
  ∀ (f c' : Addr) (s : Shared) (H : Hp) (Q : VK) (tl : XK → Hp → VK → Prop),
    (∀ (W : WX) (pn : List (Addr × Obj)) (xe : Value → Shared → Prop) (E : XK) (p1 p2 : Pos), L2N.Takes ((cxOf CX0 X.prog X.w X.K X.mg X.base Ng x sg g cdg X.A X.stack s H E0).tr pn xe) W → (∀ cls d (σ' : L2.St) H', σ'.length = Ng.length → E cls d H' → W cls d σ' H') →
      PE ((cxOf CX0 X.prog X.w X.K X.mg X.base Ng x sg g cdg X.A X.stack s H E0).tr pn xe) (.Call (.Name a p1) [] [] p2) (fun σZ HZ Q => σZ[0]? = some (some (.ref f)) ∧ HZ c' = some (CodeO c' q) ∧ tl E HZ Q)) →
    Room (k + 1) (X.A.deeper (envOfC x sg s.heap.objs.size g cdg)) → H c' = some (CodeO c' q) → TT tl H Q →
    ∃ t, PSs (cxOf CX0 X.prog X.w X.K X.mg X.base Ng x sg g cdg X.A X.stack s H E0).nox bg t ∧ t { nx := fun _ H' => Q .non H', rt := Q } (L2.start Ng [.ref f]) H
/-- x(lambda: body) -/
theorem pe_lamN {T : List (Addr × Str)} {TT : (XK → Hp → VK → Prop) → Hp → VK → Prop} {x a : Str} {d : Dx} {fd : FuncData} {c P : Addr} {k : Nat} {Ng : List Str}
    {params : Arguments} {body : Expr} {scope : Scope} {t : XK → TE} {p lpos pos : Pos} (hg : Gl X x) (hm : X.mg x = some (.ref (d.ad X.K))) (D : DAt X.K d fd) (hv : d.df = []) (hq : d.ql = x) (hb : Binds X.K fd [a] []) (Sg : FnScope Ng [a] (defScope d.st)) (hNg : Ng[0]? = some a) (hva : Vis (defScope d.st) a)
    (hG : ∀ cdv : Value, GivesN k X Ng d.ql (defScope d.st) (d.ad X.K) cdv (defBody d.st) a (X.env.qual ++ "<lambda>") TT)
    (TB : TabB X.base X.mg c P) (hcode : X.env.code = .ref c) (hmT : (P, X.env.qual ++ "<lambda>") ∈ T) (hu : ∀ p ∈ T, p.1 = P → p.2 = X.env.qual ++ "<lambda>") (hr : Room (k + 2) X.A) (L : LamS X.env.scope scope) (hdef : defaultsOf params X.env = ([], []))
    (hbind : ∀ (q : Str) (cl : List (Str × Addr)) (pm cv ctv : Value), bindArgs (PySem.W.kla_fn "<lambda>" q params body scope cl pm cv ctv) ⟨[], []⟩ = pure [])
    (hbody : ∀ (A : Around) (outer : List Env) (s : Shared) (H : Hp) (E : XK) (f c' : Addr), Room k (A.deeper (lamEnv X scope s.heap.objs.size f c')) → PE (lamCxN X A outer s H E scope f c') body (t E))
    (hdb : (x == ("__debug__" : Str)) = false := by decide) (hd : (a == ("__debug__" : Str)) = false := by decide) (hcd : (a == ("__classdict__" : Str)) = false := by decide) :
    PE X (.Call (.Name x p) [.Lambda params body scope lpos] [] pos) (tLam T TT t) := by
  refine ⟨fun pins s σ H Q I h => ?_⟩
  obtain ⟨hT, h⟩ := h
  refine wpAny_Call_Name_kw (ld_glob I hg hm ?_ hdb)
  refine PySem.W.callWith_K (h₀ := X.base) I.ok.mod.kin D.kp ?_ (by rfl) (by rfl)
  show wpAny _ _ (spliced ((false, eval (.Lambda params body scope lpos) X.env) :: backTo pos (starEach [] X.env))) _ _ s
  refine Calls.spliced_cons (lam_make2 I TB hcode hmT hu hT hdef (L.has I.ok) fun f c' pm' ctv H1 s' I1 eN T1 hf hfn hfr hco => ?_)
  refine Calls.spliced_nil ⟨I1.kIn, ?_⟩
  obtain ⟨oc, od, dV, kV, doc, pm, an, cdv, ct, osl, rfl, lk, hcd', _, _⟩ := D.ex
  have rc : codeAny (model X.prog X.w) X.A (.call (.ref (d.ad X.K)) ⟨[.ref f], []⟩) (CR CX0 X.stack X.prog X.w H1 s' Q E0) s' := by
    refine run_ofS (N := Ng) (ps := [a]) (us := [.ref f]) (vs := [.ref f]) lk hcd' Sg hr I1.env0 (hb s' [.ref f] I1.kIn rfl) (.cons rfl .nil) rfl fun hr' => ?_
    obtain ⟨t', ht', hq'⟩ := hG cdv f c' s' H1 Q (fun E H' Q' => t E σ H' Q') (fun W pn xe E p1 p2 tk hW => pe_actN (i := 0) I1 L hf hfn hfr (hbind _ _ _ _ _) tk hW hr' (fun A outer s H hr2 => hbody A outer s H E f c' hr2) hNg hva hd hcd) hr' hco (h H1 eN T1)
    exact ⟨t', ht'.nox, hq'⟩
  refine wpAny_call (codeAny_mono rc fun r s2 hq => ?_)
  cases r with
  | error e => exact (show False from hq).elim
  | ok fl =>
    cases fl with
    | ret u => exact I1.after hq
    | next => exact False.elim hq
    | brk => exact False.elim hq
    | cont => exact False.elim hq
end
end Hk

/-! The law's end as in Hg, where the law makes lambdas: the tables of its code objects are tracked, too. -/
namespace Hk
open PySem PySem.Spec PyProof.Rows L2 LamX
section
variable {P : Program} {w : World} {K : Fr} {s : Shared} {a : Addr} {vs : List Value} {xs : List V}
/-- the script alone -/
theorem script_heap (KX : K.In s.heap) (hobj : s.heap.get? a = some { cls := .type "list", data := .seq vs.toArray }) (rv : Vals xs vs) (sz : vs.length ≤ sizeLine) (szn : xs.length ≤ sizeLine) :
    ∃ H : Hp, Only H ∧ SqL K H a xs ∧ HOk P w H s.heap ∧ (∀ b, H b ≠ none → b = a) ∧ (H a ≠ none → K.lookup a = none) := by
  cases hk : K.lookup a with
  | some ob =>
    have e := KX a ob hk
    rw [hobj] at e
    cases e
    refine ⟨fun _ => none, fun _ => .inl rfl, .inr ⟨_, vs.toArray, _, hk, rfl, rfl, rfl, ?_, ?_⟩, fun b u z => (nomatch z), fun b z => absurd rfl z, fun z => absurd rfl z⟩
    · rw [List.size_toArray]
      exact sz
    · simpa using rv
  | none =>
    have at_ : ∀ {b : Addr} {u : HO}, (if b = a then some (HO.frz { cls := .type "list", data := .seq vs.toArray } (.lst xs)) else none) = some u → b = a ∧ u = HO.frz { cls := .type "list", data := .seq vs.toArray } (.lst xs) := fun {b u} z => by
      by_cases hb : b = a
      · rw [if_pos hb] at z
        exact ⟨hb, (Option.some.inj z).symm⟩
      · rw [if_neg hb] at z
        exact nomatch z
    refine ⟨fun b => if b = a then some (.frz { cls := .type "list", data := .seq vs.toArray } (.lst xs)) else none, fun b => ?_, .inl (.inr ⟨_, if_pos rfl⟩), fun b u z => ?_, fun b z => ?_, fun _ => rfl⟩
    · by_cases hb : b = a
      · exact .inr ⟨_, _, if_pos hb⟩
      · exact .inl (if_neg hb)
    · obtain ⟨e1, e2⟩ := at_ z
      subst e1 e2
      exact ⟨hobj, szn, vs, _, rv, hobj⟩
    · by_cases hb : b = a
      · exact hb
      · exact absurd (if_neg hb) z
end
/-- H0, and an empty table at each of ts -/
def withTabs (H0 : Hp) (ts : List Addr) : Hp := fun b => if b ∈ ts then some (.tbl #[]) else H0 b
theorem wt_in {H0 : Hp} {ts : List Addr} {b : Addr} (h : b ∈ ts) : withTabs H0 ts b = some (.tbl #[]) := if_pos h
theorem wt_out {H0 : Hp} {ts : List Addr} {b : Addr} (h : b ∉ ts) : withTabs H0 ts b = H0 b := if_neg h
abbrev tab0 : Obj := { cls := .none, data := .fields #[] }
theorem end_gT {l : PySem.W.OpenLaw} {q : Program} {loose : List Str} {XP : (Str → Option Value) → Heap → Prop} {YP : World → Heap → Prop} {d : DefRec} {k : Nat} {x : Str} (hn : l.most = some 63) (hdf : d.params.defaults = []) (hr : Room k callerA)
    (F : ∀ (w : World) (mg : Str → Option Value) (fa : Addr) (h : Heap), YP w h → h.Ns mainGlobals mg → mg d.name = some (.ref fa) →
      ∃ (K : Fr) (fd : FuncData) (cs : List (Addr × Addr)) (sp : Sp), K.In h ∧ (∀ p ∈ cs, h.get? p.2 = some tab0) ∧ (∀ p ∈ cs, K.lookup p.2 = none) ∧ (∀ p ∈ cs, PySem.W.CodeHd h p.1 p.2) ∧
        (∀ (s : Shared) (u : Value), BindsTo s fd ⟨[u], []⟩ [(x, u)]) ∧
        (∀ (H : Hp) (a : Addr) (ns : List Int), ns.length ≤ 63 → (∀ n ∈ ns, Builtin.Int.intBits n ≤ 1048576) → (∀ p ∈ cs, H p.2 = some (.tbl #[])) → SqL K H a (ns.map V.int) → sp [.ref a] H (fun v _ => v = .bl true) E0) ∧
        ∀ base : Heap, K.In base → base.Ns mainGlobals mg → (∀ p ∈ cs, TabB base mg p.1 p.2) → FnG l.prog w K mg base k fa fd [x] sp) :
    PySem.W.WalkO q loose XP YP l.row.toRowW d [] (fun f vs => PySem.call f vs) := by
  refine Att.attach_callB hn hdf fun w s₀ s₁ mg mb fa o pm cd doc a vs ns G Y ho hd hcd hmg hobj hints hlen hbits hg => ?_
  obtain ⟨K, fd, cs, sp, KX, hT, nT, C, hbi, hsp, hF⟩ := F w mg fa _ Y G.T.g hmg
  have rv := vals_ints hints
  have sz : vs.length ≤ sizeLine := by
    have := hints.length
    have e : 63 ≤ sizeLine := by decide
    omega
  have szn : (ns.map V.int).length ≤ sizeLine := by
    rw [rv.length]
    exact sz
  obtain ⟨H0, hO, hS0, hok0, hA0, hK0⟩ := script_heap (P := l.prog) (w := w) KX hobj rv sz szn
  obtain ⟨ts, hts⟩ : ∃ ts, ts = cs.map (·.2) := ⟨_, rfl⟩
  have tIn : ∀ {p : Addr × Addr}, p ∈ cs → p.2 ∈ ts := fun {p} hp => by
    rw [hts]
    exact List.mem_map_of_mem hp
  have tOf : ∀ {b : Addr}, b ∈ ts → ∃ p ∈ cs, p.2 = b := fun {b} hb => by
    rw [hts] at hb
    exact List.mem_map.mp hb
  have tGet : ∀ {b : Addr}, b ∈ ts → s₁.heap.get? b = some tab0 := fun {b} hb => by
    obtain ⟨p, hp, rfl⟩ := tOf hb
    exact hT p hp
  have aOut : a ∉ ts := fun z => by
    have e := tGet z
    rw [hobj] at e
    exact nomatch congrArg Obj.data (Option.some.inj e)
  have hS : SqL K (withTabs H0 ts) a (ns.map V.int) := by
    have e := wt_out (H0 := H0) aOut
    rcases hS0 with (z | ⟨o1, z⟩) | z
    · exact .inl (.inl (e.trans z))
    · exact .inl (.inr ⟨o1, e.trans z⟩)
    · exact .inr z
  have hok : HOk l.prog w (withTabs H0 ts) s₁.heap := fun b u z => by
    by_cases hb : b ∈ ts
    · rw [wt_in hb] at z
      cases z
      exact tGet hb
    · rw [wt_out hb] at z
      rcases hO b with n | ⟨o1, ys, n⟩
      · rw [n] at z
        cases z
      · rw [n] at z
        cases z
        exact hok0 b _ n
  -- what is neither the script nor a table is not tracked
  have free : ∀ {b : Addr} {ob : Obj}, s₁.heap.get? b = some ob → ob ≠ { cls := .type "list", data := .seq vs.toArray } → ob ≠ tab0 → withTabs H0 ts b = none := fun {b ob} e n1 n2 => by
    by_cases hb : b ∈ ts
    · rw [tGet hb] at e
      exact absurd (Option.some.inj e).symm n2
    · rw [wt_out hb]
      cases z : H0 b with
      | none => rfl
      | some u =>
        have eb := hA0 b (by rw [z]; exact fun y => nomatch y)
        rw [eb, hobj] at e
        exact absurd (Option.some.inj e).symm n1
  have seen : ∀ {b : Addr} {ob : Obj}, s₁.heap.get? b = some ob → withTabs H0 ts b = none → (hidT s₁.heap (withTabs H0 ts)).get? b = some ob := fun e n => hidT_get e n
  have byData : ∀ {b : Addr} {ob : Obj}, s₁.heap.get? b = some ob → (∀ (v : Array Value) n, ob.data ≠ .seq v n) → ob.data ≠ .fields #[] → (hidT s₁.heap (withTabs H0 ts)).get? b = some ob := fun {b ob} e n1 n2 =>
    seen e (free e (fun z => n1 _ _ (congrArg Obj.data z)) fun z => n2 (congrArg Obj.data z))
  have ns_ : ∀ {b : Addr} {m : Str → Option Value}, s₁.heap.Ns b m → (hidT s₁.heap (withTabs H0 ts)).Ns b m := fun {b m} ⟨ob, es, ep, e, dd, r⟩ =>
    ⟨ob, es, ep, byData e (fun v n z => by rw [dd] at z; exact nomatch z) (fun z => by rw [dd] at z; exact nomatch z), dd, r⟩
  have K_ : K.In (hidT s₁.heap (withTabs H0 ts)) := fun b ob e => seen (KX b ob e) (by
    by_cases hb : b ∈ ts
    · obtain ⟨p, hp, rfl⟩ := tOf hb
      rw [nT p hp] at e
      cases e
    · rw [wt_out hb]
      cases z : H0 b with
      | none => rfl
      | some u =>
        have eb := hA0 b (by rw [z]; exact fun y => nomatch y)
        subst eb
        have := hK0 (by rw [z]; exact fun y => nomatch y)
        rw [this] at e
        cases e)
  have TB : ∀ p ∈ cs, TabB (hidT s₁.heap (withTabs H0 ts)) mg p.1 p.2 := fun p hp => by
    refine ⟨?_, ?_, fun z => ?_⟩
    · obtain ⟨oc, us, file, tf, flags, tg, inF, text, tt, e1, r1, r2, r3, rest⟩ := C p hp
      refine ⟨oc, us, file, tf, flags, tg, inF, text, tt, byData e1 (fun v n z => by rw [r2] at z; exact nomatch z) (fun z => ?_), r1, r2, r3, rest⟩
      rw [r2] at z
      cases z
      exact nomatch (show (none : Option Value) = _ from r3)
    · obtain ⟨bm, ob, b1, b2, b3, b4, b5, b6⟩ := G.T.bmain
      have other : ∀ {c : Addr} {oc : Obj}, s₁.heap.get? c = some oc → oc.data ≠ .plain → bm ≠ c := fun {c oc} e n z => by
        rw [z, e] at b3
        cases b3
        exact n b6
      obtain ⟨og, es, ep, eg, dg, _⟩ := G.T.g
      exact ⟨bm, ob, b1, b2, other eg (by rw [dg]; exact fun z => nomatch z), other (hT p hp) (fun z => nomatch z), byData b3 (fun v n z => by rw [b6] at z; exact nomatch z) (fun z => by rw [b6] at z; exact nomatch z), b4, b5, b6⟩
    · obtain ⟨og, es, ep, eg, dg, _⟩ := G.T.g
      have e := hT p hp
      rw [← z, eg] at e
      cases e
      exact nomatch dg
  obtain ⟨mc, l1, l2⟩ := G.T.nolimit
  have e0 : Env0 l.prog w K mg (hidT s₁.heap (withTabs H0 ts)) callerA [] s₁ (withTabs H0 ts) :=
    { frames := rfl, mod := ⟨K_, ns_ G.T.g, ⟨mb, ns_ G.T.b, G.T.builtins⟩, ⟨mc, ns_ l1, l2⟩⟩, bs := fun b ob e => of_hidT e, bsz := Nat.le_of_eq (hidT_size _ _), funs := trivial, frf := fun b hb => absurd hb (List.not_mem_nil), hok := hok, bare := .of_eq hg }
  refine codeAny_mono ((hF _ K_ (ns_ G.T.g) TB).run callerA [] s₁ (withTabs H0 ts) ⟨[.ref a], []⟩ [.ref a] [.ref a] (fun v _ => v = .bl true) hr rfl e0 (hbi s₁ (.ref a)) (.cons rfl .nil) (hsp _ a ns hlen hbits (fun p hp => wt_in (tIn hp)) hS)) fun r s' h => ?_
  cases r with
  | error e => exact (show False from h).elim
  | ok fl =>
    cases fl with
    | ret u =>
      obtain ⟨v, H', os, bare, un, hok', r', ev⟩ := h
      have ev' : v = .bl true := ev
      subst ev'
      cases r'
      have tab' : ∀ {b : Addr}, b ∈ ts → ∃ more : Array Value, s'.heap.get? b = some { cls := .none, data := .fields more } := fun {b} hb => by
        obtain ⟨more, z⟩ := un.tbls b #[] (wt_in hb)
        exact ⟨_, hok' b _ z⟩
      have keep : ∀ {b : Addr} {ob : Obj}, b ∉ ts → s₁.heap.get? b = some ob → s'.heap.get? b = some ob := fun {b ob} nb e => by
        rcases hO b with z | ⟨o1, ys, z⟩
        · exact un.keep b ob e (by rw [wt_out nb]; exact z) (List.not_mem_nil) (List.not_mem_nil)
        · have z1 : withTabs H0 ts b = some (.frz o1 (.lst ys)) := by rw [wt_out nb]; exact z
          obtain ⟨e1, _⟩ := hok b _ z1
          obtain ⟨e2, _⟩ := hok' b _ (un.frzs b o1 _ z1)
          rw [e] at e1
          cases e1
          exact e2
      refine ⟨rfl, ⟨fun b ob e => ?_, fun b ob e => ?_⟩, os, bare⟩
      · by_cases hb : b ∈ ts
        · obtain ⟨more, hm⟩ := tab' hb
          obtain ⟨p, hp, rfl⟩ := tOf hb
          rw [hT p hp] at e
          cases e
          exact .inr (.inl ⟨((C p hp).tab (hT p hp)).isCodeTable, rfl, #[], more, rfl, by rw [Array.empty_append]; exact hm⟩)
        · exact .inl (keep hb e)
      · by_cases hb : b ∈ ts
        · obtain ⟨more, hm⟩ := tab' hb
          exact ⟨_, hm⟩
        · exact ⟨ob, keep hb e⟩
    | _ => exact (show False from h).elim
end Hk

/-! A head that tells the tables of defs that make lambdas; the bodies of such defs. -/
namespace Hk
open PySem PySem.Spec PyProof.Rows L2 LamX
/-- a def's code object and its table -/
def cOf (d : Dx) (K : Fr) : Addr := match K.lookup (d.ad K) with
  | some ⟨_, _, .func g, _⟩ => (match g.code with | .ref c => c | _ => 0)
  | _ => 0
def pOf (d : Dx) (K : Fr) : Addr := He.tabOf K (cOf d K)
def tabOk (g : Addr → Option Obj) (K : Fr) (d : Dx) : Bool := PySem.W.codeHdIn K (cOf d K) (pOf d K) && (match g (pOf d K) with | some o => He.emptyTab o | none => false)
abbrev Al3 : Type := Al2 × Bool
def lookT0 (fa : List Tst) (fn ts : List Dx) (g : Addr → Option Obj) (K : Fr) : Al3 := (look fa fn K, ts.all fun d => tabOk g K d)
def lookT (n : Nat) (fa : List Tst) (fn ts : List Dx) (g : Addr → Option Obj) : Al3 := lookT0 fa fn ts g (He.frT g (cStatics :: He.asD g n))
/-- what such a head tells -/
structure SaysT (fa : List Tst) (fn ts : List Dx) (h : Heap) (K : Fr) : Prop where
  s : Says fa fn K
  hd : ∀ d ∈ ts, PySem.W.codeHdIn K (cOf d K) (pOf d K) = true
  out : ∀ d ∈ ts, K.lookup (pOf d K) = none
  empty : ∀ d ∈ ts, h.get? (pOf d K) = some tab0
theorem saysT_of {fa : List Tst} {fn ts : List Dx} {h : Heap} {n : Nat} (e : lookT n fa fn ts h.get? = (due fn, true)) : SaysT fa fn ts h (He.frT h.get? (cStatics :: He.asD h.get? n)) := by
  have e1 : look fa fn (He.frT h.get? (cStatics :: He.asD h.get? n)) = due fn := congrArg Prod.fst e
  have e2 : (ts.all fun d => tabOk h.get? (He.frT h.get? (cStatics :: He.asD h.get? n)) d) = true := congrArg Prod.snd e
  generalize hK : He.frT h.get? (cStatics :: He.asD h.get? n) = K at e1 e2 ⊢
  have key : ∀ d ∈ ts, PySem.W.codeHdIn K (cOf d K) (pOf d K) = true ∧ ∃ o, h.get? (pOf d K) = some o ∧ He.emptyTab o = true := fun d hd => by
    obtain ⟨h1, h2⟩ := He.ba (List.all_eq_true.mp e2 d hd)
    refine ⟨h1, ?_⟩
    cases q : h.get? (pOf d K) with
    | none =>
      rw [q] at h2
      exact nomatch h2
    | some o =>
      rw [q] at h2
      exact ⟨o, rfl, h2⟩
  refine ⟨e1, fun d hd => (key d hd).1, fun d hd => ?_, fun d hd => ?_⟩
  · obtain ⟨_, o, q, z⟩ := key d hd
    rw [← hK] at q ⊢
    exact He.frT_none q z
  · obtain ⟨_, o, q, z⟩ := key d hd
    rw [q, He.emptyTab_eq z]
def hookT (n : Nat) (fa : List Tst) (fn ts : List Dx) : PySem.W.Hook where
  α := Al3
  obs := fun s => lookT n fa fn ts s.heap.get?
  val := fun _ => (due fn, true)
  says := fun _ h => ∃ K : Fr, K.In h ∧ SaysT fa fn ts h K
  of := fun _ _ e => ⟨_, He.frT_in, saysT_of e⟩
  keeps := fun _ _ _ ⟨K, hK, c⟩ k => ⟨K, PySem.W.Frag.In.keeps hK k, ⟨c.s, c.hd, c.out, fun d hd => k _ _ (c.empty d hd)⟩⟩
theorem lookT_eq {n : Nat} {fa : List Tst} {fn ts : List Dx} {g : Addr → Option Obj} {s : Shared} (h : ∀ a, g a = s.heap.get? a) : lookT n fa fn ts g = (hookT n fa fn ts).obs s := by
  have e : g = s.heap.get? := funext h
  subst e
  rfl
/-- an exception's class without a def of its own -/
def tEx0 (x : Str) (bm : List Value) (n : String) : Tst := fun K => PySem.W.excIn K (He.ga K x) bm n && (PySem.W.keepIn K (.ref (He.ga K x)) && decide (PySem.W.typeIn K (.ref (He.ga K x)) = some (.type "type")))
/-! ### defs whose code object is known -/
section
variable {P : Program} {w : World} {K : Fr} {mg : Str → Option Value} {base : Heap}
theorem cOf_eq {d : Dx} {oc : Value} {od : Option Addr} {osl : Array (Option Value)} {g : FuncData} {q : Str} (lk : K.lookup (d.ad K) = some ⟨oc, od, .func g, osl⟩) (hc : PySem.W.codeIn K g.code q = true) : g.code = .ref (cOf d K) := by
  obtain ⟨c, e⟩ := He.codeIn_ref hc
  unfold cOf
  rw [lk]
  show g.code = .ref (match g.code with | .ref c => c | _ => 0)
  rw [e]
abbrev BodyGC (P : Program) (w : World) (K : Fr) (mg : Str → Option Value) (base : Heap) (k : Nat) (d : Dx) (N ps : List Str) (sp : Sp) : Prop :=
  ∀ (A : Around) (outer : List Env) (s : Shared) (H : Hp) (vs : List V) (Q : VK) (E : XK), Room k (A.deeper (envOfC d.ql (defScope d.st) s.heap.objs.size (d.ad K) (.ref (cOf d K)))) → Calm A → sp vs H Q E →
      ∃ t, PSs (cxOf CX0 P w K mg base N d.ql (defScope d.st) (d.ad K) (.ref (cOf d K)) A outer s H E).nox (defBody d.st) t ∧ t { nx := fun _ H' => Q .non H', rt := Q } (start N vs) H
theorem okg_c {k : Nat} {d : Dx} {N ps : List Str} {sp : Sp} {fd : FuncData} (D : DAt K d fd) (S : FnScope N ps (defScope d.st)) (len : ∀ vs H Q E, sp vs H Q E → vs.length = ps.length) (hb : BodyGC P w K mg base k d N ps sp) :
    FnG P w K mg base (k + 1) (d.ad K) fd ps sp := by
  obtain ⟨oc, od, dV, kV, doc, pm, an, cdv, ct, osl, rfl, lk, hcd, _, _⟩ := D.ex
  obtain rfl : cdv = .ref (cOf d K) := cOf_eq lk hcd
  refine ⟨len, fun A out s H args us vs Q hr hc e0 hbd r hsp => ?_⟩
  have old : ∀ b o, base.get? b = some o → s.heap.get? b = some o := fun b o z => (e0.bs b o z).1
  have KX : K.In s.heap := e0.mod.kin.keeps old
  have kd : ∀ y ∈ ps.zip us, (defScope d.st).names.lookup y.1 = some .local ∨ ((defScope d.st).names.lookup y.1 = some .cell ∧ ((cellsFrom (s.heap.objs.size + 1) (defScope d.st).names []).lookup y.1).isSome = true) := by
    rintro ⟨n, v⟩ hy
    have q := S.par n (List.of_mem_zip hy).1
    exact q.imp id fun q => ⟨q, PySem.W.cellsFrom_some _ _ _ (.inl q)⟩
  refine codeAny_call_function hr.depth (KX _ _ lk) rfl S.co S.gen rfl (PySem.W.codeRec_of KX hcd) (hbd _ _ _ _ ?_)
  refine wpAny_newFunctionEnv_cells S.kind kd fun env he s1 x => ?_
  subst he
  refine ⟨(e0.mod.nolimit.keeps old).keeps x.toInCall.keep, codeAny_func ?_⟩
  obtain ⟨t, ht, hq⟩ := hb A out s H vs Q E0 (hr.deeper _) hc hsp
  have I : Inv (cxOf CX0 P w K mg base N d.ql (defScope d.st) (d.ad K) (.ref (cOf d K)) A out s H E0) [] (start N vs) H s1 := inv_start S hr.hd e0 (len _ _ _ _ hsp) r x
  refine wpAny_mono (ht.nox.run [] s1 (start N vs) H _ I hq) (fun fl s' hs => ?_) fun e s' hs => hs
  cases fl with
  | next =>
    obtain ⟨σ', H', J, q⟩ := hs
    exact ⟨V.non, H', J.os, J.bare, J.base, J.hok, rfl, q⟩
  | ret u =>
    obtain ⟨v, σ', H', J, rv, q⟩ := hs
    exact ⟨v, H', J.os, J.bare, J.base, J.hok, rv, q⟩
  | brk =>
    obtain ⟨σ', H', J, q⟩ := hs
    exact False.elim q
  | cont =>
    obtain ⟨σ', H', J, q⟩ := hs
    exact False.elim q
theorem calg_c {k : Nat} {d : Dx} {N ps : List Str} {sp : Sp} {x : Str} (D : ∃ fd, DAt K d fd) (hv : d.df = []) (S : FnScope N ps (defScope d.st)) (hm : mg x = some (.ref (d.ad K)))
    (hbi : ∀ (kV doc pm : Value) (an : Option Addr) (cdv ct : Value) (us : List Value), us.length = ps.length → bindArgs (PySem.W.fnOf d.nm d.ql (defArgs d.st) (defBody d.st) (defScope d.st) .none kV doc pm an cdv ct) ⟨us, []⟩ = pure (ps.zip us))
    (len : ∀ vs H Q E, sp vs H Q E → vs.length = ps.length) (hb : BodyGC P w K mg base k d N ps sp) : CalG P w K mg base (k + 1) x (d.ad K) ps sp := by
  obtain ⟨fd, D⟩ := D
  have e : d.vs K = [] := by
    unfold Dx.vs
    rw [hv]
    rfl
  have D' : FunD K d.nm d.ql (defArgs d.st) (defBody d.st) (defScope d.st) [] [] (d.ad K) fd := by
    rw [← e]
    exact D
  exact ⟨fd, okg_c D S len hb, FunD.bindsN D' hbi, D.kp, hm⟩
end
end Hk

/-! Own classes above one another: a def of the class called off it, constants, properties, texts and comparisons of instances whatever their class is; max with a default. -/
namespace Hk
open PySem PySem.Spec PyProof.Rows L2
/-- m is a def of the class at C -/
structure Unb (K : Fr) (C : Addr) (mc : Value) (m : Str) (g : Addr) : Prop where
  rd : ClX.CRead K C mc
  at_ : PySem.W.findCls K (.ref C) mc m = some (.val (.ref g))
  kp : PySem.W.keepIn K (.ref g) = true
def tUnb (C : Addr) (sp : Sp) (ta : TE) (t : TA) : TE := fun σ H Q => ta σ H fun x H1 => x = .ref C ∧ t σ H1 fun vs H2 => sp (vs ++ []) H2 Q E0
section
variable {X : Cx} {k : Nat} {C g : Addr} {mc : Value} {m : Str} {fd : FuncData} {ps : List Str} {sp : Sp} {o e : Expr} {es : List Expr} {ta : TE} {t : TA} {pos apos : Pos} {pl : Sem Bool}
theorem pe_unb (he : PE X o ta) (U : Unb X.K C mc m g) (F : FnOk X.prog X.w X.K X.mg X.base CX0 k g fd ps sp) (hb : Binds X.K fd ps []) (hr : Room k X.A) (ha : PA X (e :: es) t)
    (hst : starEach (e :: es) X.env = (false, eval e X.env) :: starEach es X.env := by rfl) (hpl : (backTo pos (starEach es X.env)).any (·.1) = false := by rfl)
    (ht : eval (.Call (.Attribute o m apos) (e :: es) [] pos) X.env = (do
      let ov ← eval o X.env
      standAt apos.atName
      let (f, first) ← holding [ov] (getMethod ov m pl)
      callWith pos f first (backTo pos (starEach (e :: es) X.env)) (backToKw pos (keywordEach [] X.env))) := by rfl) :
    PE X (.Call (.Attribute o m apos) (e :: es) [] pos) (tUnb C sp ta t) := by
  refine ⟨fun pins s σ H Q I h => PySem.W.methodCall_KW (pl := pl) (thn (he.run pins s σ H _ I h) fun u s1 hu => ?_) ht⟩
  obtain ⟨x, H1, I1, rx, ex, q⟩ := hu
  subst ex
  obtain rfl : u = Value.ref C := rx
  refine PySem.W.method_cls I1.kIn U.rd.ga (PySem.W.cls_value I1.kIn U.rd.rd U.at_ rfl ?_)
  refine PySem.W.callWith_K (h₀ := X.base) I1.ok.mod.kin U.kp (thn (ha.run pos pins _ σ H1 _ (I1.tok _) q) fun us s2 ⟨vs, H2, I2, r, q2⟩ => ⟨I2.kIn, ?_⟩) hst hpl
  exact run_fn F hr hb .nil pass0 I2 r q2
end
/-! ### constants of the class read through an instance -/
structure ICon (K : Fr) (C : Addr) (f : Str) (v : V) : Prop where
  ex : ∃ u : Value, PySem.W.findIn K (.ref C) f = some (some u) ∧ PySem.W.specialIn K u "__get__" = some none ∧ RelV v u
  cp : PySem.W.copiedNames.contains f = false
def tICon (K : Fr) (ta : TE) (f : Str) : TE := fun σ H Q => ta σ H fun x H1 => ∃ (C a dx : Addr) (fs : List (Str × V)) (v : V), x = .ref a ∧ H1 a = some (.ins C dx fs) ∧ fs.lookup f = none ∧ Cls K C ∧ ICon K C f v ∧ Q v H1
/-- a property, whatever class the instance is of -/
def tPropA (K : Fr) (p g : Addr) (f : Str) (sp : Sp) (ta : TE) : TE := fun σ H Q => ta σ H fun x H1 => ∃ (C a dx : Addr) (fs : List (Str × V)), x = .ref a ∧ H1 a = some (.ins C dx fs) ∧ Cls K C ∧ PropOf K C f p g ∧ sp [.ref a] H1 Q E0
section
variable {X : Cx} {k : Nat} {p g : Addr} {f : Str} {fd : FuncData} {ps : List Str} {sp : Sp} {e : Expr} {ta : TE} {pos : Pos}
theorem pe_icon (he : PE X e ta) (hb : attributeBase e f X.env (eval e X.env) = eval e X.env := by rfl) : PE X (.Attribute e f pos) (tICon X.K ta f) := by
  refine ⟨fun pins s σ H Q I h => ?_⟩
  refine attr_of hb (thn (he.run pins s σ H _ I h) fun u s1 ⟨x, H1, I1, rx, C, a, dx, fs, v, ex, ea, l, c, k, q⟩ => ?_)
  subst ex
  obtain rfl : u = Value.ref a := rx
  obtain ⟨mA, O, r, _, _, _⟩ := ins_get I1.hok ea
  have hn : mA f = none := RelO.none_of (by rw [← l]; exact r f)
  obtain ⟨w, h1, h2, h3⟩ := k.ex
  exact get_const I1.kIn O (c.get f) c.hd h1 h2 k.cp hn (handed_of h3) ⟨v, H1, I1.tok _, h3, q⟩
theorem pe_propA (he : PE X e ta) (F : FnOk X.prog X.w X.K X.mg X.base CX0 k g fd ps sp) (hr : Room (k + 1) X.A) (hb : Binds X.K fd ps [])
    (hab : attributeBase e f X.env (eval e X.env) = eval e X.env := by rfl) : PE X (.Attribute e f pos) (tPropA X.K p g f sp ta) := by
  refine ⟨fun pins s σ H Q I h => ?_⟩
  refine attr_of hab (thn (he.run pins s σ H _ I h) fun u s1 ⟨x, H1, I1, rx, C, a, dx, fs, ex, ea, c, hp, q⟩ => ?_)
  subst ex
  obtain rfl : u = Value.ref a := rx
  exact getprop_ok I1 ea c hp F hr hb .nil pass0 q
end
/-! ### str, repr, ==, != of an instance by the defs of a class above -/
def rTextA (K : Fr) (m : Str) (f : Addr) (sp : Sp) : List V → Hp → VK → Prop := fun xs H Q => ∃ C, Own K C m f ∧ rText C sp xs H Q
def rEqA (K : Fr) (f : Addr) (sp : Sp) : R2 := fun x y H Q => ∃ C, Own K C "__eq__" f ∧ rEqO K C sp x y H Q
def rNeA (K : Fr) (f : Addr) (sp : Sp) : R2 := fun x y H Q => ∃ C, Own K C "__eq__" f ∧ NeOf K C ∧ rNeO K C sp x y H Q
section
variable {X : Cx} {k : Nat} {f : Addr} {fd : FuncData} {ps : List Str} {sp : Sp}
theorem call_strA (F : FnOk X.prog X.w X.K X.mg X.base CX0 k f fd ps sp) (hb : Binds X.K fd ps []) (hr : Room (k + 2) X.A) : CallR X (.type "str") (rTextA X.K "__str__" f sp) := by
  intro pins s σ H xs us Q I r h
  obtain ⟨C, O, h⟩ := h
  exact call_strO O F hb hr pins s σ H xs us Q I r h
theorem call_reprA (F : FnOk X.prog X.w X.K X.mg X.base CX0 k f fd ps sp) (hb : Binds X.K fd ps []) (hr : Room (k + 1) X.A) : CallR X (.builtin "repr") (rTextA X.K "__repr__" f sp) := by
  intro pins s σ H xs us Q I r h
  obtain ⟨C, O, h⟩ := h
  exact call_reprO O F hb hr pins s σ H xs us Q I r h
theorem op_eqA (F : FnOk X.prog X.w X.K X.mg X.base CX0 k f fd ps sp) (hb : Binds X.K fd ps []) (hr : Room k X.A) : OpR X (compareOp .Eq) (rEqA X.K f sp) := by
  intro pins s σ H x y v u Q I rx ry h
  obtain ⟨C, O, h⟩ := h
  exact op_eqO O F hb hr pins s σ H x y v u Q I rx ry h
theorem op_neA (F : FnOk X.prog X.w X.K X.mg X.base CX0 k f fd ps sp) (hb : Binds X.K fd ps []) (hr : Room (k + 1) X.A) : OpR X (compareOp .NotEq) (rNeA X.K f sp) := by
  intro pins s σ H x y v u Q I rx ry h
  obtain ⟨C, O, N, h⟩ := h
  exact op_neO O N F hb hr pins s σ H x y v u Q I rx ry h
end
/-! ### tests -/
def tAll (l : List Tst) : Tst := fun K => l.all fun f => f K
theorem tAll_at {l : List Tst} {K : Fr} (c : tAll l K = true) (i : Nat) {f : Tst} (h : l[i]? = some f := by rfl) : f K = true := List.all_eq_true.mp c f (List.mem_of_getElem? h)
def tUnbT (x m : Str) : Tst := fun K => PySem.W.readsIn K (He.ga K x) (.type "type") && (He.eqO (PySem.W.specialIn K (.ref (He.ga K x)) "__getattribute__") (some (some (.builtin "type.__getattribute__"))) &&
  ((match PySem.W.findCls K (.ref (He.ga K x)) (.type "type") m with | some (.val (.ref g)) => decide (g = mAd x m K) | _ => false) && PySem.W.keepIn K (.ref (mAd x m K))))
theorem unb_ok {K : Fr} {x m : Str} (c : tUnbT x m K = true) : Unb K (He.ga K x) (.type "type") m (mAd x m K) := by
  obtain ⟨c1, c⟩ := He.ba c
  obtain ⟨c2, c⟩ := He.ba c
  obtain ⟨c3, c4⟩ := He.ba c
  refine ⟨⟨c1, He.eqO_ok c2⟩, ?_, c4⟩
  split at c3
  · rename_i g e
    rw [e, of_decide_eq_true c3]
  · cases c3
def tIConT (x f z : Str) : Tst := fun K => (match PySem.W.findIn K (.ref (He.ga K x)) f with | some (some (.str y t)) => decide (y = z) && He.eqO (PySem.W.specialIn K (.str y t) "__get__") (some none) | _ => false) && !PySem.W.copiedNames.contains f
theorem icon_ok {K : Fr} {x f z : Str} (c : tIConT x f z K = true) : ICon K (He.ga K x) f (.str z) := by
  obtain ⟨c1, c2⟩ := He.ba c
  refine ⟨?_, Bool.not_eq_true' _ ▸ c2⟩
  split at c1
  · rename_i y t e
    obtain ⟨c3, c4⟩ := He.ba c1
    have ey := of_decide_eq_true c3
    subst ey
    exact ⟨_, e, He.eqO_ok c4, t, rfl⟩
  · cases c1
def tCConT (x f z : Str) : Tst := fun K => PySem.W.readsIn K (He.ga K x) (.type "type") && (He.eqO (PySem.W.specialIn K (.ref (He.ga K x)) "__getattribute__") (some (some (.builtin "type.__getattribute__"))) &&
  (match PySem.W.findCls K (.ref (He.ga K x)) (.type "type") f with | some (.val (.str y _)) => decide (y = z) | _ => false))
theorem ccon_ok {K : Fr} {x f z : Str} (c : tCConT x f z K = true) : ClX.CRead K (He.ga K x) (.type "type") ∧ ∃ u, ClX.CVal K (He.ga K x) (.type "type") f (.str z) u := by
  obtain ⟨c1, c⟩ := He.ba c
  obtain ⟨c2, c3⟩ := He.ba c
  refine ⟨⟨c1, He.eqO_ok c2⟩, ?_⟩
  split at c3
  · rename_i y t e
    have ey := of_decide_eq_true c3
    subst ey
    exact ⟨_, e, t, rfl⟩
  · cases c3
end Hk

/-! Tests for a class y below the class b. -/
namespace Hk
open PySem PySem.Spec PyProof.Rows L2
def tSame (y b f : Str) : Tst := fun K => decide (He.ma K (He.ga K y) f = He.ma K (He.ga K b) f)
def tSub (y b wd : Str) (fs ps ms : List Str) : Tst := tAll ([tCls y, tMkr y, tIns y, tNe y, tIConT y "WORD" wd, tCConT y "WORD" wd] ++ (fs.map (tNoat y) ++ (ps.map (tProp y) ++ (ps.map (tSame y b) ++ (ms.map (tMeth y) ++ ms.map (tSame y b))))))
def tKits (y : Str) (l : List (Str × Bool)) : Tst := tAll (l.map fun q => tKitO y q.1 q.2)
def tFsts (y : Str) (l : List Str) : Tst := tAll (l.map fun z => fun K => PySem.W.notFirst K (He.ga K y) (.ref (He.ga K z)))
def tFstT (y : Str) (l : List String) : Tst := tAll (l.map fun t => tFst y t)
theorem tAll_mem {l : List Tst} {K : Fr} (c : tAll l K = true) {f : Tst} (h : f ∈ l) : f K = true := List.all_eq_true.mp c f h
section
variable {y b wd : Str} {fs ps ms : List Str} {K : Fr} (c : tSub y b wd fs ps ms K = true)
include c
theorem sub_cls : Cls K (He.ga K y) := He.cls_ok (tAll_at c 0)
theorem sub_mkr : (He.Fa.mkr y).ok K = true := tAll_at c 1
theorem sub_ins : tIns y K = true := tAll_at c 2
theorem sub_ne : NeOf K (He.ga K y) := ne_ok (tAll_at c 3)
theorem sub_icon : ICon K (He.ga K y) "WORD" (.str wd) := icon_ok (tAll_at c 4)
theorem sub_ccon : ClX.CRead K (He.ga K y) (.type "type") ∧ ∃ u, ClX.CVal K (He.ga K y) (.type "type") "WORD" (.str wd) u := ccon_ok (tAll_at c 5)
theorem sub_noat {f : Str} (h : f ∈ fs) : NoAttr K (He.ga K y) f := He.noat_ok (tAll_mem c (List.mem_append_right _ (List.mem_append_left _ (List.mem_map.mpr ⟨f, h, rfl⟩))))
theorem sub_prop {f : Str} (h : f ∈ ps) : PropOf K (He.ga K y) f (He.ma K (He.ga K b) f) (getAd b f K) := by
  have c1 : tProp y f K = true := tAll_mem c (List.mem_append_right _ (List.mem_append_right _ (List.mem_append_left _ (List.mem_map.mpr ⟨f, h, rfl⟩))))
  have c2 : tSame y b f K = true := tAll_mem c (List.mem_append_right _ (List.mem_append_right _ (List.mem_append_right _ (List.mem_append_left _ (List.mem_map.mpr ⟨f, h, rfl⟩)))))
  have e := of_decide_eq_true c2
  have p := prop_ok c1
  unfold getAd at p ⊢
  rw [← e]
  exact p
theorem sub_own {m : Str} (h : m ∈ ms) : Own K (He.ga K y) m (mAd b m K) := by
  have c1 : tMeth y m K = true := tAll_mem c (List.mem_append_right _ (List.mem_append_right _ (List.mem_append_right _ (List.mem_append_right _ (List.mem_append_left _ (List.mem_map.mpr ⟨m, h, rfl⟩))))))
  have c2 : tSame y b m K = true := tAll_mem c (List.mem_append_right _ (List.mem_append_right _ (List.mem_append_right _ (List.mem_append_right _ (List.mem_append_right _ (List.mem_map.mpr ⟨m, h, rfl⟩))))))
  have e := of_decide_eq_true c2
  have p := own_ok c1
  unfold mAd at p ⊢
  rw [← e]
  exact p
end
theorem kitsO_ok {K : Fr} {y : Str} {l : List (Str × Bool)} (c : tKits y l K = true) {z : Str} {r : Bool} (h : (z, r) ∈ l) : PySem.W.kitOne K (.ref (He.ga K y)) (.ref (He.ga K z)) = some r :=
  of_decide_eq_true (show tKitO y z r K = true from tAll_mem c (List.mem_map.mpr ⟨(z, r), h, rfl⟩))
theorem fstsO_ok {K : Fr} {y : Str} {l : List Str} (c : tFsts y l K = true) {z : Str} (h : z ∈ l) : PySem.W.notFirst K (He.ga K y) (.ref (He.ga K z)) = true :=
  tAll_mem c (f := fun K => PySem.W.notFirst K (He.ga K y) (.ref (He.ga K z))) (List.mem_map.mpr ⟨z, h, rfl⟩)
theorem fstTO_ok {K : Fr} {y : Str} {l : List String} (c : tFstT y l K = true) {t : String} (h : t ∈ l) : PySem.W.notFirst K (He.ga K y) (.type t) = true :=
  tAll_mem c (f := tFst y t) (List.mem_map.mpr ⟨t, h, rfl⟩)
end Hk

/-! The hook with the written part's addresses given, and the whole run's equation out of several smaller ones. -/
namespace Hk
open PySem PySem.Spec PyProof.Rows L2
noncomputable abbrev kL (as : List Addr) (s : PySem.W.SharedT) : Fr := He.frG (HeadRun.getT s) (cStatics :: as)
def lookL (as : List Addr) (fa : List Tst) (fn : List Dx) (g : Addr → Option Obj) : Al2 := look fa fn (He.frG g (cStatics :: as))
def hookL (as : List Addr) (fa : List Tst) (fn : List Dx) : PySem.W.Hook where
  α := Al2
  obs := fun s => lookL as fa fn s.heap.get?
  val := fun _ => due fn
  says := fun _ h => ∃ K : Fr, K.In h ∧ Says fa fn K
  of := fun _ _ e => ⟨_, He.frG_in, e⟩
  keeps := fun _ _ _ ⟨K, hK, c⟩ k => ⟨K, PySem.W.Frag.In.keeps hK k, c⟩
theorem lookL_eq {as : List Addr} {fa : List Tst} {fn : List Dx} {g : Addr → Option Obj} {s : Shared} (h : ∀ a, g a = s.heap.get? a) : lookL as fa fn g = (hookL as fa fn).obs s := by
  have e : g = s.heap.get? := funext h
  subst e
  rfl
noncomputable abbrev runOf (M : Nat) (p : Program) (w : World) : Option (Shared × PySem.W.SharedT) := HeadRun.wholeF (fun p => HeadRun.stepQ (HeadRun.denQ HeadRun.tabQ) p w) HeadRun.fenceQ M p
noncomputable def partA (as : List Addr) (fa : List Tst) (s : PySem.W.SharedT) : Bool := (fun K => fa.all fun f => f K) (kL as s)
noncomputable def partF (as : List Addr) (fn : List Dx) (s : PySem.W.SharedT) : Al2 := look [] fn (kL as s)
theorem run_parts {r : PySem.W.OpenRow} {q : Program} {as : List Addr} {ob : PySem.W.SharedT → Al2} {M : Nat} {loose : List PySem.Str} {w : World} {fa : List Tst} {fn : List Dx} (fas : List (List Tst)) (fns : List (List Dx)) (hfa : fas.flatten = fa) (hfn : fns.flatten = fn) (ho : ∀ s, ob s = lookL as fa fn (HeadRun.getT s))
    (p1 : (runOf M r.prog w).map (fun x => (HeadRun.looksF r.prog x.1.heap x.2.abs, HeadRun.seenQ q loose (importedModules r.prog.main.body) (fun s => PySem.W.xlAt q [] s && PySem.W.recOk r.records s) x.2.abs)) = some (true, PySem.W.openGood q loose))
    (pA : ∀ l ∈ fas, (runOf M r.prog w).map (fun x => partA as l x.2) = some true)
    (pF : ∀ l ∈ fns, (runOf M r.prog w).map (fun x => partF as l x.2) = some (due l)) : HeadRun.RunEqI r q (hookL as fa fn) ob M loose w := by
  subst hfa hfn
  unfold HeadRun.RunEqI
  change Option.map _ (runOf M r.prog w) = _
  cases e : runOf M r.prog w with
  | none =>
    rw [e] at p1
    exact nomatch p1
  | some x =>
    rw [e] at p1 pA pF
    have q1 := Option.some.inj p1
    have qA : ∀ l ∈ fas, l.all (fun f => f (kL as x.2)) = true := fun l hl => Option.some.inj (pA l hl)
    have qF : ∀ l ∈ fns, partF as l x.2 = due l := fun l hl => Option.some.inj (pF l hl)
    have hall : fas.flatten.all (fun f => f (kL as x.2)) = true := by
      rw [List.all_eq_true]
      intro f hf
      obtain ⟨l, hl, hf⟩ := List.mem_flatten.mp hf
      exact List.all_eq_true.mp (qA l hl) f hf
    have hF : fns.flatten.all (fun d => d.okb (kL as x.2)) = true ∧ fns.flatten.map (fun d => seenAt (kL as x.2) (d.ad (kL as x.2))) = fns.flatten.map Dx.due := by
      clear pF ho
      induction fns with
      | nil => exact ⟨rfl, rfl⟩
      | cons l r ih =>
        have i := ih fun y hy => qF y (List.mem_cons_of_mem _ hy)
        have z := qF l List.mem_cons_self
        have o4 : (l.all fun d => d.okb (kL as x.2)) = true := (Prod.mk.inj z).1
        have s4 : l.map (fun d => seenAt (kL as x.2) (d.ad (kL as x.2))) = l.map Dx.due := (Prod.mk.inj z).2
        rw [List.flatten_cons, List.all_append, List.map_append, List.map_append, o4, s4, i.1, i.2]
        exact ⟨rfl, rfl⟩
    have a1 := (Prod.mk.inj q1).1
    have a2 := (Prod.mk.inj q1).2
    have h4 : ob x.2 = due fns.flatten := by
      rw [ho]
      show look fas.flatten fns.flatten (kL as x.2) = due fns.flatten
      unfold look due
      rw [hall, hF.1, hF.2]
      rfl
    show some (_, _, ob x.2) = some (true, PySem.W.openGood q loose, due fns.flatten)
    rw [h4, a1, a2]
end Hk

/-! A head over given addresses that tells the tables of defs that make lambdas, too. -/
namespace Hk
open PySem PySem.Spec PyProof.Rows L2 LamX
/-- the tables of these defs stand apart -/
def tTabs (ts : List Dx) : Tst := fun K => decide ((ts.map fun d => pOf d K).Nodup)
theorem tabs_ne {ts : List Dx} {K : Fr} (c : tTabs ts K = true) {i j : Nat} {d e : Dx} (hi : ts[i]? = some d) (hj : ts[j]? = some e) (h : pOf d K = pOf e K) : i = j := by
  have nd := of_decide_eq_true c
  obtain ⟨li, ei⟩ := List.getElem?_eq_some_iff.mp hi
  obtain ⟨lj, ej⟩ := List.getElem?_eq_some_iff.mp hj
  have l1 : i < (ts.map fun d => pOf d K).length := by rw [List.length_map]; exact li
  refine (List.getElem?_inj l1 nd).mp ?_
  rw [List.getElem?_map, List.getElem?_map, hi, hj]
  exact congrArg some h
theorem saysL_of {as : List Addr} {fa : List Tst} {fn ts : List Dx} {h : Heap} (e : lookT0 fa fn ts h.get? (He.frT h.get? (cStatics :: as)) = (due fn, true)) : SaysT fa fn ts h (He.frT h.get? (cStatics :: as)) := by
  obtain ⟨e1, e2⟩ := Prod.mk.inj e
  have one : ∀ d ∈ ts, PySem.W.codeHdIn (He.frT h.get? (cStatics :: as)) (cOf d (He.frT h.get? (cStatics :: as))) (pOf d (He.frT h.get? (cStatics :: as))) = true ∧ ∃ o, h.get? (pOf d (He.frT h.get? (cStatics :: as))) = some o ∧ He.emptyTab o = true := by
    intro d hd
    obtain ⟨h1, h2⟩ := He.ba (List.all_eq_true.mp e2 d hd)
    cases q : h.get? (pOf d (He.frT h.get? (cStatics :: as))) with
    | none => rw [q] at h2; exact nomatch h2
    | some o => rw [q] at h2; exact ⟨h1, o, rfl, h2⟩
  constructor
  · exact e1
  · exact fun d hd => (one d hd).1
  · intro d hd
    obtain ⟨_, o, q, z⟩ := one d hd
    exact He.frT_none q z
  · intro d hd
    obtain ⟨_, o, q, z⟩ := one d hd
    rw [q, He.emptyTab_eq z]
def hookLT (as : List Addr) (fa : List Tst) (fn ts : List Dx) : PySem.W.Hook where
  α := Al3
  obs := fun s => lookT0 fa fn ts s.heap.get? (He.frT s.heap.get? (cStatics :: as))
  val := fun _ => (due fn, true)
  says := fun _ h => ∃ K : Fr, K.In h ∧ SaysT fa fn ts h K
  of := fun _ _ e => ⟨_, He.frT_in, saysL_of e⟩
  keeps := fun _ _ _ ⟨K, hK, c⟩ k => ⟨K, PySem.W.Frag.In.keeps hK k, c.s, c.hd, c.out, fun d hd => k _ _ (c.empty d hd)⟩
noncomputable abbrev kT (as : List Addr) (s : PySem.W.SharedT) : Fr := He.frT (HeadRun.getT s) (cStatics :: as)
noncomputable def lookLT (as : List Addr) (fa : List Tst) (fn ts : List Dx) (s : PySem.W.SharedT) : Al3 := lookT0 fa fn ts (HeadRun.getT s) (kT as s)
theorem lookLT_eq {as : List Addr} {fa : List Tst} {fn ts : List Dx} (s : PySem.W.SharedT) : lookLT as fa fn ts s = (hookLT as fa fn ts).obs s.abs := by
  have e : HeadRun.getT s = s.abs.heap.get? := funext fun a => HeadRun.getT_eq s a
  unfold lookLT kT
  rw [e]
  rfl
noncomputable def partAT (as : List Addr) (fa : List Tst) (s : PySem.W.SharedT) : Bool := (fun K => fa.all fun f => f K) (kT as s)
noncomputable def partFT (as : List Addr) (fn : List Dx) (s : PySem.W.SharedT) : Al2 := look [] fn (kT as s)
noncomputable def partTT (as : List Addr) (ts : List Dx) (s : PySem.W.SharedT) : Bool := ts.all fun d => tabOk (HeadRun.getT s) (kT as s) d
theorem run_partsT {r : PySem.W.OpenRow} {q : Program} {as : List Addr} {M : Nat} {loose : List PySem.Str} {w : World} {fa : List Tst} {fn ts : List Dx} (fas : List (List Tst)) (fns : List (List Dx)) (hfa : fas.flatten = fa) (hfn : fns.flatten = fn)
    (p1 : (runOf M r.prog w).map (fun x => (HeadRun.looksF r.prog x.1.heap x.2.abs, HeadRun.seenQ q loose (importedModules r.prog.main.body) (fun s => PySem.W.xlAt q [] s && PySem.W.recOk r.records s) x.2.abs)) = some (true, PySem.W.openGood q loose))
    (pA : ∀ l ∈ fas, (runOf M r.prog w).map (fun x => partAT as l x.2) = some true)
    (pF : ∀ l ∈ fns, (runOf M r.prog w).map (fun x => partFT as l x.2) = some (due l))
    (pT : (runOf M r.prog w).map (fun x => partTT as ts x.2) = some true) : HeadRun.RunEqI r q (hookLT as fa fn ts) (lookLT as fa fn ts) M loose w := by
  subst hfa hfn
  unfold HeadRun.RunEqI
  change Option.map _ (runOf M r.prog w) = _
  cases e : runOf M r.prog w with
  | none => rw [e] at p1; exact nomatch p1
  | some x =>
    rw [e] at p1 pA pF pT
    obtain ⟨a1, a2⟩ := Prod.mk.inj (Option.some.inj p1)
    have vA : (fas.flatten).all (fun f => f (kT as x.2)) = true := List.all_eq_true.mpr fun f hf => by
      obtain ⟨l, hl, hm⟩ := List.mem_flatten.mp hf
      have := Option.some.inj (pA l hl)
      exact List.all_eq_true.mp this f hm
    have vF : ∀ ls : List (List Dx), (∀ l ∈ ls, partFT as l x.2 = due l) → (ls.flatten.all fun d => d.okb (kT as x.2)) = true ∧ ls.flatten.map (fun d => seenAt (kT as x.2) (d.ad (kT as x.2))) = ls.flatten.map Dx.due := by
      intro ls
      induction ls with
      | nil => exact fun _ => ⟨rfl, rfl⟩
      | cons l rest ih =>
        intro hl
        obtain ⟨i1, i2⟩ := ih fun y hy => hl y (List.mem_cons_of_mem _ hy)
        obtain ⟨z1, z2⟩ := Prod.mk.inj (hl l List.mem_cons_self)
        have z1' : (l.all fun d => d.okb (kT as x.2)) = true := z1
        have z2' : l.map (fun d => seenAt (kT as x.2) (d.ad (kT as x.2))) = l.map Dx.due := z2
        constructor
        · rw [List.flatten_cons, List.all_append, z1', i1]
          rfl
        · rw [List.flatten_cons, List.map_append, List.map_append, z2', i2]
    obtain ⟨f1, f2⟩ := vF fns fun l hl => Option.some.inj (pF l hl)
    have vT : (ts.all fun d => tabOk (HeadRun.getT x.2) (kT as x.2) d) = true := Option.some.inj pT
    have all_ : lookLT as fas.flatten fns.flatten ts x.2 = (due fns.flatten, true) := by
      unfold lookLT lookT0 look due
      rw [vA, f1, f2, vT]
      rfl
    show some (_, _, lookLT as fas.flatten fns.flatten ts x.2) = some (true, PySem.W.openGood q loose, (due fns.flatten, true))
    rw [all_, a1, a2]
end Hk

/-! Own operators with any other operand, on both sides; their defs may raise. -/
namespace Hk
open PySem PySem.Spec PyProof.Rows L2
/-- what the type T must be for an operator of the class at C -/
structure RightT (K : Fr) (C : Addr) (nm : String) (T : String) : Prop where
  i1 : ∃ fo, PySem.W.findIn K (.type T) (PySem.dunder nm) = some fo
  i2 : ∃ ro, PySem.W.findIn K (.type T) (dunderR nm) = some ro
  sub : PySem.W.subIn K (.type T) (.ref C) = some false
  cub : PySem.W.subIn K (.ref C) (.type T) = some false
def tRight (x : Str) (nm : String) (T : String) : Tst := fun K => (PySem.W.findIn K (.type T) (PySem.dunder nm)).isSome && ((PySem.W.findIn K (.type T) (dunderR nm)).isSome && (decide (PySem.W.subIn K (.type T) (.ref (He.ga K x)) = some false) && decide (PySem.W.subIn K (.ref (He.ga K x)) (.type T) = some false)))
theorem right_ok {K : Fr} {x : Str} {nm T : String} (c : tRight x nm T K = true) : RightT K (He.ga K x) nm T := by
  obtain ⟨c1, c⟩ := He.ba c
  obtain ⟨c2, c⟩ := He.ba c
  obtain ⟨c3, c4⟩ := He.ba c
  exact ⟨Option.isSome_iff_exists.mp c1, Option.isSome_iff_exists.mp c2, of_decide_eq_true c3, of_decide_eq_true c4⟩
/-- the type has no such operator -/
def tNoOp (nm : String) (T : String) : Tst := fun K => He.eqO (PySem.W.findIn K (.type T) (PySem.dunder nm)) (some none) && He.eqO (PySem.W.findIn K (.type T) (dunderR nm)) (some none)
section
variable {prog : Program} {w : World} {A : Around} {E : Value → Shared → Prop} {s : Shared} {K : Fr} {x C f g : Addr} {ox : Obj} {od : Option Obj}
theorem bin1_ty {nm T : String} {b : Value} {Q : Value → Shared → Prop} (Y : K.In s.heap) (I : PySem.W.InstAt s.heap x ox C od) (B : BinF K C nm f) (R : RightT K C nm T) (hb : PySem.W.Looks (model prog w) s.heap (typeOf b) (.type T))
    (h : wpAny (model prog w) A (call (.ref f) [.ref x, b]) (PySem.W.CmpBack Q) E s) : wpAny (model prog w) A (binaryOp1 nm (.ref x) b) (fun r s' => ∃ v, r = some v ∧ Q v s') E s := by
  obtain ⟨cd, rest, hcd, hm⟩ := PySem.W.ksp_first B.self
  have one := PySem.W.ksp_try Y I B.at_ B.fn h
  obtain ⟨rc, hr, hp⟩ := B.rr
  obtain ⟨fo, h1⟩ := R.i1
  obtain ⟨ro, h2⟩ := R.i2
  obtain ⟨hh, gg, d, tt, os⟩ := s
  have L1 : PySem.W.Looks (model prog w) hh (typeOf (.ref x)) (.ref C) := I.type
  have L2 : PySem.W.Looks (model prog w) hh (typeOf b) (.type T) := hb
  have L3 : PySem.W.Looks (model prog w) hh (fillsNumberSlot (.ref C) nm) true := PySem.W.fills_K Y hcd hm B.at_
  have L4 : PySem.W.Looks (model prog w) hh (fillsNumberSlot (.type T) nm) ((fo.isSome && !isSeqSlot fo) || (ro.isSome && !isSeqSlot ro)) := PySem.W.ksp_fillsT Y h1 h2
  have L5 : PySem.W.Looks (model prog w) hh (isSubtype (.type T) (.ref C)) false := PySem.W.looks_subIn Y R.sub
  have L6 : PySem.W.Looks (model prog w) hh (numberSlotInPython (.ref C) nm) true := PySem.W.ksp_inPy Y B.at_ hr hp
  have L7 : PySem.W.Looks (model prog w) hh (numberSlotInPython (.type T) nm) false := PySem.W.Looks.of_pure rfl
  have L8 : PySem.W.Looks (model prog w) hh (typeLookup (.type T) (dunderR nm)) ro := PySem.W.looks_findIn Y h2
  generalize ((fo.isSome && !isSeqSlot fo) || (ro.isSome && !isSeqSlot ro)) = right at L4
  have hne : (Value.ref C == Value.type T) = false := Bool.eq_false_iff.mpr fun q => nomatch beq_iff_eq.mp q
  unfold binaryOp1
  refine wpAny_bind (L1.at (wpAny_bind (L2.at (wpAny_bind (L3.at ?_)))))
  simp only [hne, Bool.false_eq_true, if_false]
  cases right with
  | false =>
    ksp_lk
    refine wpAny_mono one (fun r s' hr' => ?_) fun _ _ e => e
    obtain ⟨v, rfl, hq⟩ := hr'
    ksp_lk
    exact ⟨v, rfl, hq⟩
  | true =>
    ksp_lk
    refine wpAny_mono one (fun r s' hr' => ?_) fun _ _ e => e
    obtain ⟨v, rfl, hq⟩ := hr'
    ksp_lk
    exact ⟨v, rfl, hq⟩
/-- v op instance: the class's reflected operator; v's own one, where there is one, declines -/
theorem rbin_ty {op : Operator} {T : String} {v : Value} {Q : Value → Shared → Prop} (Y : K.In s.heap) (I : PySem.W.InstAt s.heap x ox C od) (hc : PySem.W.selfFirst K C = true) (R : RightT K C op.info.2 T) (hv : PySem.W.Looks (model prog w) s.heap (typeOf v) (.type T))
    (dec : (∃ fo ro, PySem.W.findIn K (.type T) (PySem.dunder op.info.2) = some fo ∧ PySem.W.findIn K (.type T) (dunderR op.info.2) = some ro ∧ ((fo.isSome && !isSeqSlot fo) || (ro.isSome && !isSeqSlot ro)) = false) ∨
      (∃ id, s.TypeIs v T ∧ Slot T (PySem.dunder op.info.2) id ∧ ∀ Q : Value → Shared → Prop, Q .notImplemented s → wpAny (model prog w) A (call (.builtin id) [v, .ref x]) Q E s))
    (hs : PySem.W.findIn K (.ref C) (PySem.dunder op.info.2) = some (some (.ref f))) (hr : PySem.W.findIn K (.ref C) (dunderR op.info.2) = some (some (.ref g))) (hg : PySem.W.isFn K (.ref g) = true)
    (h : wpAny (model prog w) A (call (.ref g) [.ref x, v]) (PySem.W.CmpBack Q) E s) : wpAny (model prog w) A (binaryOp op v (.ref x)) Q E s := by
  obtain ⟨cd, rest, hcd, hm⟩ := PySem.W.ksp_first hc
  obtain ⟨fo, h1⟩ := R.i1
  obtain ⟨ro, h2⟩ := R.i2
  have hsub := R.cub
  rcases hi : op.info with ⟨sym, nm⟩
  rw [hi] at hs hr h1 h2 dec
  dsimp only at hs hr h1 h2 dec
  simp only [binaryOp, hi]
  refine wpAny_holding ?_
  simp only [binaryOp1]
  have L4 : PySem.W.Looks (model prog w) s.heap (fillsNumberSlot (.type T) nm) ((fo.isSome && !isSeqSlot fo) || (ro.isSome && !isSeqSlot ro)) := PySem.W.ksp_fillsT Y h1 h2
  refine wpAny_bind (wpAny_bind (hv.here ?_))
  refine wpAny_bind (I.type.here (wpAny_bind (L4.here ?_)))
  have hne : (Value.type T == Value.ref C) = false := Bool.eq_false_iff.mpr fun q => nomatch beq_iff_eq.mp q
  simp only [hne, Bool.false_eq_true, if_false]
  refine wpAny_bind ((PySem.W.fills_K Y hcd hm hs).here ?_)
  have hpy : numberSlotInPython (.type T) nm = pure false := rfl
  have fin : wpAny (model prog w) A (tryMethod (.ref x) (dunderR nm) v) (fun r s' => ∃ u, r = some u ∧ Q u s') E s := by
    unfold tryMethod
    refine wpAny_bind (PySem.W.special_fn Y I hr (beq_iff_eq.mp hg) (wpAny_mono h (fun v s' hv => ?_) fun _ _ e => e))
    cases v <;> first | exact hv.elim | exact wpAny_pure ⟨_, rfl, hv⟩
  cases hl : ((fo.isSome && !isSeqSlot fo) || (ro.isSome && !isSeqSlot ro)) with
  | false =>
    simp only [Bool.false_and, Bool.false_eq_true, if_false, pure_bind, Bool.not_false, Bool.and_self, if_true, Bool.true_and]
    refine wpAny_bind (wpAny_mono fin (fun r s' hr' => ?_) fun _ _ e => e)
    obtain ⟨u, rfl, hq⟩ := hr'
    exact wpAny_bind (wpAny_rule (wpAny_pure (wpAny_pure hq)))
  | true =>
    simp only [Bool.and_self, if_true]
    refine wpAny_bind ((PySem.W.looks_subIn Y hsub).here ?_)
    simp only [Bool.false_eq_true, if_false, pure_bind, Bool.not_false, Bool.and_self, if_true, hpy]
    rcases dec with ⟨fo', ro', e1, e2, e3⟩ | ⟨id, hT, slot, hd⟩
    · rw [h1] at e1; cases e1
      rw [h2] at e2; cases e2
      rw [hl] at e3
      cases e3
    · refine wpAny_bind (wpAny_tryMethod_declines hT slot (hd _ ⟨rfl, ?_⟩))
      refine wpAny_bind (wpAny_mono fin (fun r s' hr' => ?_) fun _ _ e => e)
      obtain ⟨u, rfl, hq⟩ := hr'
      exact wpAny_bind (wpAny_rule (wpAny_pure (wpAny_pure hq)))
end
/-! ### a truth's own operators decline -/
def DeclB (id : String) : Prop := ∀ (prog : Program) (w : World) (A : Around) (E : Value → Shared → Prop) (s : Shared) (b : Bool) (x C dx : Addr) (Q : Value → Shared → Prop), s.heap.get? x = some (PySem.W.instObj C dx) → Q .notImplemented s →
  wpAny (model prog w) A (call (.builtin id) [.bool b, .ref x]) Q E s
theorem declB_add : DeclB "int.__add__" := by
  intro prog w A E s b x C dx Q ho q
  refine wpAny_call (codeAny_call_builtin F.slot_int_add.plain F.entry_int_add (F.slot_bool_add.check _ _ _ _ _ _ _ _ (PySem.typeIs_bool s b) (F.args_int_add_2 _ _) ?_))
  unfold Builtin.«int.__add__» Builtin.Int.intBinary
  refine wpAny_bind (m := slotArgs "__add__" 1 _) (wpAny_pure ?_)
  refine wpAny_bind (m := Builtin.Int.intOfSelf _) (wpAny_pure ?_)
  refine wpAny_bind (m := asInt? _) (wpAny_bind (wpAny_load ho (wpAny_pure ?_)))
  refine wpAny_bind (wpAny_rule (wpAny_pure ?_))
  exact q
theorem declB_sub : DeclB "int.__sub__" := by
  intro prog w A E s b x C dx Q ho q
  refine wpAny_call (codeAny_call_builtin F.slot_int_sub.plain F.entry_int_sub (F.slot_bool_sub.check _ _ _ _ _ _ _ _ (PySem.typeIs_bool s b) (F.args_int_sub_2 _ _) ?_))
  unfold Builtin.«int.__sub__» Builtin.Int.intBinary
  refine wpAny_bind (m := slotArgs "__sub__" 1 _) (wpAny_pure ?_)
  refine wpAny_bind (m := Builtin.Int.intOfSelf _) (wpAny_pure ?_)
  refine wpAny_bind (m := asInt? _) (wpAny_bind (wpAny_load ho (wpAny_pure ?_)))
  refine wpAny_bind (wpAny_rule (wpAny_pure ?_))
  exact q
/-! ### rules -/
/-- y is of the built-in type T -/
def TyO (K : Fr) (H : Hp) (y : V) (T : String) : Prop := TyL K H y (.type T) ∨ (T = "dict" ∧ ∃ a kvs, y = .ref a ∧ H a = some (.dK kvs))
theorem TyO.same {K : Fr} {H H' : Hp} {y : V} {T : String} (h : TyO K H y T) (s : Same H H') : TyO K H' y T := by
  rcases h with h | ⟨rfl, a, kvs, rfl, e⟩
  · refine .inl ?_
    cases h with
    | non => exact .non
    | bl b => exact .bl b
    | int i => exact .int i
    | str y => exact .str y
    | lst e => exact .lst (s _ _ e)
    | tup e => exact .tup (s _ _ e)
  · exact .inr ⟨rfl, a, kvs, rfl, s _ _ e⟩
def rBinX (K : Fr) (C : Addr) (nm : String) (sp : Sp) (E : XK) : R2 := fun x y H Q => ∃ a dx fs, x = .ref a ∧ H a = some (.ins C dx fs) ∧ ((∃ T, TyO K H y T ∧ RightT K C nm T) ∨ ∃ b dy gs, y = .ref b ∧ H b = some (.ins C dy gs)) ∧ sp [x, y] H Q E
/-- of y op x, y no instance -/
def rRbinX (K : Fr) (C : Addr) (nm : String) (sp : Sp) (E : XK) : R2 := fun y x H Q => ∃ a dx fs T, x = .ref a ∧ H a = some (.ins C dx fs) ∧ TyO K H y T ∧ RightT K C nm T ∧ ((PySem.W.findIn K (.type T) (PySem.dunder nm) = some none ∧ PySem.W.findIn K (.type T) (dunderR nm) = some none) ∨ ∃ b, y = .bl b ∧ T = "bool") ∧ sp [x, y] H Q E
section
variable {X : Cx} {CX : CXT} {E : XK} {k : Nat} {C f g : Addr} {fd : FuncData} {ps : List Str} {sp : Sp} {op : Operator}
theorem TyO.looks {pins : List (Addr × Obj)} {s : Shared} {σ : L2.St} {H : Hp} {y : V} {u : Value} {T : String} {M : Model} (I : Inv X pins σ H s) (ry : RelV y u) (h : TyO X.K H y T) : PySem.W.Looks M s.heap (typeOf u) (.type T) := by
  rcases h with h | ⟨rfl, a, kvs, rfl, e⟩
  · exact TyL.looks I ry h
  · cases (show u = Value.ref a from ry)
    obtain ⟨_, hsm, vs, kv, o, es, ep, h1, h2, h3, h4, h5, h6⟩ := (show ObjOk X.prog X.w H s.heap a (.dK kvs) from I.hok a _ e)
    exact fun A Q E s2 k2 q2 => wpAny_typeOf_ref (k2 _ _ h1) (by rw [h2.1]; exact q2)
theorem op_binX (B : BinF X.K C op.info.2 f) (F : FnOk X.prog X.w X.K X.mg X.base CX k f fd ps sp) (hb : Binds X.K fd ps []) (hr : Room k X.A) (hx : ∀ σ, PassesAt CX X σ E) : OpR X (binaryOp op) (rBinX X.K C op.info.2 sp E) := by
  intro pins s σ H x y v u Q I rx ry h
  obtain ⟨a, dx, fs, rfl, ha, hy, q⟩ := h
  cases (show v = Value.ref a from rx)
  obtain ⟨mA, M, _⟩ := ins_get I.hok ha
  obtain ⟨od, J, _⟩ := M.look
  have run : wpAny (model X.prog X.w) X.A (call (.ref f) [.ref a, u]) (PySem.W.CmpBack (EP X pins σ Q)) X.xe s :=
    wpAny_mono (run_fnS (vs := [.ref a, y]) (E := fun _ => E) F hr hb (hx σ) I (.cons rfl (.cons ry .nil)) q) (fun w s' z => by
      obtain ⟨z', H', I', rz, qz⟩ := id z
      exact backC rz z) fun _ _ z => z
  rcases hy with ⟨T, ty, R⟩ | ⟨b, dy, gs, rfl, hb2⟩
  · exact bin_of1 (bin1_ty I.kIn J B R (TyO.looks I ry ty) run)
  · exact bin_of1 (bin1_own I.kIn J B (TyL.looks I ry (.ins hb2)) run)
theorem op_rbinX (B : BinF X.K C op.info.2 f) (R : RbinF X.K C op.info.2 g) (slot : ∃ id, Slot "bool" (PySem.dunder op.info.2) id ∧ DeclB id)
    (F : FnOk X.prog X.w X.K X.mg X.base CX k g fd ps sp) (hb : Binds X.K fd ps []) (hr : Room k X.A) (hx : ∀ σ, PassesAt CX X σ E) : OpR X (binaryOp op) (rRbinX X.K C op.info.2 sp E) := by
  intro pins s σ H y x u v Q I ry rx h
  obtain ⟨a, dx, fs, T, rfl, ha, ty, RT, how, q⟩ := h
  cases (show v = Value.ref a from rx)
  obtain ⟨mA, M, _⟩ := ins_get I.hok ha
  obtain ⟨od, J, _⟩ := M.look
  have run : wpAny (model X.prog X.w) X.A (call (.ref g) [.ref a, u]) (PySem.W.CmpBack (EP X pins σ Q)) X.xe s :=
    wpAny_mono (run_fnS (vs := [.ref a, y]) (E := fun _ => E) F hr hb (hx σ) I (.cons rfl (.cons ry .nil)) q) (fun w s' z => by
      obtain ⟨z', H', I', rz, qz⟩ := id z
      exact backC rz z) fun _ _ z => z
  refine rbin_ty I.kIn J B.self RT (TyO.looks I ry ty) ?_ B.at_ R.at_ R.fn run
  rcases how with ⟨e1, e2⟩ | ⟨b, rfl, rfl⟩
  · exact .inl ⟨none, none, e1, e2, rfl⟩
  · obtain ⟨id, sl, d⟩ := slot
    cases ry
    exact .inr ⟨id, PySem.typeIs_bool s b, sl, fun Q q => d _ _ _ _ _ _ _ _ _ _ J.at_ q⟩
end
end Hk

namespace Hk
open PySem PySem.Spec PyProof.Rows L2
theorem Same.seqT {K : Fr} {H H' : Hp} {a : Addr} {xs : List V} (e : Same H H') (h : SqT K H a xs) : SqT K H' a xs := by
  rcases h with (h | ⟨o, h⟩) | h
  · exact .inl (.inl (e _ _ h))
  · exact .inl (.inr ⟨o, e _ _ h⟩)
  · exact .inr h
mutual
theorem dp_same {K : Fr} {H H' : Hp} (s : Same H H') : ∀ (d : PyData) (v : V), Dp K H v d → Dp K H' v d
  | .none, _, h => by cases h; exact .non
  | .bool _, _, h => by cases h; exact .bl _
  | .int _, _, h => by cases h; exact .int _
  | .str _, _, h => by cases h; exact .str _
  | .list ds, _, h => by
    cases h with
    | lst h1 h2 => exact .lst (s.seq h1) (dp_sames s ds _ h2)
  | .tuple ds, _, h => by
    cases h with
    | tup h1 h2 => exact .tup (Same.seqT s h1) (dp_sames s ds _ h2)
  | .dict _, _, h => by cases h
theorem dp_sames {K : Fr} {H H' : Hp} (s : Same H H') : ∀ (ds : List PyData) (vs : List V), DpAll K H vs ds → DpAll K H' vs ds
  | [], _, h => by cases h; exact .nil
  | d :: ds, _, h => by
    cases h with
    | cons h1 h2 => exact .cons (dp_same s d _ h1) (dp_sames s ds _ h2)
end
/-- z is what repr shows of x: data, or an empty dict -/
def Sh (K : Fr) (H : Hp) (x : V) (z : Str) : Prop := (∃ d, Dp K H x d ∧ d.showable = true ∧ d.depth ≤ 60 ∧ d.shown.length ≤ sizeLine ∧ z = d.shown) ∨ ∃ a, x = .ref a ∧ H a = some (.dK []) ∧ z = (PyData.dict []).shown
theorem Sh.same {K : Fr} {H H' : Hp} {x : V} {z : Str} (h : Sh K H x z) (s : Same H H') : Sh K H' x z := by
  rcases h with ⟨d, h1, h2⟩ | ⟨a, h1, h2, h3⟩
  · exact .inl ⟨d, dp_same s d _ h1, h2⟩
  · exact .inr ⟨a, h1, s _ _ h2, h3⟩
def rShow (K : Fr) : List V → Hp → VK → Prop := fun xs H Q => ∃ x z, xs = [x] ∧ Sh K H x z ∧ Q (.str z) H
theorem call_reprS {X : Cx} {k : Nat} (hc : Calm X.A) (hr : Room k X.A) : CallR X (.builtin "repr") (rShow X.K) := by
  intro pins s σ H xs us Q I r h
  obtain ⟨x, z, rfl, hz, q⟩ := h
  rcases hz with ⟨d, hd, h1, h2, h3, rfl⟩ | ⟨a, rfl, ha, rfl⟩
  · exact call_reprD hc hr pins s σ H [x] us Q I r ⟨x, d, rfl, hd, h1, h2, h3, q⟩
  · obtain ⟨u, rfl, ru⟩ := r.one
    cases (show u = Value.ref a from ru)
    obtain ⟨_, hsm, vs, kv, o, es, ep, h1, h2, h3, h4, h5, h6⟩ := (show ObjOk X.prog X.w H s.heap a (.dK []) from I.hok a _ ha)
    cases kv
    have e0 : es.toList = [] := by
      cases e : es.toList with
      | nil => rfl
      | cons k r =>
        rw [e] at h5
        exact nomatch h5
    have hrd : Reads s.heap (.ref a) (.dict []) (a :: [] ++ []) := Reads.dict h1 h2.1 h3 (by rw [e0]; exact .nil) (by rw [e0]; exact .nil)
    refine PySem.repr_of_reads' hrd (by simp [PyData.showable, PyData.showableKv]) (fun _ => ?_) hc ?_ (fun b o z => z) (fun h' u tk kp => ⟨.str _, H, I.kept kp, ⟨_, rfl⟩, q⟩) ?_
    · intro hm
      have e : sysModules = a := by simpa using hm
      rw [← e] at hsm
      simp at hsm
    · have := hr.units
      have e : (PyData.dict []).depth ≤ 1 := by simp [PyData.depth, PyData.depthKv]
      omega
    · decide +kernel
end Hk

/-! raise C() of a class without a def of its own, nothing handled. -/
namespace Hk
open PySem PySem.Spec PyProof.Rows L2
section
variable {X : Cx} {C : Addr} {bm : List Value} {B n ii : String}
theorem pmk_own0 {x : Str} {p pos : Pos} (F : ExcBaseFacts B n ii bm) (q : PySem.W.excIn X.K C bm n = true) (gC : X.mg x = some (.ref C)) (kC : PySem.W.keepIn X.K (.ref C) = true) (r : Raises X (.ref C)) (hg : Gl X x)
    (hdb : (x == ("__debug__" : Str)) = false := by decide) : L2N.PMk X (.Call (.Name x p) [] [] pos) (fun _ H Q => Q (.ref C) none H) := by
  intro pins s σ H Q I h
  refine wpAny_Call_Name_kw (ld_glob I hg gC ?_ hdb)
  refine PySem.W.callWith_K0 I.kIn kC ?_
  obtain ⟨bm', N, nm, qn, bs, hdct, sn, sub, ab, col, dd, k0, k1, k2, k3, k5, mN, hC, hN, hni, T⟩ := exc_obj I.kIn q
  refine wpAny_call_exc_subT F T hC hN hni (fun h' e hm => ?_) (Nat.zero_le _)
  exact L2N.mk_of I hm r h (I.hok.gone hm.new)
theorem ps_rz0 {x : Str} {p pos pos' : Pos} {W : WX} (F : Bas B n ii bm) (c : tEx0 x bm n X.K = true) (e : ExcC X.K (He.ga X.K x)) (gC : X.mg x = some (.ref (He.ga X.K x))) (hg : Gl X x) (tk : L2N.Takes X W) (hc : X.calm = true := by rfl)
    (hdb : (x == ("__debug__" : Str)) = false := by decide) : PS X (.Raise (some (.Call (.Name x p) [] [] pos)) none pos') (fun _ σ H => W (.ref (He.ga X.K x)) none σ H) := by
  obtain ⟨c1, c2⟩ := He.ba c
  obtain ⟨c2, c3⟩ := He.ba c2
  exact L2N.ps_raise hc tk (pmk_own0 F.f c1 gC c2 (raises_own e.hs (of_decide_eq_true c3)) hg hdb)
end
section
variable {P : Program} {w : World} {K : Fr} {mg : Str → Option Value} {base : Heap}
theorem caln_of {k : Nat} {d : Dx} {N ps : List Str} {sp : Sp} {x : Str} (D : ∃ fd, DAt K d fd) (hv : d.df = []) (S : FnScope N ps (defScope d.st)) (hm : mg x = some (.ref (d.ad K)))
    (hbi : ∀ (kV doc pm : Value) (an : Option Addr) (cdv ct : Value) (us : List Value), us.length = ps.length → bindArgs (PySem.W.fnOf d.nm d.ql (defArgs d.st) (defBody d.st) (defScope d.st) .none kV doc pm an cdv ct) ⟨us, []⟩ = pure (ps.zip us))
    (len : ∀ vs H Q E, sp vs H Q E → vs.length = ps.length) (hb : BodyN P w K mg base k d N ps sp) : CalN P w K mg base (k + 1) x (d.ad K) ps sp := by
  obtain ⟨fd, D⟩ := D
  have e : d.vs K = [] := by
    unfold Dx.vs
    rw [hv]
    rfl
  have D' : FunD K d.nm d.ql (defArgs d.st) (defBody d.st) (defScope d.st) [] [] (d.ad K) fd := by
    rw [← e]
    exact D
  exact ⟨fd, okn_of D S len hb, FunD.bindsN D' hbi, D.kp, hm⟩
end
end Hk

/-! Own exceptions over any of the four built-in bases, raised (context None). -/
namespace Hk
open PySem PySem.Spec PyProof.Rows L2
def tTyp (x : Str) : Tst := fun K => decide (PySem.W.typeIn K (.ref (He.ga K x)) = some (.type "type"))
theorem pmk_ve {X : Cx} {CX : CXT} {x : Str} {e : Expr} {es : List Expr} {ta : TA} {p pos : Pos} {C fI : Addr} {k : Nat} {fd : FuncData} {ps : List Str} {sp : Sp} (T : VeC X.K C) (tyC : PySem.W.typeIn X.K (.ref C) = some (.type "type"))
    (iC : PySem.W.findIn X.K (.ref C) "__init__" = some (some (.ref fI))) (tI : PySem.W.typeIn X.K (.ref fI) = some (.type "function"))
    (F1 : FnOk X.prog X.w X.K X.mg X.base CX k fI fd ps sp) (hr : Room (k + 1) X.A) (hb : Binds X.K fd ps []) (hx : Passes CX X (fun _ _ _ => False)) (hg : Gl X x) (hm : X.mg x = some (.ref C)) (ha : PA X (e :: es) ta)
    (hdb : (x == ("__debug__" : Str)) = false := by decide) (he : starEach (e :: es) X.env = (false, eval e X.env) :: starEach es X.env := by rfl) (hpl : (backTo pos (starEach es X.env)).any (·.1) = false := by rfl) :
    L2N.PMk X (.Call (.Name x p) (e :: es) [] pos) (tMkO C sp [] ta) := by
  intro pins s σ H Q I h
  refine wpAny_Call_Name_kw (ld_glob I hg hm ?_ hdb)
  refine PySem.W.callWith_K (h₀ := X.base) I.ok.mod.kin T.kC (thn (ha.run pos pins s σ H _ I h) fun us s1 ⟨vs, H1, I1, r1, hz, q1⟩ => ⟨I1.kIn, ?_⟩) he hpl
  show wpAny _ _ (call (.ref C) us) _ _ _
  obtain ⟨B, newId, initId, bmB, b, ei, _⟩ := T.b
  obtain ⟨nm, N, q, bs, bm, hdct, sn, sub, ab, col, dd, k0, k1, k2, k3, k5, hC, hT⟩ := PySem.W.excInit_of I1.kIn ei
  obtain ⟨hp, g, dr, tk, os⟩ := s1
  have hsz : hp.objs.size ≤ hp.objs.size + 1 := Nat.le_succ _
  have hq := q1 (hp.objs.size + 1) (I1.hok.fresh hsz)
  rw [List.append_nil] at hq
  have kk : ∀ b o, hp.get? b = some o → ((hp.push (PySem.W.kdv_tup us)).push (PySem.HandSPX.excO C hp.objs.size)).get? b = some o := fun b o e => Heap.get?_push_of_some _ (Heap.get?_push_of_some _ e)
  have hget : ((hp.push (PySem.W.kdv_tup us)).push (PySem.HandSPX.excO C hp.objs.size)).get? (hp.objs.size + 1) = some (PySem.HandSPX.excO C hp.objs.size) := by heap_get
  have I2 : Inv X pins σ (upd H1 (hp.objs.size + 1) (exo (hp.objs.size + 1) C none)) ⟨(hp.push (PySem.W.kdv_tup us)).push (PySem.HandSPX.excO C hp.objs.size), g, dr, tk, os⟩ :=
    I1.laid (t' := tk) (a := hp.objs.size + 1) (o := exo (hp.objs.size + 1) C none) kk hsz (exo_ok hget)
  have r2 : Vals (V.ref (hp.objs.size + 1) :: vs) (Value.ref (hp.objs.size + 1) :: us) := .cons rfl r1
  have hl : (Value.ref (hp.objs.size + 1) :: us ++ []).length = ps.length := by
    rw [List.append_nil, ← r2.length, F1.len _ _ _ _ hq]
  have hus : us.length ≤ sizeLine := by
    rw [← Paired.length r1, sizeLine_eq]
    omega
  have b2 := hb _ (Value.ref (hp.objs.size + 1) :: us) I2.kIn hl
  rw [List.append_nil] at b2
  refine wpAny_call (call_kw (kw := []) b.f hT hC (PySem.W.looks_findIn I1.kIn iC) (fun self => PySem.W.bind_fn I1.kIn self tI) hus
    (codeAny_mono (F1.run _ X.stack _ _ ⟨Value.ref (hp.objs.size + 1) :: us, []⟩ (Value.ref (hp.objs.size + 1) :: us) _ _ (fun _ _ _ => False) (hr.make C us []) (I2.env0.make C us []) b2 r2 hq) fun r s' hq' => ?_))
  cases r with
  | error er => exact hx pins σ _ _ er s' I2 hq'
  | ok fl =>
    cases fl with
    | ret u =>
      obtain ⟨v, H2, os2, bare2, un2, hok2, rv, ev, d, fs, ea, ed, hd1, q2⟩ := hq'
      subst ev
      obtain ⟨h2, g2, d2, t2, os'⟩ := s'
      obtain ⟨t0, G, J, kG, ge, hoe, na⟩ := mk_end0 (d2 := d2) (t2 := t2) I1 hsz kk un2 hok2 os2 bare2 ea ed hd1
      refine ⟨rv, ⟨hp.objs.size + 1, _, _, ⟨G, g2, d2, t2, os'⟩, _, .ref C, some d, rfl, J, kG, ge, hoe, ⟨rfl, rfl, fun vs hv => ?_⟩, rfl, rfl, na, rfl, bare2, raises_own T.x.hs tyC, q2⟩⟩
      cases hv
      rfl
    | next => exact False.elim hq'
    | brk => exact False.elim hq'
    | cont => exact False.elim hq'
end Hk

namespace K11
open PySem PySem.Spec PyProof.Rows L2 Hk
def top (i : Nat) : Stmt := PySem.Challenge.pw_delaynets_k11_signals_refused.main.body.getD i (.Pass ⟨0, 0, 0, 0⟩)
abbrev s_wall : Stmt := top 1
def d_wall : Dx := ⟨gAd "_wall", "_wall", "_wall", s_wall, []⟩
theorem sc_wall : FnScope ["k"] ["k"] (defScope s_wall) := ⟨rfl, rfl, rfl, by decide +kernel, rfl, by decide +kernel, by decide +kernel⟩
abbrev s_InvalidName_init : Stmt := inClass (top 4) 0
def d_InvalidName_init : Dx := ⟨mAd "InvalidName" "__init__", "__init__", "InvalidName.__init__", s_InvalidName_init, []⟩
theorem sc_InvalidName_init : FnScope ["self", "value"] ["self", "value"] (defScope s_InvalidName_init) := ⟨rfl, rfl, rfl, by decide +kernel, rfl, by decide +kernel, by decide +kernel⟩
abbrev s_InvalidText_init : Stmt := inClass (top 5) 0
def d_InvalidText_init : Dx := ⟨mAd "InvalidText" "__init__", "__init__", "InvalidText.__init__", s_InvalidText_init, []⟩
theorem sc_InvalidText_init : FnScope ["self", "value"] ["self", "value"] (defScope s_InvalidText_init) := ⟨rfl, rfl, rfl, by decide +kernel, rfl, by decide +kernel, by decide +kernel⟩
abbrev s_InvalidStep_init : Stmt := inClass (top 6) 0
def d_InvalidStep_init : Dx := ⟨mAd "InvalidStep" "__init__", "__init__", "InvalidStep.__init__", s_InvalidStep_init, []⟩
theorem sc_InvalidStep_init : FnScope ["self", "value"] ["self", "value"] (defScope s_InvalidStep_init) := ⟨rfl, rfl, rfl, by decide +kernel, rfl, by decide +kernel, by decide +kernel⟩
abbrev s_InvalidGain_init : Stmt := inClass (top 7) 0
def d_InvalidGain_init : Dx := ⟨mAd "InvalidGain" "__init__", "__init__", "InvalidGain.__init__", s_InvalidGain_init, []⟩
theorem sc_InvalidGain_init : FnScope ["self", "value"] ["self", "value"] (defScope s_InvalidGain_init) := ⟨rfl, rfl, rfl, by decide +kernel, rfl, by decide +kernel, by decide +kernel⟩
abbrev s_InvalidCount_init : Stmt := inClass (top 8) 0
def d_InvalidCount_init : Dx := ⟨mAd "InvalidCount" "__init__", "__init__", "InvalidCount.__init__", s_InvalidCount_init, []⟩
theorem sc_InvalidCount_init : FnScope ["self", "value"] ["self", "value"] (defScope s_InvalidCount_init) := ⟨rfl, rfl, rfl, by decide +kernel, rfl, by decide +kernel, by decide +kernel⟩
abbrev s_NotANumber_init : Stmt := inClass (top 9) 0
def d_NotANumber_init : Dx := ⟨mAd "NotANumber" "__init__", "__init__", "NotANumber.__init__", s_NotANumber_init, []⟩
theorem sc_NotANumber_init : FnScope ["self", "value"] ["self", "value"] (defScope s_NotANumber_init) := ⟨rfl, rfl, rfl, by decide +kernel, rfl, by decide +kernel, by decide +kernel⟩
abbrev s_NotASignal_init : Stmt := inClass (top 10) 0
def d_NotASignal_init : Dx := ⟨mAd "NotASignal" "__init__", "__init__", "NotASignal.__init__", s_NotASignal_init, []⟩
theorem sc_NotASignal_init : FnScope ["self", "value"] ["self", "value"] (defScope s_NotASignal_init) := ⟨rfl, rfl, rfl, by decide +kernel, rfl, by decide +kernel, by decide +kernel⟩
abbrev s_InvalidTerms_init : Stmt := inClass (top 11) 0
def d_InvalidTerms_init : Dx := ⟨mAd "InvalidTerms" "__init__", "__init__", "InvalidTerms.__init__", s_InvalidTerms_init, []⟩
theorem sc_InvalidTerms_init : FnScope ["self", "index"] ["self", "index"] (defScope s_InvalidTerms_init) := ⟨rfl, rfl, rfl, by decide +kernel, rfl, by decide +kernel, by decide +kernel⟩
abbrev s_InvalidInputs_init : Stmt := inClass (top 12) 0
def d_InvalidInputs_init : Dx := ⟨mAd "InvalidInputs" "__init__", "__init__", "InvalidInputs.__init__", s_InvalidInputs_init, []⟩
theorem sc_InvalidInputs_init : FnScope ["self", "index"] ["self", "index"] (defScope s_InvalidInputs_init) := ⟨rfl, rfl, rfl, by decide +kernel, rfl, by decide +kernel, by decide +kernel⟩
abbrev s_InvalidOutputs_init : Stmt := inClass (top 13) 0
def d_InvalidOutputs_init : Dx := ⟨mAd "InvalidOutputs" "__init__", "__init__", "InvalidOutputs.__init__", s_InvalidOutputs_init, []⟩
theorem sc_InvalidOutputs_init : FnScope ["self", "index"] ["self", "index"] (defScope s_InvalidOutputs_init) := ⟨rfl, rfl, rfl, by decide +kernel, rfl, by decide +kernel, by decide +kernel⟩
abbrev s_UnknownName_init : Stmt := inClass (top 16) 0
def d_UnknownName_init : Dx := ⟨mAd "UnknownName" "__init__", "__init__", "UnknownName.__init__", s_UnknownName_init, []⟩
theorem sc_UnknownName_init : FnScope ["self", "name"] ["self", "name"] (defScope s_UnknownName_init) := ⟨rfl, rfl, rfl, by decide +kernel, rfl, by decide +kernel, by decide +kernel⟩
abbrev s_NameTaken_init : Stmt := inClass (top 17) 0
def d_NameTaken_init : Dx := ⟨mAd "NameTaken" "__init__", "__init__", "NameTaken.__init__", s_NameTaken_init, []⟩
theorem sc_NameTaken_init : FnScope ["self", "name"] ["self", "name"] (defScope s_NameTaken_init) := ⟨rfl, rfl, rfl, by decide +kernel, rfl, by decide +kernel, by decide +kernel⟩
abbrev s_TwoRates_init : Stmt := inClass (top 18) 0
def d_TwoRates_init : Dx := ⟨mAd "TwoRates" "__init__", "__init__", "TwoRates.__init__", s_TwoRates_init, []⟩
theorem sc_TwoRates_init : FnScope ["self", "name"] ["self", "name"] (defScope s_TwoRates_init) := ⟨rfl, rfl, rfl, by decide +kernel, rfl, by decide +kernel, by decide +kernel⟩
abbrev s_NoRate_init : Stmt := inClass (top 19) 0
def d_NoRate_init : Dx := ⟨mAd "NoRate" "__init__", "__init__", "NoRate.__init__", s_NoRate_init, []⟩
theorem sc_NoRate_init : FnScope ["self", "name"] ["self", "name"] (defScope s_NoRate_init) := ⟨rfl, rfl, rfl, by decide +kernel, rfl, by decide +kernel, by decide +kernel⟩
abbrev s_RingWithoutDelay_init : Stmt := inClass (top 20) 0
def d_RingWithoutDelay_init : Dx := ⟨mAd "RingWithoutDelay" "__init__", "__init__", "RingWithoutDelay.__init__", s_RingWithoutDelay_init, []⟩
theorem sc_RingWithoutDelay_init : FnScope ["self", "ring"] ["self", "ring"] (defScope s_RingWithoutDelay_init) := ⟨rfl, rfl, rfl, by decide +kernel, rfl, by decide +kernel, by decide +kernel⟩
abbrev s_TooMany_init : Stmt := inClass (top 24) 0
def d_TooMany_init : Dx := ⟨mAd "TooMany" "__init__", "__init__", "TooMany.__init__", s_TooMany_init, []⟩
theorem sc_TooMany_init : FnScope ["self", "limit"] ["self", "limit"] (defScope s_TooMany_init) := ⟨rfl, rfl, rfl, by decide +kernel, rfl, by decide +kernel, by decide +kernel⟩
abbrev s_TooLarge_init : Stmt := inClass (top 25) 0
def d_TooLarge_init : Dx := ⟨mAd "TooLarge" "__init__", "__init__", "TooLarge.__init__", s_TooLarge_init, []⟩
theorem sc_TooLarge_init : FnScope ["self", "limit"] ["self", "limit"] (defScope s_TooLarge_init) := ⟨rfl, rfl, rfl, by decide +kernel, rfl, by decide +kernel, by decide +kernel⟩
abbrev s_is_integer : Stmt := top 33
def d_is_integer : Dx := ⟨gAd "is_integer", "is_integer", "is_integer", s_is_integer, []⟩
theorem sc_is_integer : FnScope ["value"] ["value"] (defScope s_is_integer) := ⟨rfl, rfl, rfl, by decide +kernel, rfl, by decide +kernel, by decide +kernel⟩
abbrev s_is_number : Stmt := top 34
def d_is_number : Dx := ⟨gAd "is_number", "is_number", "is_number", s_is_number, []⟩
theorem sc_is_number : FnScope ["value"] ["value"] (defScope s_is_number) := ⟨rfl, rfl, rfl, by decide +kernel, rfl, by decide +kernel, by decide +kernel⟩
abbrev s_as_number : Stmt := top 35
def d_as_number : Dx := ⟨gAd "as_number", "as_number", "as_number", s_as_number, []⟩
theorem sc_as_number : FnScope ["value"] ["value"] (defScope s_as_number) := ⟨rfl, rfl, rfl, by decide +kernel, rfl, by decide +kernel, by decide +kernel⟩
abbrev s_Number_init : Stmt := inClass (top 36) 0
def d_Number_init : Dx := ⟨mAd "Number" "__init__", "__init__", "Number.__init__", s_Number_init, [.int 1]⟩
theorem sc_Number_init : FnScope ["self", "top", "bottom", "shared"] ["self", "top", "bottom"] (defScope s_Number_init) := ⟨rfl, rfl, rfl, by decide +kernel, rfl, by decide +kernel, by decide +kernel⟩
abbrev s_Number_read : Stmt := inClass (top 36) 1
def d_Number_read : Dx := ⟨statAd "Number" "read", "read", "Number.read", s_Number_read, []⟩
theorem sc_Number_read : FnScope ["text", "number"] ["text"] (defScope s_Number_read) := ⟨rfl, rfl, rfl, by decide +kernel, rfl, by decide +kernel, by decide +kernel⟩
abbrev s_Number_top : Stmt := inClass (top 36) 2
def d_Number_top : Dx := ⟨getAd "Number" "top", "top", "Number.top", s_Number_top, []⟩
theorem sc_Number_top : FnScope ["self"] ["self"] (defScope s_Number_top) := ⟨rfl, rfl, rfl, by decide +kernel, rfl, by decide +kernel, by decide +kernel⟩
abbrev s_Number_bottom : Stmt := inClass (top 36) 3
def d_Number_bottom : Dx := ⟨getAd "Number" "bottom", "bottom", "Number.bottom", s_Number_bottom, []⟩
theorem sc_Number_bottom : FnScope ["self"] ["self"] (defScope s_Number_bottom) := ⟨rfl, rfl, rfl, by decide +kernel, rfl, by decide +kernel, by decide +kernel⟩
abbrev s_Number_sign : Stmt := inClass (top 36) 4
def d_Number_sign : Dx := ⟨getAd "Number" "sign", "sign", "Number.sign", s_Number_sign, []⟩
theorem sc_Number_sign : FnScope ["self"] ["self"] (defScope s_Number_sign) := ⟨rfl, rfl, rfl, by decide +kernel, rfl, by decide +kernel, by decide +kernel⟩
abbrev s_Number_over : Stmt := inClass (top 36) 5
def d_Number_over : Dx := ⟨mAd "Number" "over", "over", "Number.over", s_Number_over, []⟩
theorem sc_Number_over : FnScope ["self", "other"] ["self", "other"] (defScope s_Number_over) := ⟨rfl, rfl, rfl, by decide +kernel, rfl, by decide +kernel, by decide +kernel⟩
abbrev s_Number_add : Stmt := inClass (top 36) 6
def d_Number_add : Dx := ⟨mAd "Number" "__add__", "__add__", "Number.__add__", s_Number_add, []⟩
theorem sc_Number_add : FnScope ["self", "other", "right"] ["self", "other"] (defScope s_Number_add) := ⟨rfl, rfl, rfl, by decide +kernel, rfl, by decide +kernel, by decide +kernel⟩
abbrev s_Number_radd : Stmt := inClass (top 36) 7
def d_Number_radd : Dx := ⟨mAd "Number" "__radd__", "__radd__", "Number.__radd__", s_Number_radd, []⟩
theorem sc_Number_radd : FnScope ["self", "other"] ["self", "other"] (defScope s_Number_radd) := ⟨rfl, rfl, rfl, by decide +kernel, rfl, by decide +kernel, by decide +kernel⟩
abbrev s_Number_sub : Stmt := inClass (top 36) 8
def d_Number_sub : Dx := ⟨mAd "Number" "__sub__", "__sub__", "Number.__sub__", s_Number_sub, []⟩
theorem sc_Number_sub : FnScope ["self", "other", "right"] ["self", "other"] (defScope s_Number_sub) := ⟨rfl, rfl, rfl, by decide +kernel, rfl, by decide +kernel, by decide +kernel⟩
abbrev s_Number_rsub : Stmt := inClass (top 36) 9
def d_Number_rsub : Dx := ⟨mAd "Number" "__rsub__", "__rsub__", "Number.__rsub__", s_Number_rsub, []⟩
theorem sc_Number_rsub : FnScope ["self", "other"] ["self", "other"] (defScope s_Number_rsub) := ⟨rfl, rfl, rfl, by decide +kernel, rfl, by decide +kernel, by decide +kernel⟩
abbrev s_Number_mul : Stmt := inClass (top 36) 10
def d_Number_mul : Dx := ⟨mAd "Number" "__mul__", "__mul__", "Number.__mul__", s_Number_mul, []⟩
theorem sc_Number_mul : FnScope ["self", "other", "right"] ["self", "other"] (defScope s_Number_mul) := ⟨rfl, rfl, rfl, by decide +kernel, rfl, by decide +kernel, by decide +kernel⟩
abbrev s_Number_rmul : Stmt := inClass (top 36) 11
def d_Number_rmul : Dx := ⟨mAd "Number" "__rmul__", "__rmul__", "Number.__rmul__", s_Number_rmul, []⟩
theorem sc_Number_rmul : FnScope ["self", "other"] ["self", "other"] (defScope s_Number_rmul) := ⟨rfl, rfl, rfl, by decide +kernel, rfl, by decide +kernel, by decide +kernel⟩
abbrev s_Number_neg : Stmt := inClass (top 36) 12
def d_Number_neg : Dx := ⟨mAd "Number" "__neg__", "__neg__", "Number.__neg__", s_Number_neg, []⟩
theorem sc_Number_neg : FnScope ["self"] ["self"] (defScope s_Number_neg) := ⟨rfl, rfl, rfl, by decide +kernel, rfl, by decide +kernel, by decide +kernel⟩
abbrev s_Number_abs : Stmt := inClass (top 36) 13
def d_Number_abs : Dx := ⟨mAd "Number" "__abs__", "__abs__", "Number.__abs__", s_Number_abs, []⟩
theorem sc_Number_abs : FnScope ["self"] ["self"] (defScope s_Number_abs) := ⟨rfl, rfl, rfl, by decide +kernel, rfl, by decide +kernel, by decide +kernel⟩
abbrev s_Number_pow : Stmt := inClass (top 36) 14
def d_Number_pow : Dx := ⟨mAd "Number" "__pow__", "__pow__", "Number.__pow__", s_Number_pow, []⟩
theorem sc_Number_pow : FnScope ["self", "other", "power", "_"] ["self", "other"] (defScope s_Number_pow) := ⟨rfl, rfl, rfl, by decide +kernel, rfl, by decide +kernel, by decide +kernel⟩
abbrev s_Number_eq : Stmt := inClass (top 36) 15
def d_Number_eq : Dx := ⟨mAd "Number" "__eq__", "__eq__", "Number.__eq__", s_Number_eq, []⟩
theorem sc_Number_eq : FnScope ["self", "other"] ["self", "other"] (defScope s_Number_eq) := ⟨rfl, rfl, rfl, by decide +kernel, rfl, by decide +kernel, by decide +kernel⟩
abbrev s_Number_str : Stmt := inClass (top 36) 16
def d_Number_str : Dx := ⟨mAd "Number" "__str__", "__str__", "Number.__str__", s_Number_str, []⟩
theorem sc_Number_str : FnScope ["self"] ["self"] (defScope s_Number_str) := ⟨rfl, rfl, rfl, by decide +kernel, rfl, by decide +kernel, by decide +kernel⟩
abbrev s_Number_repr : Stmt := inClass (top 36) 17
def d_Number_repr : Dx := ⟨mAd "Number" "__repr__", "__repr__", "Number.__repr__", s_Number_repr, []⟩
theorem sc_Number_repr : FnScope ["self"] ["self"] (defScope s_Number_repr) := ⟨rfl, rfl, rfl, by decide +kernel, rfl, by decide +kernel, by decide +kernel⟩
abbrev s_number_in : Stmt := top 37
def d_number_in : Dx := ⟨gAd "_number_in", "_number_in", "_number_in", s_number_in, []⟩
theorem sc_number_in : FnScope ["text", "top", "slash", "bottom"] ["text"] (defScope s_number_in) := ⟨rfl, rfl, rfl, by decide +kernel, rfl, by decide +kernel, by decide +kernel⟩
abbrev s_is_digits : Stmt := top 38
def d_is_digits : Dx := ⟨gAd "_is_digits", "_is_digits", "_is_digits", s_is_digits, []⟩
theorem sc_is_digits : FnScope ["text"] ["text"] (defScope s_is_digits) := ⟨rfl, rfl, rfl, by decide +kernel, rfl, by decide +kernel, by decide +kernel⟩
abbrev s_is_name : Stmt := top 44
def d_is_name : Dx := ⟨gAd "is_name", "is_name", "is_name", s_is_name, []⟩
theorem sc_is_name : FnScope ["value", "sign"] ["value"] (defScope s_is_name) := ⟨rfl, rfl, rfl, by decide +kernel, rfl, by decide +kernel, by decide +kernel⟩
abbrev s_is_gain : Stmt := top 45
def d_is_gain : Dx := ⟨gAd "_is_gain", "_is_gain", "_is_gain", s_is_gain, []⟩
theorem sc_is_gain : FnScope ["value", "number"] ["value"] (defScope s_is_gain) := ⟨rfl, rfl, rfl, by decide +kernel, rfl, by decide +kernel, by decide +kernel⟩
abbrev s_is_between : Stmt := top 46
def d_is_between : Dx := ⟨gAd "_is_between", "_is_between", "_is_between", s_is_between, []⟩
theorem sc_is_between : FnScope ["value", "least", "greatest"] ["value", "least", "greatest"] (defScope s_is_between) := ⟨rfl, rfl, rfl, by decide +kernel, rfl, by decide +kernel, by decide +kernel⟩
abbrev s_written : Stmt := top 47
def d_written : Dx := ⟨gAd "_written", "_written", "_written", s_written, []⟩
theorem sc_written : FnScope ["word", "arguments", "between", "argument"] ["word", "arguments"] (defScope s_written) := ⟨rfl, rfl, rfl, by decide +kernel, rfl, by decide +kernel, by decide +kernel⟩
abbrev s_Signal_init : Stmt := inClass (top 48) 0
def d_Signal_init : Dx := ⟨mAd "Signal" "__init__", "__init__", "Signal.__init__", s_Signal_init, []⟩
theorem sc_Signal_init : FnScope ["self", "text", "inside", "amount", "parts", "signal", "depth"] ["self", "text", "inside", "amount"] (defScope s_Signal_init) := ⟨rfl, rfl, rfl, by decide +kernel, rfl, by decide +kernel, by decide +kernel⟩
abbrev s_Signal_inside : Stmt := inClass (top 48) 1
def d_Signal_inside : Dx := ⟨getAd "Signal" "inside", "inside", "Signal.inside", s_Signal_inside, []⟩
theorem sc_Signal_inside : FnScope ["self"] ["self"] (defScope s_Signal_inside) := ⟨rfl, rfl, rfl, by decide +kernel, rfl, by decide +kernel, by decide +kernel⟩
abbrev s_Signal_amount : Stmt := inClass (top 48) 2
def d_Signal_amount : Dx := ⟨getAd "Signal" "amount", "amount", "Signal.amount", s_Signal_amount, []⟩
theorem sc_Signal_amount : FnScope ["self"] ["self"] (defScope s_Signal_amount) := ⟨rfl, rfl, rfl, by decide +kernel, rfl, by decide +kernel, by decide +kernel⟩
abbrev s_Signal_names : Stmt := inClass (top 48) 3
def d_Signal_names : Dx := ⟨getAd "Signal" "names", "names", "Signal.names", s_Signal_names, []⟩
theorem sc_Signal_names : FnScope ["self", "signal", "name"] ["self"] (defScope s_Signal_names) := ⟨rfl, rfl, rfl, by decide +kernel, rfl, by decide +kernel, by decide +kernel⟩
abbrev s_Signal_parts : Stmt := inClass (top 48) 4
def d_Signal_parts : Dx := ⟨getAd "Signal" "parts", "parts", "Signal.parts", s_Signal_parts, []⟩
theorem sc_Signal_parts : FnScope ["self"] ["self"] (defScope s_Signal_parts) := ⟨rfl, rfl, rfl, by decide +kernel, rfl, by decide +kernel, by decide +kernel⟩
abbrev s_Signal_depth : Stmt := inClass (top 48) 5
def d_Signal_depth : Dx := ⟨getAd "Signal" "depth", "depth", "Signal.depth", s_Signal_depth, []⟩
theorem sc_Signal_depth : FnScope ["self"] ["self"] (defScope s_Signal_depth) := ⟨rfl, rfl, rfl, by decide +kernel, rfl, by decide +kernel, by decide +kernel⟩
abbrev s_Signal_add : Stmt := inClass (top 48) 6
def d_Signal_add : Dx := ⟨mAd "Signal" "__add__", "__add__", "Signal.__add__", s_Signal_add, []⟩
theorem sc_Signal_add : FnScope ["self", "other"] ["self", "other"] (defScope s_Signal_add) := ⟨rfl, rfl, rfl, by decide +kernel, rfl, by decide +kernel, by decide +kernel⟩
abbrev s_Signal_sub : Stmt := inClass (top 48) 7
def d_Signal_sub : Dx := ⟨mAd "Signal" "__sub__", "__sub__", "Signal.__sub__", s_Signal_sub, []⟩
theorem sc_Signal_sub : FnScope ["self", "other"] ["self", "other"] (defScope s_Signal_sub) := ⟨rfl, rfl, rfl, by decide +kernel, rfl, by decide +kernel, by decide +kernel⟩
abbrev s_Signal_neg : Stmt := inClass (top 48) 8
def d_Signal_neg : Dx := ⟨mAd "Signal" "__neg__", "__neg__", "Signal.__neg__", s_Signal_neg, []⟩
theorem sc_Signal_neg : FnScope ["self"] ["self"] (defScope s_Signal_neg) := ⟨rfl, rfl, rfl, by decide +kernel, rfl, by decide +kernel, by decide +kernel⟩
abbrev s_Signal_mul : Stmt := inClass (top 48) 9
def d_Signal_mul : Dx := ⟨mAd "Signal" "__mul__", "__mul__", "Signal.__mul__", s_Signal_mul, []⟩
theorem sc_Signal_mul : FnScope ["self", "other"] ["self", "other"] (defScope s_Signal_mul) := ⟨rfl, rfl, rfl, by decide +kernel, rfl, by decide +kernel, by decide +kernel⟩
abbrev s_Signal_rshift : Stmt := inClass (top 48) 10
def d_Signal_rshift : Dx := ⟨mAd "Signal" "__rshift__", "__rshift__", "Signal.__rshift__", s_Signal_rshift, []⟩
theorem sc_Signal_rshift : FnScope ["self", "other"] ["self", "other"] (defScope s_Signal_rshift) := ⟨rfl, rfl, rfl, by decide +kernel, rfl, by decide +kernel, by decide +kernel⟩
abbrev s_Signal_floordiv : Stmt := inClass (top 48) 11
def d_Signal_floordiv : Dx := ⟨mAd "Signal" "__floordiv__", "__floordiv__", "Signal.__floordiv__", s_Signal_floordiv, []⟩
theorem sc_Signal_floordiv : FnScope ["self", "other"] ["self", "other"] (defScope s_Signal_floordiv) := ⟨rfl, rfl, rfl, by decide +kernel, rfl, by decide +kernel, by decide +kernel⟩
abbrev s_Signal_pow : Stmt := inClass (top 48) 12
def d_Signal_pow : Dx := ⟨mAd "Signal" "__pow__", "__pow__", "Signal.__pow__", s_Signal_pow, []⟩
theorem sc_Signal_pow : FnScope ["self", "other"] ["self", "other"] (defScope s_Signal_pow) := ⟨rfl, rfl, rfl, by decide +kernel, rfl, by decide +kernel, by decide +kernel⟩
abbrev s_Signal_eq : Stmt := inClass (top 48) 13
def d_Signal_eq : Dx := ⟨mAd "Signal" "__eq__", "__eq__", "Signal.__eq__", s_Signal_eq, []⟩
theorem sc_Signal_eq : FnScope ["self", "other"] ["self", "other"] (defScope s_Signal_eq) := ⟨rfl, rfl, rfl, by decide +kernel, rfl, by decide +kernel, by decide +kernel⟩
abbrev s_Signal_str : Stmt := inClass (top 48) 14
def d_Signal_str : Dx := ⟨mAd "Signal" "__str__", "__str__", "Signal.__str__", s_Signal_str, []⟩
theorem sc_Signal_str : FnScope ["self"] ["self"] (defScope s_Signal_str) := ⟨rfl, rfl, rfl, by decide +kernel, rfl, by decide +kernel, by decide +kernel⟩
abbrev s_Signal_repr : Stmt := inClass (top 48) 15
def d_Signal_repr : Dx := ⟨mAd "Signal" "__repr__", "__repr__", "Signal.__repr__", s_Signal_repr, []⟩
theorem sc_Signal_repr : FnScope ["self"] ["self"] (defScope s_Signal_repr) := ⟨rfl, rfl, rfl, by decide +kernel, rfl, by decide +kernel, by decide +kernel⟩
abbrev s_Name_init : Stmt := inClass (top 49) 1
def d_Name_init : Dx := ⟨mAd "Name" "__init__", "__init__", "Name.__init__", s_Name_init, []⟩
theorem sc_Name_init : FnScope ["self", "name"] ["self", "name"] (defScope s_Name_init) := ⟨rfl, rfl, rfl, by decide +kernel, rfl, by decide +kernel, by decide +kernel⟩
abbrev s_Sum_init : Stmt := inClass (top 50) 1
def d_Sum_init : Dx := ⟨mAd "Sum" "__init__", "__init__", "Sum.__init__", s_Sum_init, []⟩
theorem sc_Sum_init : FnScope ["self", "terms", "index", "term"] ["self", "terms"] (defScope s_Sum_init) := ⟨rfl, rfl, rfl, by decide +kernel, rfl, by decide +kernel, by decide +kernel⟩
abbrev s_Times_init : Stmt := inClass (top 51) 1
def d_Times_init : Dx := ⟨mAd "Times" "__init__", "__init__", "Times.__init__", s_Times_init, []⟩
theorem sc_Times_init : FnScope ["self", "number", "signal", "gain"] ["self", "number", "signal"] (defScope s_Times_init) := ⟨rfl, rfl, rfl, by decide +kernel, rfl, by decide +kernel, by decide +kernel⟩
abbrev s_Late_init : Stmt := inClass (top 52) 1
def d_Late_init : Dx := ⟨mAd "Late" "__init__", "__init__", "Late.__init__", s_Late_init, []⟩
theorem sc_Late_init : FnScope ["self", "signal", "count"] ["self", "signal", "count"] (defScope s_Late_init) := ⟨rfl, rfl, rfl, by decide +kernel, rfl, by decide +kernel, by decide +kernel⟩
abbrev s_Every_init : Stmt := inClass (top 53) 1
def d_Every_init : Dx := ⟨mAd "Every" "__init__", "__init__", "Every.__init__", s_Every_init, []⟩
theorem sc_Every_init : FnScope ["self", "signal", "step"] ["self", "signal", "step"] (defScope s_Every_init) := ⟨rfl, rfl, rfl, by decide +kernel, rfl, by decide +kernel, by decide +kernel⟩
abbrev s_Spread_init : Stmt := inClass (top 54) 1
def d_Spread_init : Dx := ⟨mAd "Spread" "__init__", "__init__", "Spread.__init__", s_Spread_init, []⟩
theorem sc_Spread_init : FnScope ["self", "signal", "step"] ["self", "signal", "step"] (defScope s_Spread_init) := ⟨rfl, rfl, rfl, by decide +kernel, rfl, by decide +kernel, by decide +kernel⟩
abbrev s_l_cell : Stmt := top 56
def d_l_cell : Dx := ⟨gAd "_law_cell", "_law_cell", "_law_cell", s_l_cell, []⟩
theorem sc_l_cell : FnScope ["_law_script", "_law_k", "_law_found", "_law_each"] ["_law_script", "_law_k"] (defScope s_l_cell) := ⟨rfl, rfl, rfl, by decide +kernel, rfl, by decide +kernel, by decide +kernel⟩
abbrev s_l_source : Stmt := top 57
def d_l_source : Dx := ⟨gAd "_law_source", "_law_source", "_law_source", s_l_source, []⟩
theorem sc_l_source : FnScope ["_law_cell_here"] ["_law_cell_here"] (defScope s_l_source) := ⟨rfl, rfl, rfl, by decide +kernel, rfl, by decide +kernel, by decide +kernel⟩
abbrev s_l_pick : Stmt := top 58
def d_l_pick : Dx := ⟨gAd "_law_pick", "_law_pick", "_law_pick", s_l_pick, []⟩
theorem sc_l_pick : FnScope ["_law_source_here", "_law_many", "_law_state", "_law_more", "_law_digit"] ["_law_source_here", "_law_many"] (defScope s_l_pick) := ⟨rfl, rfl, rfl, by decide +kernel, rfl, by decide +kernel, by decide +kernel⟩
abbrev s_l_tag : Stmt := top 59
def d_l_tag : Dx := ⟨gAd "_law_tag", "_law_tag", "_law_tag", s_l_tag, []⟩
theorem sc_l_tag : FnScope ["_law_source_here", "_law_signs", "_law_found", "_law_turn"] ["_law_source_here"] (defScope s_l_tag) := ⟨rfl, rfl, rfl, by decide +kernel, rfl, by decide +kernel, by decide +kernel⟩
abbrev s_l_tags : Stmt := top 60
def d_l_tags : Dx := ⟨gAd "_law_tags", "_law_tags", "_law_tags", s_l_tags, []⟩
theorem sc_l_tags : FnScope ["_law_source_here", "_law_many", "_law_signs", "_law_found", "_law_turn", "_law_tag_here", "_law_some", "_law_sign", "_law_each"] ["_law_source_here", "_law_many"] (defScope s_l_tags) := ⟨rfl, rfl, rfl, by decide +kernel, rfl, by decide +kernel, by decide +kernel⟩
abbrev s_l_total : Stmt := top 61
def d_l_total : Dx := ⟨gAd "_law_total", "_law_total", "_law_total", s_l_total, []⟩
theorem sc_l_total : FnScope ["_law_some"] ["_law_some"] (defScope s_l_total) := ⟨rfl, rfl, rfl, by decide +kernel, rfl, by decide +kernel, by decide +kernel⟩
abbrev s_l_sort : Stmt := top 62
def d_l_sort : Dx := ⟨gAd "_law_sort", "_law_sort", "_law_sort", s_l_sort, []⟩
theorem sc_l_sort : FnScope ["_law_e", "_law_some", "_law_own", "_law_k", "_law_bases"] ["_law_e"] (defScope s_l_sort) := ⟨rfl, rfl, rfl, by decide +kernel, rfl, by decide +kernel, by decide +kernel⟩
abbrev s_l_field : Stmt := top 63
def d_l_field : Dx := ⟨gAd "_law_field", "_law_field", "_law_field", s_l_field, []⟩
theorem sc_l_field : FnScope ["_law_e", "_law_word"] ["_law_e", "_law_word"] (defScope s_l_field) := ⟨rfl, rfl, rfl, by decide +kernel, rfl, by decide +kernel, by decide +kernel⟩
abbrev s_l_caught : Stmt := top 64
def d_l_caught : Dx := ⟨gAd "_law_caught", "_law_caught", "_law_caught", s_l_caught, []⟩
theorem sc_l_caught : FnScope ["_law_act", "_law_told", "_law_e", "_law_word"] ["_law_act"] (defScope s_l_caught) := ⟨rfl, rfl, rfl, by decide +kernel, rfl, by decide +kernel, by decide +kernel⟩
abbrev s_l_odd : Stmt := top 65
def d_l_odd : Dx := ⟨gAd "_law_odd", "_law_odd", "_law_odd", s_l_odd, []⟩
theorem sc_l_odd : FnScope ["_law_source_here", "_law_mate", "_law_some"] ["_law_source_here", "_law_mate"] (defScope s_l_odd) := ⟨rfl, rfl, rfl, by decide +kernel, rfl, by decide +kernel, by decide +kernel⟩
abbrev s_l_names_right : Stmt := top 66
def d_l_names_right : Dx := ⟨gAd "_law_names_right", "_law_names_right", "_law_names_right", s_l_names_right, []⟩
theorem sc_l_names_right : FnScope ["_law_source_here", "_law_some", "_law_at", "_law_odd_here", "_law_found"] ["_law_source_here"] (defScope s_l_names_right) := ⟨rfl, rfl, rfl, by decide +kernel, rfl, by decide +kernel, by decide +kernel⟩
abbrev s_l_sums_right : Stmt := top 67
def d_l_sums_right : Dx := ⟨gAd "_law_sums_right", "_law_sums_right", "_law_sums_right", s_l_sums_right, []⟩
theorem sc_l_sums_right : FnScope ["_law_source_here", "_law_mate", "_law_many", "_law_some", "_law_at", "_law_odd_here", "_law_later", "_law_found"] ["_law_source_here"] (defScope s_l_sums_right) := ⟨rfl, rfl, rfl, by decide +kernel, rfl, by decide +kernel, by decide +kernel⟩
abbrev s_l_pairs_right : Stmt := top 68
def d_l_pairs_right : Dx := ⟨gAd "_law_pairs_right", "_law_pairs_right", "_law_pairs_right", s_l_pairs_right, []⟩
theorem sc_l_pairs_right : FnScope ["_law_source_here", "_law_mate", "_law_odd_here", "_law_bad", "_law_gain", "_law_found", "_law_wrong"] ["_law_source_here"] (defScope s_l_pairs_right) := ⟨rfl, rfl, rfl, by decide +kernel, rfl, by decide +kernel, by decide +kernel⟩
abbrev s_l_limits_right : Stmt := top 69
def d_l_limits_right : Dx := ⟨gAd "_law_limits_right", "_law_limits_right", "_law_limits_right", s_l_limits_right, []⟩
theorem sc_l_limits_right : FnScope ["_law_source_here", "_law_mate", "_law_by", "_law_deep", "_law_five", "_law_eleven", "_law_twelve", "_law_base", "_law_limit", "_law_found", "_law_wrong"] ["_law_source_here"] (defScope s_l_limits_right) := ⟨rfl, rfl, rfl, by decide +kernel, rfl, by decide +kernel, by decide +kernel⟩
abbrev s_law : Stmt := top 70
def d_law : Dx := ⟨gAd "law", "law", "law", s_law, []⟩
theorem sc_law : FnScope ["_law_script", "_law_k", "_law_source_here", "_law_turn"] ["_law_script"] (defScope s_law) := ⟨rfl, rfl, rfl, by decide +kernel, rfl, by decide +kernel, by decide +kernel⟩
def FN : List Dx := [d_InvalidName_init, d_InvalidStep_init, d_InvalidGain_init, d_InvalidCount_init, d_NotASignal_init, d_InvalidTerms_init, d_TooMany_init, d_is_integer, d_is_number, d_as_number, d_Number_init, d_Number_top, d_Number_bottom, d_Number_str, d_Number_repr, d_is_name, d_is_gain, d_is_between, d_written, d_Signal_init, d_Signal_names, d_Signal_parts, d_Signal_depth, d_Signal_neg, d_Signal_mul, d_Signal_eq, d_Signal_str, d_Signal_repr, d_Name_init, d_Sum_init, d_Times_init, d_Late_init, d_Every_init, d_Spread_init, d_l_cell, d_l_source, d_l_pick, d_l_tag, d_l_tags, d_l_total, d_l_sort, d_l_field, d_l_caught, d_l_odd, d_l_names_right, d_l_sums_right, d_l_pairs_right, d_l_limits_right, d_law]
def FA : List Tst := [tGlo "is_integer",
  tGlo "is_number",
  tGlo "as_number",
  tGlo "is_name",
  tGlo "_is_gain",
  tGlo "_is_between",
  tGlo "_written",
  tGlo "_law_cell",
  tGlo "_law_source",
  tGlo "_law_pick",
  tGlo "_law_tag",
  tGlo "_law_tags",
  tGlo "_law_total",
  tGlo "_law_sort",
  tGlo "_law_field",
  tGlo "_law_caught",
  tGlo "_law_odd",
  tGlo "_law_names_right",
  tGlo "_law_sums_right",
  tGlo "_law_pairs_right",
  tGlo "_law_limits_right",
  tGlo "law",
  tBlt "gcd" "math.gcd",
  tInt "MAX_PARTS" 12,
  tInt "MAX_DEPTH" 5,
  tInt "MAX_TERMS" 5,
  tInt "MAX_GAIN" 99,
  tInt "MAX_STEP" 6,
  tStr "LETTERS" "abcdefghijklmnopqrstuvwxyz",
  tStr "NAME_SIGNS" "abcdefghijklmnopqrstuvwxyz0123456789",
  tInt "MAX_NAME" 8,
  tInt "MAX_DELAY" 6,
  tFree "abs",
  tFree "all",
  tFree "bool",
  tFree "divmod",
  tFree "enumerate",
  tFree "int",
  tFree "isinstance",
  tFree "len",
  tFree "max",
  tFree "min",
  tFree "range",
  tFree "repr",
  tFree "set",
  tFree "sorted",
  tFree "str",
  tFree "sum",
  tFree "tuple",
  tGlo "InputError",
  tGlo "InvalidName",
  tGlo "InvalidText",
  tGlo "InvalidStep",
  tGlo "InvalidGain",
  tGlo "InvalidCount",
  tGlo "NotASignal",
  tGlo "InvalidTerms",
  tGlo "InvalidInputs",
  tGlo "InvalidOutputs",
  tGlo "NetError",
  tGlo "NoOutput",
  tGlo "UnknownName",
  tGlo "NameTaken",
  tGlo "TwoRates",
  tGlo "NoRate",
  tGlo "RingWithoutDelay",
  tGlo "StateError",
  tGlo "LimitError",
  tGlo "TooMany",
  tGlo "TooLarge",
  tGlo "Number",
  tGlo "Signal",
  tGlo "Name",
  tGlo "Sum",
  tGlo "Times",
  tGlo "Late",
  tGlo "Every",
  tGlo "Spread",
  tCls "Number",
  tMkr "Number",
  tNoat "Number" "_top",
  tNoat "Number" "_bottom",
  tProp "Number" "top",
  tProp "Number" "bottom",
  tMeth "Number" "__str__",
  tIns "Number",
  tKitO "Number" "Number" true,
  tKit "int" "Number" false,
  tKitB "Number" "int" false,
  tSub "Name" "Signal" "name" ["_text", "_inside", "_amount", "_parts", "_depth"] ["names", "parts", "depth"] ["__str__", "__repr__", "__eq__"],
  tSub "Sum" "Signal" "sum" ["_text", "_inside", "_amount", "_parts", "_depth"] ["names", "parts", "depth"] ["__str__", "__repr__", "__eq__"],
  tSub "Times" "Signal" "times" ["_text", "_inside", "_amount", "_parts", "_depth"] ["names", "parts", "depth"] ["__str__", "__repr__", "__eq__"],
  tSub "Late" "Signal" "late" ["_text", "_inside", "_amount", "_parts", "_depth"] ["names", "parts", "depth"] ["__str__", "__repr__", "__eq__"],
  tSub "Every" "Signal" "every" ["_text", "_inside", "_amount", "_parts", "_depth"] ["names", "parts", "depth"] ["__str__", "__repr__", "__eq__"],
  tSub "Spread" "Signal" "spread" ["_text", "_inside", "_amount", "_parts", "_depth"] ["names", "parts", "depth"] ["__str__", "__repr__", "__eq__"],
  tKits "Name" [("Signal", true), ("Name", true), ("Sum", false), ("Times", false), ("Late", false), ("Every", false), ("Spread", false)],
  tKits "Sum" [("Signal", true), ("Name", false), ("Sum", true), ("Times", false), ("Late", false), ("Every", false), ("Spread", false)],
  tKits "Times" [("Signal", true), ("Name", false), ("Sum", false), ("Times", true), ("Late", false), ("Every", false), ("Spread", false)],
  tKits "Late" [("Signal", true), ("Name", false), ("Sum", false), ("Times", false), ("Late", true), ("Every", false), ("Spread", false)],
  tKits "Every" [("Signal", true), ("Name", false), ("Sum", false), ("Times", false), ("Late", false), ("Every", true), ("Spread", false)],
  tKits "Spread" [("Signal", true), ("Name", false), ("Sum", false), ("Times", false), ("Late", false), ("Every", false), ("Spread", true)],
  tUnbT "Signal" "__init__",
  tAll [tKit "str" "Signal" false, tKit "NoneType" "Signal" false, tKit "int" "Signal" false, tKit "tuple" "Signal" false, tKit "list" "Signal" false, tKitO "Number" "Signal" false],
  tVe "InvalidName",
  tTyp "InvalidName",
  tInit "InvalidName",
  tXfc "InvalidName",
  tNof "InvalidName" "value",
  tAll [tExm "InvalidName" "InputError" true, tExm "InvalidName" "NetError" false, tExm "InvalidName" "LimitError" false, tExm "InvalidName" "StateError" false],
  tAll [tKitO "InvalidName" "InvalidName" true, tKitO "InvalidName" "InvalidText" false, tKitO "InvalidName" "InvalidStep" false, tKitO "InvalidName" "InvalidGain" false, tKitO "InvalidName" "InvalidCount" false, tKitO "InvalidName" "NotASignal" false, tKitO "InvalidName" "InvalidTerms" false, tKitO "InvalidName" "InvalidInputs" false, tKitO "InvalidName" "InvalidOutputs" false, tKitO "InvalidName" "NoOutput" false, tKitO "InvalidName" "UnknownName" false, tKitO "InvalidName" "NameTaken" false, tKitO "InvalidName" "TwoRates" false, tKitO "InvalidName" "NoRate" false, tKitO "InvalidName" "RingWithoutDelay" false, tKitO "InvalidName" "TooMany" false, tKitO "InvalidName" "TooLarge" false, tKitO "InvalidName" "InputError" true, tKitO "InvalidName" "NetError" false, tKitO "InvalidName" "LimitError" false, tKitO "InvalidName" "StateError" false],
  tVe "InvalidStep",
  tTyp "InvalidStep",
  tInit "InvalidStep",
  tXfc "InvalidStep",
  tNof "InvalidStep" "value",
  tAll [tExm "InvalidStep" "InputError" true, tExm "InvalidStep" "NetError" false, tExm "InvalidStep" "LimitError" false, tExm "InvalidStep" "StateError" false],
  tAll [tKitO "InvalidStep" "InvalidName" false, tKitO "InvalidStep" "InvalidText" false, tKitO "InvalidStep" "InvalidStep" true, tKitO "InvalidStep" "InvalidGain" false, tKitO "InvalidStep" "InvalidCount" false, tKitO "InvalidStep" "NotASignal" false, tKitO "InvalidStep" "InvalidTerms" false, tKitO "InvalidStep" "InvalidInputs" false, tKitO "InvalidStep" "InvalidOutputs" false, tKitO "InvalidStep" "NoOutput" false, tKitO "InvalidStep" "UnknownName" false, tKitO "InvalidStep" "NameTaken" false, tKitO "InvalidStep" "TwoRates" false, tKitO "InvalidStep" "NoRate" false, tKitO "InvalidStep" "RingWithoutDelay" false, tKitO "InvalidStep" "TooMany" false, tKitO "InvalidStep" "TooLarge" false, tKitO "InvalidStep" "InputError" true, tKitO "InvalidStep" "NetError" false, tKitO "InvalidStep" "LimitError" false, tKitO "InvalidStep" "StateError" false],
  tVe "InvalidGain",
  tTyp "InvalidGain",
  tInit "InvalidGain",
  tXfc "InvalidGain",
  tNof "InvalidGain" "value",
  tAll [tExm "InvalidGain" "InputError" true, tExm "InvalidGain" "NetError" false, tExm "InvalidGain" "LimitError" false, tExm "InvalidGain" "StateError" false],
  tAll [tKitO "InvalidGain" "InvalidName" false, tKitO "InvalidGain" "InvalidText" false, tKitO "InvalidGain" "InvalidStep" false, tKitO "InvalidGain" "InvalidGain" true, tKitO "InvalidGain" "InvalidCount" false, tKitO "InvalidGain" "NotASignal" false, tKitO "InvalidGain" "InvalidTerms" false, tKitO "InvalidGain" "InvalidInputs" false, tKitO "InvalidGain" "InvalidOutputs" false, tKitO "InvalidGain" "NoOutput" false, tKitO "InvalidGain" "UnknownName" false, tKitO "InvalidGain" "NameTaken" false, tKitO "InvalidGain" "TwoRates" false, tKitO "InvalidGain" "NoRate" false, tKitO "InvalidGain" "RingWithoutDelay" false, tKitO "InvalidGain" "TooMany" false, tKitO "InvalidGain" "TooLarge" false, tKitO "InvalidGain" "InputError" true, tKitO "InvalidGain" "NetError" false, tKitO "InvalidGain" "LimitError" false, tKitO "InvalidGain" "StateError" false],
  tVe "InvalidCount",
  tTyp "InvalidCount",
  tInit "InvalidCount",
  tXfc "InvalidCount",
  tNof "InvalidCount" "value",
  tAll [tExm "InvalidCount" "InputError" true, tExm "InvalidCount" "NetError" false, tExm "InvalidCount" "LimitError" false, tExm "InvalidCount" "StateError" false],
  tAll [tKitO "InvalidCount" "InvalidName" false, tKitO "InvalidCount" "InvalidText" false, tKitO "InvalidCount" "InvalidStep" false, tKitO "InvalidCount" "InvalidGain" false, tKitO "InvalidCount" "InvalidCount" true, tKitO "InvalidCount" "NotASignal" false, tKitO "InvalidCount" "InvalidTerms" false, tKitO "InvalidCount" "InvalidInputs" false, tKitO "InvalidCount" "InvalidOutputs" false, tKitO "InvalidCount" "NoOutput" false, tKitO "InvalidCount" "UnknownName" false, tKitO "InvalidCount" "NameTaken" false, tKitO "InvalidCount" "TwoRates" false, tKitO "InvalidCount" "NoRate" false, tKitO "InvalidCount" "RingWithoutDelay" false, tKitO "InvalidCount" "TooMany" false, tKitO "InvalidCount" "TooLarge" false, tKitO "InvalidCount" "InputError" true, tKitO "InvalidCount" "NetError" false, tKitO "InvalidCount" "LimitError" false, tKitO "InvalidCount" "StateError" false],
  tVe "NotASignal",
  tTyp "NotASignal",
  tInit "NotASignal",
  tXfc "NotASignal",
  tNof "NotASignal" "value",
  tAll [tExm "NotASignal" "InputError" true, tExm "NotASignal" "NetError" false, tExm "NotASignal" "LimitError" false, tExm "NotASignal" "StateError" false],
  tAll [tKitO "NotASignal" "InvalidName" false, tKitO "NotASignal" "InvalidText" false, tKitO "NotASignal" "InvalidStep" false, tKitO "NotASignal" "InvalidGain" false, tKitO "NotASignal" "InvalidCount" false, tKitO "NotASignal" "NotASignal" true, tKitO "NotASignal" "InvalidTerms" false, tKitO "NotASignal" "InvalidInputs" false, tKitO "NotASignal" "InvalidOutputs" false, tKitO "NotASignal" "NoOutput" false, tKitO "NotASignal" "UnknownName" false, tKitO "NotASignal" "NameTaken" false, tKitO "NotASignal" "TwoRates" false, tKitO "NotASignal" "NoRate" false, tKitO "NotASignal" "RingWithoutDelay" false, tKitO "NotASignal" "TooMany" false, tKitO "NotASignal" "TooLarge" false, tKitO "NotASignal" "InputError" true, tKitO "NotASignal" "NetError" false, tKitO "NotASignal" "LimitError" false, tKitO "NotASignal" "StateError" false],
  tVe "InvalidTerms",
  tTyp "InvalidTerms",
  tInit "InvalidTerms",
  tXfc "InvalidTerms",
  tNof "InvalidTerms" "index",
  tAll [tExm "InvalidTerms" "InputError" true, tExm "InvalidTerms" "NetError" false, tExm "InvalidTerms" "LimitError" false, tExm "InvalidTerms" "StateError" false],
  tAll [tKitO "InvalidTerms" "InvalidName" false, tKitO "InvalidTerms" "InvalidText" false, tKitO "InvalidTerms" "InvalidStep" false, tKitO "InvalidTerms" "InvalidGain" false, tKitO "InvalidTerms" "InvalidCount" false, tKitO "InvalidTerms" "NotASignal" false, tKitO "InvalidTerms" "InvalidTerms" true, tKitO "InvalidTerms" "InvalidInputs" false, tKitO "InvalidTerms" "InvalidOutputs" false, tKitO "InvalidTerms" "NoOutput" false, tKitO "InvalidTerms" "UnknownName" false, tKitO "InvalidTerms" "NameTaken" false, tKitO "InvalidTerms" "TwoRates" false, tKitO "InvalidTerms" "NoRate" false, tKitO "InvalidTerms" "RingWithoutDelay" false, tKitO "InvalidTerms" "TooMany" false, tKitO "InvalidTerms" "TooLarge" false, tKitO "InvalidTerms" "InputError" true, tKitO "InvalidTerms" "NetError" false, tKitO "InvalidTerms" "LimitError" false, tKitO "InvalidTerms" "StateError" false],
  tVe "TooMany",
  tTyp "TooMany",
  tInit "TooMany",
  tXfc "TooMany",
  tNof "TooMany" "limit",
  tAll [tExm "TooMany" "InputError" false, tExm "TooMany" "NetError" false, tExm "TooMany" "LimitError" true, tExm "TooMany" "StateError" false],
  tAll [tKitO "TooMany" "InvalidName" false, tKitO "TooMany" "InvalidText" false, tKitO "TooMany" "InvalidStep" false, tKitO "TooMany" "InvalidGain" false, tKitO "TooMany" "InvalidCount" false, tKitO "TooMany" "NotASignal" false, tKitO "TooMany" "InvalidTerms" false, tKitO "TooMany" "InvalidInputs" false, tKitO "TooMany" "InvalidOutputs" false, tKitO "TooMany" "NoOutput" false, tKitO "TooMany" "UnknownName" false, tKitO "TooMany" "NameTaken" false, tKitO "TooMany" "TwoRates" false, tKitO "TooMany" "NoRate" false, tKitO "TooMany" "RingWithoutDelay" false, tKitO "TooMany" "TooMany" true, tKitO "TooMany" "TooLarge" false, tKitO "TooMany" "InputError" false, tKitO "TooMany" "NetError" false, tKitO "TooMany" "LimitError" true, tKitO "TooMany" "StateError" false],
  tMeth "Number" "__repr__",
  tAll [tKit "NoneType" "Number" false, tKit "bool" "Number" false, tKit "str" "Number" false, tKit "tuple" "Number" false, tKit "list" "Number" false, tKit "dict" "Number" false],
  tAll [tKit "bool" "Signal" false, tKit "dict" "Signal" false],
  tKitB "Number" "str" false,
  tKitB "Name" "str" false,
  tKitB "Name" "int" false,
  tKitO "Name" "Number" false,
  tBin "Every" "mul",
  tRight "Every" "mul" "int",
  tSame "Every" "Signal" "__mul__",
  tAll [tMeth "Sum" "__neg__", tSame "Sum" "Signal" "__neg__"],
  tTabs [d_l_names_right, d_l_sums_right, d_l_pairs_right, d_l_limits_right]]
abbrev Sy (K : Fr) : Prop := Says FA FN K
theorem f_glo_is_integer {K : Fr} (c : Sy K) : (tGlo "is_integer") K = true := c.tst 0
theorem f_glo_is_number {K : Fr} (c : Sy K) : (tGlo "is_number") K = true := c.tst 1
theorem f_glo_as_number {K : Fr} (c : Sy K) : (tGlo "as_number") K = true := c.tst 2
theorem f_glo_is_name {K : Fr} (c : Sy K) : (tGlo "is_name") K = true := c.tst 3
theorem f_glo_is_gain {K : Fr} (c : Sy K) : (tGlo "_is_gain") K = true := c.tst 4
theorem f_glo_is_between {K : Fr} (c : Sy K) : (tGlo "_is_between") K = true := c.tst 5
theorem f_glo_written {K : Fr} (c : Sy K) : (tGlo "_written") K = true := c.tst 6
theorem f_glo_l_cell {K : Fr} (c : Sy K) : (tGlo "_law_cell") K = true := c.tst 7
theorem f_glo_l_source {K : Fr} (c : Sy K) : (tGlo "_law_source") K = true := c.tst 8
theorem f_glo_l_pick {K : Fr} (c : Sy K) : (tGlo "_law_pick") K = true := c.tst 9
theorem f_glo_l_tag {K : Fr} (c : Sy K) : (tGlo "_law_tag") K = true := c.tst 10
theorem f_glo_l_tags {K : Fr} (c : Sy K) : (tGlo "_law_tags") K = true := c.tst 11
theorem f_glo_l_total {K : Fr} (c : Sy K) : (tGlo "_law_total") K = true := c.tst 12
theorem f_glo_l_sort {K : Fr} (c : Sy K) : (tGlo "_law_sort") K = true := c.tst 13
theorem f_glo_l_field {K : Fr} (c : Sy K) : (tGlo "_law_field") K = true := c.tst 14
theorem f_glo_l_caught {K : Fr} (c : Sy K) : (tGlo "_law_caught") K = true := c.tst 15
theorem f_glo_l_odd {K : Fr} (c : Sy K) : (tGlo "_law_odd") K = true := c.tst 16
theorem f_glo_l_names_right {K : Fr} (c : Sy K) : (tGlo "_law_names_right") K = true := c.tst 17
theorem f_glo_l_sums_right {K : Fr} (c : Sy K) : (tGlo "_law_sums_right") K = true := c.tst 18
theorem f_glo_l_pairs_right {K : Fr} (c : Sy K) : (tGlo "_law_pairs_right") K = true := c.tst 19
theorem f_glo_l_limits_right {K : Fr} (c : Sy K) : (tGlo "_law_limits_right") K = true := c.tst 20
theorem f_glo_law {K : Fr} (c : Sy K) : (tGlo "law") K = true := c.tst 21
theorem f_blt_gcd {K : Fr} (c : Sy K) : (tBlt "gcd" "math.gcd") K = true := c.tst 22
theorem f_int_MAX_PARTS {K : Fr} (c : Sy K) : (tInt "MAX_PARTS" 12) K = true := c.tst 23
theorem f_int_MAX_DEPTH {K : Fr} (c : Sy K) : (tInt "MAX_DEPTH" 5) K = true := c.tst 24
theorem f_int_MAX_TERMS {K : Fr} (c : Sy K) : (tInt "MAX_TERMS" 5) K = true := c.tst 25
theorem f_int_MAX_GAIN {K : Fr} (c : Sy K) : (tInt "MAX_GAIN" 99) K = true := c.tst 26
theorem f_int_MAX_STEP {K : Fr} (c : Sy K) : (tInt "MAX_STEP" 6) K = true := c.tst 27
theorem f_str_LETTERS {K : Fr} (c : Sy K) : (tStr "LETTERS" "abcdefghijklmnopqrstuvwxyz") K = true := c.tst 28
theorem f_str_NAME_SIGNS {K : Fr} (c : Sy K) : (tStr "NAME_SIGNS" "abcdefghijklmnopqrstuvwxyz0123456789") K = true := c.tst 29
theorem f_int_MAX_NAME {K : Fr} (c : Sy K) : (tInt "MAX_NAME" 8) K = true := c.tst 30
theorem f_int_MAX_DELAY {K : Fr} (c : Sy K) : (tInt "MAX_DELAY" 6) K = true := c.tst 31
theorem f_free_abs {K : Fr} (c : Sy K) : (tFree "abs") K = true := c.tst 32
theorem f_free_all {K : Fr} (c : Sy K) : (tFree "all") K = true := c.tst 33
theorem f_free_bool {K : Fr} (c : Sy K) : (tFree "bool") K = true := c.tst 34
theorem f_free_divmod {K : Fr} (c : Sy K) : (tFree "divmod") K = true := c.tst 35
theorem f_free_enumerate {K : Fr} (c : Sy K) : (tFree "enumerate") K = true := c.tst 36
theorem f_free_int {K : Fr} (c : Sy K) : (tFree "int") K = true := c.tst 37
theorem f_free_isinstance {K : Fr} (c : Sy K) : (tFree "isinstance") K = true := c.tst 38
theorem f_free_len {K : Fr} (c : Sy K) : (tFree "len") K = true := c.tst 39
theorem f_free_max {K : Fr} (c : Sy K) : (tFree "max") K = true := c.tst 40
theorem f_free_min {K : Fr} (c : Sy K) : (tFree "min") K = true := c.tst 41
theorem f_free_range {K : Fr} (c : Sy K) : (tFree "range") K = true := c.tst 42
theorem f_free_repr {K : Fr} (c : Sy K) : (tFree "repr") K = true := c.tst 43
theorem f_free_set {K : Fr} (c : Sy K) : (tFree "set") K = true := c.tst 44
theorem f_free_sorted {K : Fr} (c : Sy K) : (tFree "sorted") K = true := c.tst 45
theorem f_free_str {K : Fr} (c : Sy K) : (tFree "str") K = true := c.tst 46
theorem f_free_sum {K : Fr} (c : Sy K) : (tFree "sum") K = true := c.tst 47
theorem f_free_tuple {K : Fr} (c : Sy K) : (tFree "tuple") K = true := c.tst 48
theorem f_glo_InputError {K : Fr} (c : Sy K) : (tGlo "InputError") K = true := c.tst 49
theorem f_glo_InvalidName {K : Fr} (c : Sy K) : (tGlo "InvalidName") K = true := c.tst 50
theorem f_glo_InvalidText {K : Fr} (c : Sy K) : (tGlo "InvalidText") K = true := c.tst 51
theorem f_glo_InvalidStep {K : Fr} (c : Sy K) : (tGlo "InvalidStep") K = true := c.tst 52
theorem f_glo_InvalidGain {K : Fr} (c : Sy K) : (tGlo "InvalidGain") K = true := c.tst 53
theorem f_glo_InvalidCount {K : Fr} (c : Sy K) : (tGlo "InvalidCount") K = true := c.tst 54
theorem f_glo_NotASignal {K : Fr} (c : Sy K) : (tGlo "NotASignal") K = true := c.tst 55
theorem f_glo_InvalidTerms {K : Fr} (c : Sy K) : (tGlo "InvalidTerms") K = true := c.tst 56
theorem f_glo_InvalidInputs {K : Fr} (c : Sy K) : (tGlo "InvalidInputs") K = true := c.tst 57
theorem f_glo_InvalidOutputs {K : Fr} (c : Sy K) : (tGlo "InvalidOutputs") K = true := c.tst 58
theorem f_glo_NetError {K : Fr} (c : Sy K) : (tGlo "NetError") K = true := c.tst 59
theorem f_glo_NoOutput {K : Fr} (c : Sy K) : (tGlo "NoOutput") K = true := c.tst 60
theorem f_glo_UnknownName {K : Fr} (c : Sy K) : (tGlo "UnknownName") K = true := c.tst 61
theorem f_glo_NameTaken {K : Fr} (c : Sy K) : (tGlo "NameTaken") K = true := c.tst 62
theorem f_glo_TwoRates {K : Fr} (c : Sy K) : (tGlo "TwoRates") K = true := c.tst 63
theorem f_glo_NoRate {K : Fr} (c : Sy K) : (tGlo "NoRate") K = true := c.tst 64
theorem f_glo_RingWithoutDelay {K : Fr} (c : Sy K) : (tGlo "RingWithoutDelay") K = true := c.tst 65
theorem f_glo_StateError {K : Fr} (c : Sy K) : (tGlo "StateError") K = true := c.tst 66
theorem f_glo_LimitError {K : Fr} (c : Sy K) : (tGlo "LimitError") K = true := c.tst 67
theorem f_glo_TooMany {K : Fr} (c : Sy K) : (tGlo "TooMany") K = true := c.tst 68
theorem f_glo_TooLarge {K : Fr} (c : Sy K) : (tGlo "TooLarge") K = true := c.tst 69
theorem f_glo_Number {K : Fr} (c : Sy K) : (tGlo "Number") K = true := c.tst 70
theorem f_glo_Signal {K : Fr} (c : Sy K) : (tGlo "Signal") K = true := c.tst 71
theorem f_glo_Name {K : Fr} (c : Sy K) : (tGlo "Name") K = true := c.tst 72
theorem f_glo_Sum {K : Fr} (c : Sy K) : (tGlo "Sum") K = true := c.tst 73
theorem f_glo_Times {K : Fr} (c : Sy K) : (tGlo "Times") K = true := c.tst 74
theorem f_glo_Late {K : Fr} (c : Sy K) : (tGlo "Late") K = true := c.tst 75
theorem f_glo_Every {K : Fr} (c : Sy K) : (tGlo "Every") K = true := c.tst 76
theorem f_glo_Spread {K : Fr} (c : Sy K) : (tGlo "Spread") K = true := c.tst 77
theorem f_cls_Number {K : Fr} (c : Sy K) : (tCls "Number") K = true := c.tst 78
theorem f_mkr_Number {K : Fr} (c : Sy K) : (tMkr "Number") K = true := c.tst 79
theorem f_noat_top {K : Fr} (c : Sy K) : (tNoat "Number" "_top") K = true := c.tst 80
theorem f_noat_bot {K : Fr} (c : Sy K) : (tNoat "Number" "_bottom") K = true := c.tst 81
theorem f_prop_top {K : Fr} (c : Sy K) : (tProp "Number" "top") K = true := c.tst 82
theorem f_prop_bottom {K : Fr} (c : Sy K) : (tProp "Number" "bottom") K = true := c.tst 83
theorem f_meth_str {K : Fr} (c : Sy K) : (tMeth "Number" "__str__") K = true := c.tst 84
theorem f_ins {K : Fr} (c : Sy K) : (tIns "Number") K = true := c.tst 85
theorem f_kitO {K : Fr} (c : Sy K) : (tKitO "Number" "Number" true) K = true := c.tst 86
theorem f_kit_int {K : Fr} (c : Sy K) : (tKit "int" "Number" false) K = true := c.tst 87
theorem f_kitB_int {K : Fr} (c : Sy K) : (tKitB "Number" "int" false) K = true := c.tst 88
theorem f_sub_Name {K : Fr} (c : Sy K) : (tSub "Name" "Signal" "name" ["_text", "_inside", "_amount", "_parts", "_depth"] ["names", "parts", "depth"] ["__str__", "__repr__", "__eq__"]) K = true := c.tst 89
theorem f_sub_Sum {K : Fr} (c : Sy K) : (tSub "Sum" "Signal" "sum" ["_text", "_inside", "_amount", "_parts", "_depth"] ["names", "parts", "depth"] ["__str__", "__repr__", "__eq__"]) K = true := c.tst 90
theorem f_sub_Times {K : Fr} (c : Sy K) : (tSub "Times" "Signal" "times" ["_text", "_inside", "_amount", "_parts", "_depth"] ["names", "parts", "depth"] ["__str__", "__repr__", "__eq__"]) K = true := c.tst 91
theorem f_sub_Late {K : Fr} (c : Sy K) : (tSub "Late" "Signal" "late" ["_text", "_inside", "_amount", "_parts", "_depth"] ["names", "parts", "depth"] ["__str__", "__repr__", "__eq__"]) K = true := c.tst 92
theorem f_sub_Every {K : Fr} (c : Sy K) : (tSub "Every" "Signal" "every" ["_text", "_inside", "_amount", "_parts", "_depth"] ["names", "parts", "depth"] ["__str__", "__repr__", "__eq__"]) K = true := c.tst 93
theorem f_sub_Spread {K : Fr} (c : Sy K) : (tSub "Spread" "Signal" "spread" ["_text", "_inside", "_amount", "_parts", "_depth"] ["names", "parts", "depth"] ["__str__", "__repr__", "__eq__"]) K = true := c.tst 94
theorem f_kits_Name {K : Fr} (c : Sy K) : (tKits "Name" [("Signal", true), ("Name", true), ("Sum", false), ("Times", false), ("Late", false), ("Every", false), ("Spread", false)]) K = true := c.tst 95
theorem f_kits_Sum {K : Fr} (c : Sy K) : (tKits "Sum" [("Signal", true), ("Name", false), ("Sum", true), ("Times", false), ("Late", false), ("Every", false), ("Spread", false)]) K = true := c.tst 96
theorem f_kits_Times {K : Fr} (c : Sy K) : (tKits "Times" [("Signal", true), ("Name", false), ("Sum", false), ("Times", true), ("Late", false), ("Every", false), ("Spread", false)]) K = true := c.tst 97
theorem f_kits_Late {K : Fr} (c : Sy K) : (tKits "Late" [("Signal", true), ("Name", false), ("Sum", false), ("Times", false), ("Late", true), ("Every", false), ("Spread", false)]) K = true := c.tst 98
theorem f_kits_Every {K : Fr} (c : Sy K) : (tKits "Every" [("Signal", true), ("Name", false), ("Sum", false), ("Times", false), ("Late", false), ("Every", true), ("Spread", false)]) K = true := c.tst 99
theorem f_kits_Spread {K : Fr} (c : Sy K) : (tKits "Spread" [("Signal", true), ("Name", false), ("Sum", false), ("Times", false), ("Late", false), ("Every", false), ("Spread", true)]) K = true := c.tst 100
theorem f_unb {K : Fr} (c : Sy K) : (tUnbT "Signal" "__init__") K = true := c.tst 101
theorem f_kitS {K : Fr} (c : Sy K) : (tAll [tKit "str" "Signal" false, tKit "NoneType" "Signal" false, tKit "int" "Signal" false, tKit "tuple" "Signal" false, tKit "list" "Signal" false, tKitO "Number" "Signal" false]) K = true := c.tst 102
theorem f_ve_InvalidName {K : Fr} (c : Sy K) : (tVe "InvalidName") K = true := c.tst 103
theorem f_typ_InvalidName {K : Fr} (c : Sy K) : (tTyp "InvalidName") K = true := c.tst 104
theorem f_init_InvalidName {K : Fr} (c : Sy K) : (tInit "InvalidName") K = true := c.tst 105
theorem f_xfc_InvalidName {K : Fr} (c : Sy K) : (tXfc "InvalidName") K = true := c.tst 106
theorem f_nof_InvalidName {K : Fr} (c : Sy K) : (tNof "InvalidName" "value") K = true := c.tst 107
theorem f_exm_InvalidName {K : Fr} (c : Sy K) : (tAll [tExm "InvalidName" "InputError" true, tExm "InvalidName" "NetError" false, tExm "InvalidName" "LimitError" false, tExm "InvalidName" "StateError" false]) K = true := c.tst 108
theorem f_srt_InvalidName {K : Fr} (c : Sy K) : (tAll [tKitO "InvalidName" "InvalidName" true, tKitO "InvalidName" "InvalidText" false, tKitO "InvalidName" "InvalidStep" false, tKitO "InvalidName" "InvalidGain" false, tKitO "InvalidName" "InvalidCount" false, tKitO "InvalidName" "NotASignal" false, tKitO "InvalidName" "InvalidTerms" false, tKitO "InvalidName" "InvalidInputs" false, tKitO "InvalidName" "InvalidOutputs" false, tKitO "InvalidName" "NoOutput" false, tKitO "InvalidName" "UnknownName" false, tKitO "InvalidName" "NameTaken" false, tKitO "InvalidName" "TwoRates" false, tKitO "InvalidName" "NoRate" false, tKitO "InvalidName" "RingWithoutDelay" false, tKitO "InvalidName" "TooMany" false, tKitO "InvalidName" "TooLarge" false, tKitO "InvalidName" "InputError" true, tKitO "InvalidName" "NetError" false, tKitO "InvalidName" "LimitError" false, tKitO "InvalidName" "StateError" false]) K = true := c.tst 109
theorem f_ve_InvalidStep {K : Fr} (c : Sy K) : (tVe "InvalidStep") K = true := c.tst 110
theorem f_typ_InvalidStep {K : Fr} (c : Sy K) : (tTyp "InvalidStep") K = true := c.tst 111
theorem f_init_InvalidStep {K : Fr} (c : Sy K) : (tInit "InvalidStep") K = true := c.tst 112
theorem f_xfc_InvalidStep {K : Fr} (c : Sy K) : (tXfc "InvalidStep") K = true := c.tst 113
theorem f_nof_InvalidStep {K : Fr} (c : Sy K) : (tNof "InvalidStep" "value") K = true := c.tst 114
theorem f_exm_InvalidStep {K : Fr} (c : Sy K) : (tAll [tExm "InvalidStep" "InputError" true, tExm "InvalidStep" "NetError" false, tExm "InvalidStep" "LimitError" false, tExm "InvalidStep" "StateError" false]) K = true := c.tst 115
theorem f_srt_InvalidStep {K : Fr} (c : Sy K) : (tAll [tKitO "InvalidStep" "InvalidName" false, tKitO "InvalidStep" "InvalidText" false, tKitO "InvalidStep" "InvalidStep" true, tKitO "InvalidStep" "InvalidGain" false, tKitO "InvalidStep" "InvalidCount" false, tKitO "InvalidStep" "NotASignal" false, tKitO "InvalidStep" "InvalidTerms" false, tKitO "InvalidStep" "InvalidInputs" false, tKitO "InvalidStep" "InvalidOutputs" false, tKitO "InvalidStep" "NoOutput" false, tKitO "InvalidStep" "UnknownName" false, tKitO "InvalidStep" "NameTaken" false, tKitO "InvalidStep" "TwoRates" false, tKitO "InvalidStep" "NoRate" false, tKitO "InvalidStep" "RingWithoutDelay" false, tKitO "InvalidStep" "TooMany" false, tKitO "InvalidStep" "TooLarge" false, tKitO "InvalidStep" "InputError" true, tKitO "InvalidStep" "NetError" false, tKitO "InvalidStep" "LimitError" false, tKitO "InvalidStep" "StateError" false]) K = true := c.tst 116
theorem f_ve_InvalidGain {K : Fr} (c : Sy K) : (tVe "InvalidGain") K = true := c.tst 117
theorem f_typ_InvalidGain {K : Fr} (c : Sy K) : (tTyp "InvalidGain") K = true := c.tst 118
theorem f_init_InvalidGain {K : Fr} (c : Sy K) : (tInit "InvalidGain") K = true := c.tst 119
theorem f_xfc_InvalidGain {K : Fr} (c : Sy K) : (tXfc "InvalidGain") K = true := c.tst 120
theorem f_nof_InvalidGain {K : Fr} (c : Sy K) : (tNof "InvalidGain" "value") K = true := c.tst 121
theorem f_exm_InvalidGain {K : Fr} (c : Sy K) : (tAll [tExm "InvalidGain" "InputError" true, tExm "InvalidGain" "NetError" false, tExm "InvalidGain" "LimitError" false, tExm "InvalidGain" "StateError" false]) K = true := c.tst 122
theorem f_srt_InvalidGain {K : Fr} (c : Sy K) : (tAll [tKitO "InvalidGain" "InvalidName" false, tKitO "InvalidGain" "InvalidText" false, tKitO "InvalidGain" "InvalidStep" false, tKitO "InvalidGain" "InvalidGain" true, tKitO "InvalidGain" "InvalidCount" false, tKitO "InvalidGain" "NotASignal" false, tKitO "InvalidGain" "InvalidTerms" false, tKitO "InvalidGain" "InvalidInputs" false, tKitO "InvalidGain" "InvalidOutputs" false, tKitO "InvalidGain" "NoOutput" false, tKitO "InvalidGain" "UnknownName" false, tKitO "InvalidGain" "NameTaken" false, tKitO "InvalidGain" "TwoRates" false, tKitO "InvalidGain" "NoRate" false, tKitO "InvalidGain" "RingWithoutDelay" false, tKitO "InvalidGain" "TooMany" false, tKitO "InvalidGain" "TooLarge" false, tKitO "InvalidGain" "InputError" true, tKitO "InvalidGain" "NetError" false, tKitO "InvalidGain" "LimitError" false, tKitO "InvalidGain" "StateError" false]) K = true := c.tst 123
theorem f_ve_InvalidCount {K : Fr} (c : Sy K) : (tVe "InvalidCount") K = true := c.tst 124
theorem f_typ_InvalidCount {K : Fr} (c : Sy K) : (tTyp "InvalidCount") K = true := c.tst 125
theorem f_init_InvalidCount {K : Fr} (c : Sy K) : (tInit "InvalidCount") K = true := c.tst 126
theorem f_xfc_InvalidCount {K : Fr} (c : Sy K) : (tXfc "InvalidCount") K = true := c.tst 127
theorem f_nof_InvalidCount {K : Fr} (c : Sy K) : (tNof "InvalidCount" "value") K = true := c.tst 128
theorem f_exm_InvalidCount {K : Fr} (c : Sy K) : (tAll [tExm "InvalidCount" "InputError" true, tExm "InvalidCount" "NetError" false, tExm "InvalidCount" "LimitError" false, tExm "InvalidCount" "StateError" false]) K = true := c.tst 129
theorem f_srt_InvalidCount {K : Fr} (c : Sy K) : (tAll [tKitO "InvalidCount" "InvalidName" false, tKitO "InvalidCount" "InvalidText" false, tKitO "InvalidCount" "InvalidStep" false, tKitO "InvalidCount" "InvalidGain" false, tKitO "InvalidCount" "InvalidCount" true, tKitO "InvalidCount" "NotASignal" false, tKitO "InvalidCount" "InvalidTerms" false, tKitO "InvalidCount" "InvalidInputs" false, tKitO "InvalidCount" "InvalidOutputs" false, tKitO "InvalidCount" "NoOutput" false, tKitO "InvalidCount" "UnknownName" false, tKitO "InvalidCount" "NameTaken" false, tKitO "InvalidCount" "TwoRates" false, tKitO "InvalidCount" "NoRate" false, tKitO "InvalidCount" "RingWithoutDelay" false, tKitO "InvalidCount" "TooMany" false, tKitO "InvalidCount" "TooLarge" false, tKitO "InvalidCount" "InputError" true, tKitO "InvalidCount" "NetError" false, tKitO "InvalidCount" "LimitError" false, tKitO "InvalidCount" "StateError" false]) K = true := c.tst 130
theorem f_ve_NotASignal {K : Fr} (c : Sy K) : (tVe "NotASignal") K = true := c.tst 131
theorem f_typ_NotASignal {K : Fr} (c : Sy K) : (tTyp "NotASignal") K = true := c.tst 132
theorem f_init_NotASignal {K : Fr} (c : Sy K) : (tInit "NotASignal") K = true := c.tst 133
theorem f_xfc_NotASignal {K : Fr} (c : Sy K) : (tXfc "NotASignal") K = true := c.tst 134
theorem f_nof_NotASignal {K : Fr} (c : Sy K) : (tNof "NotASignal" "value") K = true := c.tst 135
theorem f_exm_NotASignal {K : Fr} (c : Sy K) : (tAll [tExm "NotASignal" "InputError" true, tExm "NotASignal" "NetError" false, tExm "NotASignal" "LimitError" false, tExm "NotASignal" "StateError" false]) K = true := c.tst 136
theorem f_srt_NotASignal {K : Fr} (c : Sy K) : (tAll [tKitO "NotASignal" "InvalidName" false, tKitO "NotASignal" "InvalidText" false, tKitO "NotASignal" "InvalidStep" false, tKitO "NotASignal" "InvalidGain" false, tKitO "NotASignal" "InvalidCount" false, tKitO "NotASignal" "NotASignal" true, tKitO "NotASignal" "InvalidTerms" false, tKitO "NotASignal" "InvalidInputs" false, tKitO "NotASignal" "InvalidOutputs" false, tKitO "NotASignal" "NoOutput" false, tKitO "NotASignal" "UnknownName" false, tKitO "NotASignal" "NameTaken" false, tKitO "NotASignal" "TwoRates" false, tKitO "NotASignal" "NoRate" false, tKitO "NotASignal" "RingWithoutDelay" false, tKitO "NotASignal" "TooMany" false, tKitO "NotASignal" "TooLarge" false, tKitO "NotASignal" "InputError" true, tKitO "NotASignal" "NetError" false, tKitO "NotASignal" "LimitError" false, tKitO "NotASignal" "StateError" false]) K = true := c.tst 137
theorem f_ve_InvalidTerms {K : Fr} (c : Sy K) : (tVe "InvalidTerms") K = true := c.tst 138
theorem f_typ_InvalidTerms {K : Fr} (c : Sy K) : (tTyp "InvalidTerms") K = true := c.tst 139
theorem f_init_InvalidTerms {K : Fr} (c : Sy K) : (tInit "InvalidTerms") K = true := c.tst 140
theorem f_xfc_InvalidTerms {K : Fr} (c : Sy K) : (tXfc "InvalidTerms") K = true := c.tst 141
theorem f_nof_InvalidTerms {K : Fr} (c : Sy K) : (tNof "InvalidTerms" "index") K = true := c.tst 142
theorem f_exm_InvalidTerms {K : Fr} (c : Sy K) : (tAll [tExm "InvalidTerms" "InputError" true, tExm "InvalidTerms" "NetError" false, tExm "InvalidTerms" "LimitError" false, tExm "InvalidTerms" "StateError" false]) K = true := c.tst 143
theorem f_srt_InvalidTerms {K : Fr} (c : Sy K) : (tAll [tKitO "InvalidTerms" "InvalidName" false, tKitO "InvalidTerms" "InvalidText" false, tKitO "InvalidTerms" "InvalidStep" false, tKitO "InvalidTerms" "InvalidGain" false, tKitO "InvalidTerms" "InvalidCount" false, tKitO "InvalidTerms" "NotASignal" false, tKitO "InvalidTerms" "InvalidTerms" true, tKitO "InvalidTerms" "InvalidInputs" false, tKitO "InvalidTerms" "InvalidOutputs" false, tKitO "InvalidTerms" "NoOutput" false, tKitO "InvalidTerms" "UnknownName" false, tKitO "InvalidTerms" "NameTaken" false, tKitO "InvalidTerms" "TwoRates" false, tKitO "InvalidTerms" "NoRate" false, tKitO "InvalidTerms" "RingWithoutDelay" false, tKitO "InvalidTerms" "TooMany" false, tKitO "InvalidTerms" "TooLarge" false, tKitO "InvalidTerms" "InputError" true, tKitO "InvalidTerms" "NetError" false, tKitO "InvalidTerms" "LimitError" false, tKitO "InvalidTerms" "StateError" false]) K = true := c.tst 144
theorem f_ve_TooMany {K : Fr} (c : Sy K) : (tVe "TooMany") K = true := c.tst 145
theorem f_typ_TooMany {K : Fr} (c : Sy K) : (tTyp "TooMany") K = true := c.tst 146
theorem f_init_TooMany {K : Fr} (c : Sy K) : (tInit "TooMany") K = true := c.tst 147
theorem f_xfc_TooMany {K : Fr} (c : Sy K) : (tXfc "TooMany") K = true := c.tst 148
theorem f_nof_TooMany {K : Fr} (c : Sy K) : (tNof "TooMany" "limit") K = true := c.tst 149
theorem f_exm_TooMany {K : Fr} (c : Sy K) : (tAll [tExm "TooMany" "InputError" false, tExm "TooMany" "NetError" false, tExm "TooMany" "LimitError" true, tExm "TooMany" "StateError" false]) K = true := c.tst 150
theorem f_srt_TooMany {K : Fr} (c : Sy K) : (tAll [tKitO "TooMany" "InvalidName" false, tKitO "TooMany" "InvalidText" false, tKitO "TooMany" "InvalidStep" false, tKitO "TooMany" "InvalidGain" false, tKitO "TooMany" "InvalidCount" false, tKitO "TooMany" "NotASignal" false, tKitO "TooMany" "InvalidTerms" false, tKitO "TooMany" "InvalidInputs" false, tKitO "TooMany" "InvalidOutputs" false, tKitO "TooMany" "NoOutput" false, tKitO "TooMany" "UnknownName" false, tKitO "TooMany" "NameTaken" false, tKitO "TooMany" "TwoRates" false, tKitO "TooMany" "NoRate" false, tKitO "TooMany" "RingWithoutDelay" false, tKitO "TooMany" "TooMany" true, tKitO "TooMany" "TooLarge" false, tKitO "TooMany" "InputError" false, tKitO "TooMany" "NetError" false, tKitO "TooMany" "LimitError" true, tKitO "TooMany" "StateError" false]) K = true := c.tst 151
theorem f_meth_repr {K : Fr} (c : Sy K) : (tMeth "Number" "__repr__") K = true := c.tst 152
theorem f_kitN {K : Fr} (c : Sy K) : (tAll [tKit "NoneType" "Number" false, tKit "bool" "Number" false, tKit "str" "Number" false, tKit "tuple" "Number" false, tKit "list" "Number" false, tKit "dict" "Number" false]) K = true := c.tst 153
theorem f_kitS2 {K : Fr} (c : Sy K) : (tAll [tKit "bool" "Signal" false, tKit "dict" "Signal" false]) K = true := c.tst 154
theorem f_kitB_Number_str {K : Fr} (c : Sy K) : (tKitB "Number" "str" false) K = true := c.tst 155
theorem f_kitB_Name_str {K : Fr} (c : Sy K) : (tKitB "Name" "str" false) K = true := c.tst 156
theorem f_kitB_Name_int {K : Fr} (c : Sy K) : (tKitB "Name" "int" false) K = true := c.tst 157
theorem f_kitO_Name_Number {K : Fr} (c : Sy K) : (tKitO "Name" "Number" false) K = true := c.tst 158
theorem f_bin_Every_mul {K : Fr} (c : Sy K) : (tBin "Every" "mul") K = true := c.tst 159
theorem f_right_Every_mul_int {K : Fr} (c : Sy K) : (tRight "Every" "mul" "int") K = true := c.tst 160
theorem f_same_Every_mul {K : Fr} (c : Sy K) : (tSame "Every" "Signal" "__mul__") K = true := c.tst 161
theorem f_neg_Sum {K : Fr} (c : Sy K) : (tAll [tMeth "Sum" "__neg__", tSame "Sum" "Signal" "__neg__"]) K = true := c.tst 162
theorem f_ne_tabs {K : Fr} (c : Sy K) : (tTabs [d_l_names_right, d_l_sums_right, d_l_pairs_right, d_l_limits_right]) K = true := c.tst 163
structure Tx (K : Fr) (mg : Str → Option Value) : Prop where
  c : Sy K
  g : ∃ h, K.In h ∧ h.Ns mainGlobals mg
theorem g_is_integer {K : Fr} {mg : Str → Option Value} (T : Tx K mg) : mg "is_integer" = some (.ref (gAd "is_integer" K)) := by
  obtain ⟨h, X, G⟩ := T.g
  exact He.glo_ok X G (f_glo_is_integer T.c)
theorem g_is_number {K : Fr} {mg : Str → Option Value} (T : Tx K mg) : mg "is_number" = some (.ref (gAd "is_number" K)) := by
  obtain ⟨h, X, G⟩ := T.g
  exact He.glo_ok X G (f_glo_is_number T.c)
theorem g_as_number {K : Fr} {mg : Str → Option Value} (T : Tx K mg) : mg "as_number" = some (.ref (gAd "as_number" K)) := by
  obtain ⟨h, X, G⟩ := T.g
  exact He.glo_ok X G (f_glo_as_number T.c)
theorem g_is_name {K : Fr} {mg : Str → Option Value} (T : Tx K mg) : mg "is_name" = some (.ref (gAd "is_name" K)) := by
  obtain ⟨h, X, G⟩ := T.g
  exact He.glo_ok X G (f_glo_is_name T.c)
theorem g_is_gain {K : Fr} {mg : Str → Option Value} (T : Tx K mg) : mg "_is_gain" = some (.ref (gAd "_is_gain" K)) := by
  obtain ⟨h, X, G⟩ := T.g
  exact He.glo_ok X G (f_glo_is_gain T.c)
theorem g_is_between {K : Fr} {mg : Str → Option Value} (T : Tx K mg) : mg "_is_between" = some (.ref (gAd "_is_between" K)) := by
  obtain ⟨h, X, G⟩ := T.g
  exact He.glo_ok X G (f_glo_is_between T.c)
theorem g_written {K : Fr} {mg : Str → Option Value} (T : Tx K mg) : mg "_written" = some (.ref (gAd "_written" K)) := by
  obtain ⟨h, X, G⟩ := T.g
  exact He.glo_ok X G (f_glo_written T.c)
theorem g_l_cell {K : Fr} {mg : Str → Option Value} (T : Tx K mg) : mg "_law_cell" = some (.ref (gAd "_law_cell" K)) := by
  obtain ⟨h, X, G⟩ := T.g
  exact He.glo_ok X G (f_glo_l_cell T.c)
theorem g_l_source {K : Fr} {mg : Str → Option Value} (T : Tx K mg) : mg "_law_source" = some (.ref (gAd "_law_source" K)) := by
  obtain ⟨h, X, G⟩ := T.g
  exact He.glo_ok X G (f_glo_l_source T.c)
theorem g_l_pick {K : Fr} {mg : Str → Option Value} (T : Tx K mg) : mg "_law_pick" = some (.ref (gAd "_law_pick" K)) := by
  obtain ⟨h, X, G⟩ := T.g
  exact He.glo_ok X G (f_glo_l_pick T.c)
theorem g_l_tag {K : Fr} {mg : Str → Option Value} (T : Tx K mg) : mg "_law_tag" = some (.ref (gAd "_law_tag" K)) := by
  obtain ⟨h, X, G⟩ := T.g
  exact He.glo_ok X G (f_glo_l_tag T.c)
theorem g_l_tags {K : Fr} {mg : Str → Option Value} (T : Tx K mg) : mg "_law_tags" = some (.ref (gAd "_law_tags" K)) := by
  obtain ⟨h, X, G⟩ := T.g
  exact He.glo_ok X G (f_glo_l_tags T.c)
theorem g_l_total {K : Fr} {mg : Str → Option Value} (T : Tx K mg) : mg "_law_total" = some (.ref (gAd "_law_total" K)) := by
  obtain ⟨h, X, G⟩ := T.g
  exact He.glo_ok X G (f_glo_l_total T.c)
theorem g_l_sort {K : Fr} {mg : Str → Option Value} (T : Tx K mg) : mg "_law_sort" = some (.ref (gAd "_law_sort" K)) := by
  obtain ⟨h, X, G⟩ := T.g
  exact He.glo_ok X G (f_glo_l_sort T.c)
theorem g_l_field {K : Fr} {mg : Str → Option Value} (T : Tx K mg) : mg "_law_field" = some (.ref (gAd "_law_field" K)) := by
  obtain ⟨h, X, G⟩ := T.g
  exact He.glo_ok X G (f_glo_l_field T.c)
theorem g_l_caught {K : Fr} {mg : Str → Option Value} (T : Tx K mg) : mg "_law_caught" = some (.ref (gAd "_law_caught" K)) := by
  obtain ⟨h, X, G⟩ := T.g
  exact He.glo_ok X G (f_glo_l_caught T.c)
theorem g_l_odd {K : Fr} {mg : Str → Option Value} (T : Tx K mg) : mg "_law_odd" = some (.ref (gAd "_law_odd" K)) := by
  obtain ⟨h, X, G⟩ := T.g
  exact He.glo_ok X G (f_glo_l_odd T.c)
theorem g_l_names_right {K : Fr} {mg : Str → Option Value} (T : Tx K mg) : mg "_law_names_right" = some (.ref (gAd "_law_names_right" K)) := by
  obtain ⟨h, X, G⟩ := T.g
  exact He.glo_ok X G (f_glo_l_names_right T.c)
theorem g_l_sums_right {K : Fr} {mg : Str → Option Value} (T : Tx K mg) : mg "_law_sums_right" = some (.ref (gAd "_law_sums_right" K)) := by
  obtain ⟨h, X, G⟩ := T.g
  exact He.glo_ok X G (f_glo_l_sums_right T.c)
theorem g_l_pairs_right {K : Fr} {mg : Str → Option Value} (T : Tx K mg) : mg "_law_pairs_right" = some (.ref (gAd "_law_pairs_right" K)) := by
  obtain ⟨h, X, G⟩ := T.g
  exact He.glo_ok X G (f_glo_l_pairs_right T.c)
theorem g_l_limits_right {K : Fr} {mg : Str → Option Value} (T : Tx K mg) : mg "_law_limits_right" = some (.ref (gAd "_law_limits_right" K)) := by
  obtain ⟨h, X, G⟩ := T.g
  exact He.glo_ok X G (f_glo_l_limits_right T.c)
theorem g_law {K : Fr} {mg : Str → Option Value} (T : Tx K mg) : mg "law" = some (.ref (gAd "law" K)) := by
  obtain ⟨h, X, G⟩ := T.g
  exact He.glo_ok X G (f_glo_law T.c)
theorem m_gcd {K : Fr} {mg : Str → Option Value} (T : Tx K mg) : mg "gcd" = some (.builtin "math.gcd") := by
  obtain ⟨h, X, G⟩ := T.g
  exact blt_ok X G (f_blt_gcd T.c)
theorem i_MAX_PARTS {K : Fr} {mg : Str → Option Value} (T : Tx K mg) : ∃ t, mg "MAX_PARTS" = some (.int 12 t) := by
  obtain ⟨h, X, G⟩ := T.g
  exact He.int_ok X G (f_int_MAX_PARTS T.c)
theorem i_MAX_DEPTH {K : Fr} {mg : Str → Option Value} (T : Tx K mg) : ∃ t, mg "MAX_DEPTH" = some (.int 5 t) := by
  obtain ⟨h, X, G⟩ := T.g
  exact He.int_ok X G (f_int_MAX_DEPTH T.c)
theorem i_MAX_TERMS {K : Fr} {mg : Str → Option Value} (T : Tx K mg) : ∃ t, mg "MAX_TERMS" = some (.int 5 t) := by
  obtain ⟨h, X, G⟩ := T.g
  exact He.int_ok X G (f_int_MAX_TERMS T.c)
theorem i_MAX_GAIN {K : Fr} {mg : Str → Option Value} (T : Tx K mg) : ∃ t, mg "MAX_GAIN" = some (.int 99 t) := by
  obtain ⟨h, X, G⟩ := T.g
  exact He.int_ok X G (f_int_MAX_GAIN T.c)
theorem i_MAX_STEP {K : Fr} {mg : Str → Option Value} (T : Tx K mg) : ∃ t, mg "MAX_STEP" = some (.int 6 t) := by
  obtain ⟨h, X, G⟩ := T.g
  exact He.int_ok X G (f_int_MAX_STEP T.c)
theorem i_MAX_NAME {K : Fr} {mg : Str → Option Value} (T : Tx K mg) : ∃ t, mg "MAX_NAME" = some (.int 8 t) := by
  obtain ⟨h, X, G⟩ := T.g
  exact He.int_ok X G (f_int_MAX_NAME T.c)
theorem i_MAX_DELAY {K : Fr} {mg : Str → Option Value} (T : Tx K mg) : ∃ t, mg "MAX_DELAY" = some (.int 6 t) := by
  obtain ⟨h, X, G⟩ := T.g
  exact He.int_ok X G (f_int_MAX_DELAY T.c)
theorem n_abs {K : Fr} {mg : Str → Option Value} (T : Tx K mg) : mg "abs" = none := by
  obtain ⟨h, X, G⟩ := T.g
  exact He.free_ok X G (f_free_abs T.c)
theorem n_all {K : Fr} {mg : Str → Option Value} (T : Tx K mg) : mg "all" = none := by
  obtain ⟨h, X, G⟩ := T.g
  exact He.free_ok X G (f_free_all T.c)
theorem n_bool {K : Fr} {mg : Str → Option Value} (T : Tx K mg) : mg "bool" = none := by
  obtain ⟨h, X, G⟩ := T.g
  exact He.free_ok X G (f_free_bool T.c)
theorem n_divmod {K : Fr} {mg : Str → Option Value} (T : Tx K mg) : mg "divmod" = none := by
  obtain ⟨h, X, G⟩ := T.g
  exact He.free_ok X G (f_free_divmod T.c)
theorem n_enumerate {K : Fr} {mg : Str → Option Value} (T : Tx K mg) : mg "enumerate" = none := by
  obtain ⟨h, X, G⟩ := T.g
  exact He.free_ok X G (f_free_enumerate T.c)
theorem n_int {K : Fr} {mg : Str → Option Value} (T : Tx K mg) : mg "int" = none := by
  obtain ⟨h, X, G⟩ := T.g
  exact He.free_ok X G (f_free_int T.c)
theorem n_isinstance {K : Fr} {mg : Str → Option Value} (T : Tx K mg) : mg "isinstance" = none := by
  obtain ⟨h, X, G⟩ := T.g
  exact He.free_ok X G (f_free_isinstance T.c)
theorem n_len {K : Fr} {mg : Str → Option Value} (T : Tx K mg) : mg "len" = none := by
  obtain ⟨h, X, G⟩ := T.g
  exact He.free_ok X G (f_free_len T.c)
theorem n_max {K : Fr} {mg : Str → Option Value} (T : Tx K mg) : mg "max" = none := by
  obtain ⟨h, X, G⟩ := T.g
  exact He.free_ok X G (f_free_max T.c)
theorem n_min {K : Fr} {mg : Str → Option Value} (T : Tx K mg) : mg "min" = none := by
  obtain ⟨h, X, G⟩ := T.g
  exact He.free_ok X G (f_free_min T.c)
theorem n_range {K : Fr} {mg : Str → Option Value} (T : Tx K mg) : mg "range" = none := by
  obtain ⟨h, X, G⟩ := T.g
  exact He.free_ok X G (f_free_range T.c)
theorem n_repr {K : Fr} {mg : Str → Option Value} (T : Tx K mg) : mg "repr" = none := by
  obtain ⟨h, X, G⟩ := T.g
  exact He.free_ok X G (f_free_repr T.c)
theorem n_set {K : Fr} {mg : Str → Option Value} (T : Tx K mg) : mg "set" = none := by
  obtain ⟨h, X, G⟩ := T.g
  exact He.free_ok X G (f_free_set T.c)
theorem n_sorted {K : Fr} {mg : Str → Option Value} (T : Tx K mg) : mg "sorted" = none := by
  obtain ⟨h, X, G⟩ := T.g
  exact He.free_ok X G (f_free_sorted T.c)
theorem n_str {K : Fr} {mg : Str → Option Value} (T : Tx K mg) : mg "str" = none := by
  obtain ⟨h, X, G⟩ := T.g
  exact He.free_ok X G (f_free_str T.c)
theorem n_sum {K : Fr} {mg : Str → Option Value} (T : Tx K mg) : mg "sum" = none := by
  obtain ⟨h, X, G⟩ := T.g
  exact He.free_ok X G (f_free_sum T.c)
theorem n_tuple {K : Fr} {mg : Str → Option Value} (T : Tx K mg) : mg "tuple" = none := by
  obtain ⟨h, X, G⟩ := T.g
  exact He.free_ok X G (f_free_tuple T.c)
theorem g_InputError {K : Fr} {mg : Str → Option Value} (T : Tx K mg) : mg "InputError" = some (.ref (gAd "InputError" K)) := by
  obtain ⟨h, X, G⟩ := T.g
  exact He.glo_ok X G (f_glo_InputError T.c)
theorem g_InvalidName {K : Fr} {mg : Str → Option Value} (T : Tx K mg) : mg "InvalidName" = some (.ref (gAd "InvalidName" K)) := by
  obtain ⟨h, X, G⟩ := T.g
  exact He.glo_ok X G (f_glo_InvalidName T.c)
theorem g_InvalidText {K : Fr} {mg : Str → Option Value} (T : Tx K mg) : mg "InvalidText" = some (.ref (gAd "InvalidText" K)) := by
  obtain ⟨h, X, G⟩ := T.g
  exact He.glo_ok X G (f_glo_InvalidText T.c)
theorem g_InvalidStep {K : Fr} {mg : Str → Option Value} (T : Tx K mg) : mg "InvalidStep" = some (.ref (gAd "InvalidStep" K)) := by
  obtain ⟨h, X, G⟩ := T.g
  exact He.glo_ok X G (f_glo_InvalidStep T.c)
theorem g_InvalidGain {K : Fr} {mg : Str → Option Value} (T : Tx K mg) : mg "InvalidGain" = some (.ref (gAd "InvalidGain" K)) := by
  obtain ⟨h, X, G⟩ := T.g
  exact He.glo_ok X G (f_glo_InvalidGain T.c)
theorem g_InvalidCount {K : Fr} {mg : Str → Option Value} (T : Tx K mg) : mg "InvalidCount" = some (.ref (gAd "InvalidCount" K)) := by
  obtain ⟨h, X, G⟩ := T.g
  exact He.glo_ok X G (f_glo_InvalidCount T.c)
theorem g_NotASignal {K : Fr} {mg : Str → Option Value} (T : Tx K mg) : mg "NotASignal" = some (.ref (gAd "NotASignal" K)) := by
  obtain ⟨h, X, G⟩ := T.g
  exact He.glo_ok X G (f_glo_NotASignal T.c)
theorem g_InvalidTerms {K : Fr} {mg : Str → Option Value} (T : Tx K mg) : mg "InvalidTerms" = some (.ref (gAd "InvalidTerms" K)) := by
  obtain ⟨h, X, G⟩ := T.g
  exact He.glo_ok X G (f_glo_InvalidTerms T.c)
theorem g_InvalidInputs {K : Fr} {mg : Str → Option Value} (T : Tx K mg) : mg "InvalidInputs" = some (.ref (gAd "InvalidInputs" K)) := by
  obtain ⟨h, X, G⟩ := T.g
  exact He.glo_ok X G (f_glo_InvalidInputs T.c)
theorem g_InvalidOutputs {K : Fr} {mg : Str → Option Value} (T : Tx K mg) : mg "InvalidOutputs" = some (.ref (gAd "InvalidOutputs" K)) := by
  obtain ⟨h, X, G⟩ := T.g
  exact He.glo_ok X G (f_glo_InvalidOutputs T.c)
theorem g_NetError {K : Fr} {mg : Str → Option Value} (T : Tx K mg) : mg "NetError" = some (.ref (gAd "NetError" K)) := by
  obtain ⟨h, X, G⟩ := T.g
  exact He.glo_ok X G (f_glo_NetError T.c)
theorem g_NoOutput {K : Fr} {mg : Str → Option Value} (T : Tx K mg) : mg "NoOutput" = some (.ref (gAd "NoOutput" K)) := by
  obtain ⟨h, X, G⟩ := T.g
  exact He.glo_ok X G (f_glo_NoOutput T.c)
theorem g_UnknownName {K : Fr} {mg : Str → Option Value} (T : Tx K mg) : mg "UnknownName" = some (.ref (gAd "UnknownName" K)) := by
  obtain ⟨h, X, G⟩ := T.g
  exact He.glo_ok X G (f_glo_UnknownName T.c)
theorem g_NameTaken {K : Fr} {mg : Str → Option Value} (T : Tx K mg) : mg "NameTaken" = some (.ref (gAd "NameTaken" K)) := by
  obtain ⟨h, X, G⟩ := T.g
  exact He.glo_ok X G (f_glo_NameTaken T.c)
theorem g_TwoRates {K : Fr} {mg : Str → Option Value} (T : Tx K mg) : mg "TwoRates" = some (.ref (gAd "TwoRates" K)) := by
  obtain ⟨h, X, G⟩ := T.g
  exact He.glo_ok X G (f_glo_TwoRates T.c)
theorem g_NoRate {K : Fr} {mg : Str → Option Value} (T : Tx K mg) : mg "NoRate" = some (.ref (gAd "NoRate" K)) := by
  obtain ⟨h, X, G⟩ := T.g
  exact He.glo_ok X G (f_glo_NoRate T.c)
theorem g_RingWithoutDelay {K : Fr} {mg : Str → Option Value} (T : Tx K mg) : mg "RingWithoutDelay" = some (.ref (gAd "RingWithoutDelay" K)) := by
  obtain ⟨h, X, G⟩ := T.g
  exact He.glo_ok X G (f_glo_RingWithoutDelay T.c)
theorem g_StateError {K : Fr} {mg : Str → Option Value} (T : Tx K mg) : mg "StateError" = some (.ref (gAd "StateError" K)) := by
  obtain ⟨h, X, G⟩ := T.g
  exact He.glo_ok X G (f_glo_StateError T.c)
theorem g_LimitError {K : Fr} {mg : Str → Option Value} (T : Tx K mg) : mg "LimitError" = some (.ref (gAd "LimitError" K)) := by
  obtain ⟨h, X, G⟩ := T.g
  exact He.glo_ok X G (f_glo_LimitError T.c)
theorem g_TooMany {K : Fr} {mg : Str → Option Value} (T : Tx K mg) : mg "TooMany" = some (.ref (gAd "TooMany" K)) := by
  obtain ⟨h, X, G⟩ := T.g
  exact He.glo_ok X G (f_glo_TooMany T.c)
theorem g_TooLarge {K : Fr} {mg : Str → Option Value} (T : Tx K mg) : mg "TooLarge" = some (.ref (gAd "TooLarge" K)) := by
  obtain ⟨h, X, G⟩ := T.g
  exact He.glo_ok X G (f_glo_TooLarge T.c)
theorem g_Number {K : Fr} {mg : Str → Option Value} (T : Tx K mg) : mg "Number" = some (.ref (gAd "Number" K)) := by
  obtain ⟨h, X, G⟩ := T.g
  exact He.glo_ok X G (f_glo_Number T.c)
theorem g_Signal {K : Fr} {mg : Str → Option Value} (T : Tx K mg) : mg "Signal" = some (.ref (gAd "Signal" K)) := by
  obtain ⟨h, X, G⟩ := T.g
  exact He.glo_ok X G (f_glo_Signal T.c)
theorem g_Name {K : Fr} {mg : Str → Option Value} (T : Tx K mg) : mg "Name" = some (.ref (gAd "Name" K)) := by
  obtain ⟨h, X, G⟩ := T.g
  exact He.glo_ok X G (f_glo_Name T.c)
theorem g_Sum {K : Fr} {mg : Str → Option Value} (T : Tx K mg) : mg "Sum" = some (.ref (gAd "Sum" K)) := by
  obtain ⟨h, X, G⟩ := T.g
  exact He.glo_ok X G (f_glo_Sum T.c)
theorem g_Times {K : Fr} {mg : Str → Option Value} (T : Tx K mg) : mg "Times" = some (.ref (gAd "Times" K)) := by
  obtain ⟨h, X, G⟩ := T.g
  exact He.glo_ok X G (f_glo_Times T.c)
theorem g_Late {K : Fr} {mg : Str → Option Value} (T : Tx K mg) : mg "Late" = some (.ref (gAd "Late" K)) := by
  obtain ⟨h, X, G⟩ := T.g
  exact He.glo_ok X G (f_glo_Late T.c)
theorem g_Every {K : Fr} {mg : Str → Option Value} (T : Tx K mg) : mg "Every" = some (.ref (gAd "Every" K)) := by
  obtain ⟨h, X, G⟩ := T.g
  exact He.glo_ok X G (f_glo_Every T.c)
theorem g_Spread {K : Fr} {mg : Str → Option Value} (T : Tx K mg) : mg "Spread" = some (.ref (gAd "Spread" K)) := by
  obtain ⟨h, X, G⟩ := T.g
  exact He.glo_ok X G (f_glo_Spread T.c)
theorem a_InvalidName_init {K : Fr} (c : Sy K) : ∃ fd, DAt K d_InvalidName_init fd := c.dat 0
theorem a_InvalidStep_init {K : Fr} (c : Sy K) : ∃ fd, DAt K d_InvalidStep_init fd := c.dat 1
theorem a_InvalidGain_init {K : Fr} (c : Sy K) : ∃ fd, DAt K d_InvalidGain_init fd := c.dat 2
theorem a_InvalidCount_init {K : Fr} (c : Sy K) : ∃ fd, DAt K d_InvalidCount_init fd := c.dat 3
theorem a_NotASignal_init {K : Fr} (c : Sy K) : ∃ fd, DAt K d_NotASignal_init fd := c.dat 4
theorem a_InvalidTerms_init {K : Fr} (c : Sy K) : ∃ fd, DAt K d_InvalidTerms_init fd := c.dat 5
theorem a_TooMany_init {K : Fr} (c : Sy K) : ∃ fd, DAt K d_TooMany_init fd := c.dat 6
theorem a_is_integer {K : Fr} (c : Sy K) : ∃ fd, DAt K d_is_integer fd := c.dat 7
theorem a_is_number {K : Fr} (c : Sy K) : ∃ fd, DAt K d_is_number fd := c.dat 8
theorem a_as_number {K : Fr} (c : Sy K) : ∃ fd, DAt K d_as_number fd := c.dat 9
theorem a_Number_init {K : Fr} (c : Sy K) : ∃ fd, DAt K d_Number_init fd := c.dat 10
theorem a_Number_top {K : Fr} (c : Sy K) : ∃ fd, DAt K d_Number_top fd := c.dat 11
theorem a_Number_bottom {K : Fr} (c : Sy K) : ∃ fd, DAt K d_Number_bottom fd := c.dat 12
theorem a_Number_str {K : Fr} (c : Sy K) : ∃ fd, DAt K d_Number_str fd := c.dat 13
theorem a_Number_repr {K : Fr} (c : Sy K) : ∃ fd, DAt K d_Number_repr fd := c.dat 14
theorem a_is_name {K : Fr} (c : Sy K) : ∃ fd, DAt K d_is_name fd := c.dat 15
theorem a_is_gain {K : Fr} (c : Sy K) : ∃ fd, DAt K d_is_gain fd := c.dat 16
theorem a_is_between {K : Fr} (c : Sy K) : ∃ fd, DAt K d_is_between fd := c.dat 17
theorem a_written {K : Fr} (c : Sy K) : ∃ fd, DAt K d_written fd := c.dat 18
theorem a_Signal_init {K : Fr} (c : Sy K) : ∃ fd, DAt K d_Signal_init fd := c.dat 19
theorem a_Signal_names {K : Fr} (c : Sy K) : ∃ fd, DAt K d_Signal_names fd := c.dat 20
theorem a_Signal_parts {K : Fr} (c : Sy K) : ∃ fd, DAt K d_Signal_parts fd := c.dat 21
theorem a_Signal_depth {K : Fr} (c : Sy K) : ∃ fd, DAt K d_Signal_depth fd := c.dat 22
theorem a_Signal_neg {K : Fr} (c : Sy K) : ∃ fd, DAt K d_Signal_neg fd := c.dat 23
theorem a_Signal_mul {K : Fr} (c : Sy K) : ∃ fd, DAt K d_Signal_mul fd := c.dat 24
theorem a_Signal_eq {K : Fr} (c : Sy K) : ∃ fd, DAt K d_Signal_eq fd := c.dat 25
theorem a_Signal_str {K : Fr} (c : Sy K) : ∃ fd, DAt K d_Signal_str fd := c.dat 26
theorem a_Signal_repr {K : Fr} (c : Sy K) : ∃ fd, DAt K d_Signal_repr fd := c.dat 27
theorem a_Name_init {K : Fr} (c : Sy K) : ∃ fd, DAt K d_Name_init fd := c.dat 28
theorem a_Sum_init {K : Fr} (c : Sy K) : ∃ fd, DAt K d_Sum_init fd := c.dat 29
theorem a_Times_init {K : Fr} (c : Sy K) : ∃ fd, DAt K d_Times_init fd := c.dat 30
theorem a_Late_init {K : Fr} (c : Sy K) : ∃ fd, DAt K d_Late_init fd := c.dat 31
theorem a_Every_init {K : Fr} (c : Sy K) : ∃ fd, DAt K d_Every_init fd := c.dat 32
theorem a_Spread_init {K : Fr} (c : Sy K) : ∃ fd, DAt K d_Spread_init fd := c.dat 33
theorem a_l_cell {K : Fr} (c : Sy K) : ∃ fd, DAt K d_l_cell fd := c.dat 34
theorem a_l_source {K : Fr} (c : Sy K) : ∃ fd, DAt K d_l_source fd := c.dat 35
theorem a_l_pick {K : Fr} (c : Sy K) : ∃ fd, DAt K d_l_pick fd := c.dat 36
theorem a_l_tag {K : Fr} (c : Sy K) : ∃ fd, DAt K d_l_tag fd := c.dat 37
theorem a_l_tags {K : Fr} (c : Sy K) : ∃ fd, DAt K d_l_tags fd := c.dat 38
theorem a_l_total {K : Fr} (c : Sy K) : ∃ fd, DAt K d_l_total fd := c.dat 39
theorem a_l_sort {K : Fr} (c : Sy K) : ∃ fd, DAt K d_l_sort fd := c.dat 40
theorem a_l_field {K : Fr} (c : Sy K) : ∃ fd, DAt K d_l_field fd := c.dat 41
theorem a_l_caught {K : Fr} (c : Sy K) : ∃ fd, DAt K d_l_caught fd := c.dat 42
theorem a_l_odd {K : Fr} (c : Sy K) : ∃ fd, DAt K d_l_odd fd := c.dat 43
theorem a_l_names_right {K : Fr} (c : Sy K) : ∃ fd, DAt K d_l_names_right fd := c.dat 44
theorem a_l_sums_right {K : Fr} (c : Sy K) : ∃ fd, DAt K d_l_sums_right fd := c.dat 45
theorem a_l_pairs_right {K : Fr} (c : Sy K) : ∃ fd, DAt K d_l_pairs_right fd := c.dat 46
theorem a_l_limits_right {K : Fr} (c : Sy K) : ∃ fd, DAt K d_l_limits_right fd := c.dat 47
theorem a_law {K : Fr} (c : Sy K) : ∃ fd, DAt K d_law fd := c.dat 48
abbrev R : PySem.W.OpenRow := PySem.W.OpenLaw.row PySem.Challenge.rw_delaynets_k11_signals_refused
abbrev TS : List Dx := [d_l_names_right, d_l_sums_right, d_l_pairs_right, d_l_limits_right]
def loose0 : List Str := ["_wall", "InputError", "InvalidName", "InvalidText", "InvalidStep", "InvalidGain", "InvalidCount", "NotANumber", "NotASignal", "InvalidTerms", "InvalidInputs", "InvalidOutputs", "NetError", "NoOutput", "UnknownName", "NameTaken", "TwoRates", "NoRate", "RingWithoutDelay", "StateError", "DividedByZero", "LimitError", "TooMany", "TooLarge", "MAX_PARTS", "MAX_DEPTH", "MAX_TERMS", "MAX_GAIN", "MAX_STEP", "MAX_POWER"]
def loose1 : List Str := ["is_integer", "is_number", "as_number", "Number", "_number_in", "_is_digits", "LETTERS", "NAME_SIGNS", "MAX_NAME", "MAX_DELAY", "is_name", "_is_gain", "_is_between", "_written", "Signal", "Name", "Sum", "Times", "Late", "Every", "Spread", "_law_cell", "_law_source", "_law_pick", "_law_tag", "_law_tags", "_law_total", "_law_sort", "_law_field", "_law_caught"]
def loose2 : List Str := ["_law_odd", "_law_names_right", "_law_sums_right", "_law_pairs_right", "_law_limits_right"]
abbrev loose : List Str := loose0 ++ loose1 ++ loose2
abbrev qv : Program := PySem.W.view R.prog [0, 70]
abbrev lawAt : Nat := 70
end K11

namespace K11
open PySem PySem.Spec PyProof.Rows L2 Hk
def AS : List Addr := [477, 3, 6, 49, 59, 79, 98, 117, 136, 155, 174, 193, 212, 231, 250, 262, 275, 294, 313, 332, 351, 370, 382, 395, 407, 427, 446, 455, 462, 469, 612, 623, 630, 635, 642, 649, 654, 777, 798, 817, 836, 855, 874, 893, 902, 909, 916, 923, 928, 935, 940, 947, 954, 961, 968, 975, 982, 989, 994, 0, 48, 58, 78, 97, 116, 135, 154, 173, 192, 211, 230, 249, 261, 274, 293, 312, 331, 350, 369, 381, 394, 406, 426, 445, 454, 461, 468, 611, 622, 629, 634, 641, 648, 653, 776, 797, 816, 835, 854, 873, 892, 901, 908, 915, 922, 927, 934, 939, 946, 953, 960, 967, 974, 981, 988, 993, 44, 47, 60, 76, 95, 114, 133, 152, 171, 190, 209, 228, 247, 263, 291, 310, 329, 348, 367, 383, 408, 424, 443, 450, 453, 457, 460, 464, 467, 484, 493, 502, 510, 518, 525, 532, 539, 546, 553, 560, 567, 574, 581, 588, 595, 602, 609, 613, 614, 618, 621, 625, 628, 632, 633, 637, 640, 644, 647, 651, 652, 666, 674, 682, 688, 696, 704, 711, 718, 725, 732, 739, 746, 753, 760, 767, 774, 778, 779, 795, 814, 833, 852, 871, 890, 897, 900, 904, 907, 911, 914, 918, 921, 925, 926, 930, 933, 937, 938, 942, 945, 949, 952, 956, 959, 963, 966, 970, 973, 977, 980, 984, 987, 991, 992, 75, 94, 113, 132, 151, 170, 189, 208, 227, 246, 290, 309, 328, 347, 366, 423, 442, 483, 491, 492, 501, 509, 517, 524, 531, 538, 545, 552, 559, 566, 573, 580, 587, 594, 601, 608, 665, 673, 681, 687, 695, 703, 710, 717, 724, 731, 738, 745, 752, 759, 766, 773, 794, 813, 832, 851, 870, 889, 71, 74, 90, 93, 109, 112, 128, 131, 147, 150, 166, 169, 185, 188, 204, 207, 223, 226, 242, 245, 286, 289, 305, 308, 324, 327, 343, 346, 362, 365, 419, 422, 438, 441, 479, 482, 490, 494, 500, 508, 516, 520, 523, 527, 530, 534, 537, 541, 544, 548, 551, 555, 558, 562, 565, 569, 572, 576, 579, 583, 586, 590, 593, 597, 600, 604, 607, 663, 664, 672, 680, 686, 694, 702, 706, 709, 713, 716, 720, 723, 727, 730, 734, 737, 741, 744, 748, 751, 755, 758, 762, 765, 769, 772, 790, 793, 809, 812, 828, 831, 847, 850, 866, 869, 885, 888]
abbrev hk : PySem.W.Hook := hookLT AS FA FN TS
noncomputable def ob (s : PySem.W.SharedT) : Al3 := lookLT AS FA FN TS s
theorem ob_eq (s : PySem.W.SharedT) : ob s = hk.obs s.abs := lookLT_eq s
end K11

namespace K11
open PySem PySem.Spec PyProof.Rows L2 Hk
theorem run1 (w : World) : (runOf 16000 R.prog w).map (fun x => (HeadRun.looksF R.prog x.1.heap x.2.abs, HeadRun.seenQ qv loose (importedModules R.prog.main.body) (fun s => PySem.W.xlAt qv [] s && PySem.W.recOk R.records s) x.2.abs)) = some (true, PySem.W.openGood qv loose) := by
  kernel_rfl
def FA0 : List Tst := (FA.drop 0).take 164
theorem runA0 (w : World) : (runOf 16000 R.prog w).map (fun x => partAT AS FA0 x.2) = some true := by
  kernel_rfl
def FN0 : List Dx := (FN.drop 0).take 49
theorem runF0 (w : World) : (runOf 16000 R.prog w).map (fun x => partFT AS FN0 x.2) = some (due FN0) := by
  kernel_rfl
theorem runT (w : World) : (runOf 16000 R.prog w).map (fun x => partTT AS TS x.2) = some true := by
  kernel_rfl
theorem run (w : World) : HeadRun.RunEqI R qv hk ob 16000 loose w := run_partsT [FA0] [FN0] (by rfl) (by rfl) (run1 w)
  (fun l hl => by
    rcases List.mem_cons.mp hl with rfl | hl
    · exact runA0 w
    cases hl)
  (fun l hl => by
    rcases List.mem_cons.mp hl with rfl | hl
    · exact runF0 w
    cases hl) (runT w)
end K11

namespace K11
open PySem PySem.Spec PyProof.Rows L2 Hk NumM NumT SX
theorem bo_divmod : bootBuiltins "divmod" = some (.builtin "divmod") := by decide +kernel
section
variable {P : Program} {w : World} {K : Fr} {mg : Str → Option Value} {base : Heap}
/-- a source's list: the figures left, the state, the count (n at most) -/
def srcL (d e c : Int) : List V := [.int d, .int e, .int c]
def SrcAt (a : Addr) (n : Nat) (H : Hp) : Prop := ∃ d e c : Int, H a = some (.lst (srcL d e c)) ∧ 0 ≤ d ∧ 0 ≤ e ∧ e < 2147483629 ∧ 0 ≤ c ∧ c ≤ n
theorem SrcAt.same {a : Addr} {n : Nat} {H H' : Hp} (s : SrcAt a n H) (h : Same H H') : SrcAt a n H' := by
  obtain ⟨d, e, c, h1, h2⟩ := s
  exact ⟨d, e, c, h _ _ h1, h2⟩
theorem SrcAt.ne {a p : Addr} {n : Nat} {H : Hp} (s : SrcAt a n H) (np : H p = none) : a ≠ p := by
  obtain ⟨d, e, c, h1, _⟩ := s
  exact ne_of_none h1 np
theorem SrcAt.le {a : Addr} {n m : Nat} {H : Hp} (s : SrcAt a n H) (h : n ≤ m) : SrcAt a m H := by
  obtain ⟨d, e, c, h1, h2, h3, h4, h5, h6⟩ := s
  exact ⟨d, e, c, h1, h2, h3, h4, h5, by omega⟩
/-- draws a number below m -/
def spPick : Sp := fun vs H Q _ => ∃ (a : Addr) (m : Int) (n : Nat), vs = [.ref a, .int m] ∧ SrcAt a n H ∧ n < 2 ^ 40 ∧ 0 < m ∧ m < 1073741824 ∧
  ∀ (v : Int) (H' : Hp), 0 ≤ v → v < m → Old a H H' → SrcAt a (n + 1) H' → Q (.int v) H'
theorem c_pick (T : Tx K mg) : Cal P w K mg base 1 "_law_pick" (gAd "_law_pick" K) ["_law_source_here", "_law_many"] spPick := by
  refine cal_of (d := d_l_pick) (N := ["_law_source_here", "_law_many", "_law_state", "_law_more", "_law_digit"]) (a_l_pick T.c) rfl sc_l_pick (g_l_pick T) (fun _ _ _ _ _ _ us hl => match us, hl with | [_, _], _ => rfl) (fun vs H Q E h => ?_) (fun cdv A outer s H vs Q E hr h => ?_)
  · obtain ⟨a, m, n, rfl, _⟩ := h
    rfl
  · obtain ⟨a, m, n, rfl, ⟨d, e, c, hH, d0, e0, e1, c0, c1⟩, hn, m0, m1, k⟩ := h
    refine ⟨_, (pss_cons (ps_asg (pe_op op_add (pe_ix ix_list (pv 0) pe_int (fun _ _ => rfl)) pe_int) (pg_sub (pv 0) pe_int set_list))
 (pss_cons (ps_par (i := 2) (j := 3) (by rfl) sc_l_pick.nd rfl rfl (by decide) rfl rfl (pa_cons (pe_callTy call_int1 (by rfl) (n_int T) bo_int (pa_cons (pe_ix ix_list (pv 0) pe_int (fun _ _ => rfl)) pa_nil)) (pa_cons (pe_op op_add (pe_op op_mul (pe_op op_mul pe_int (pe_ix ix_list (pv 0) pe_int (fun _ _ => rfl))) (pe_ix ix_list (pv 0) pe_int (fun _ _ => rfl))) pe_int) pa_nil)) (by rfl))
 (pss_cons (ps_asg (pe_op op_mod (pe_callTy call_int1 (by rfl) (n_int T) bo_int (pa_cons (pe_op op_add (pe_op op_mul (pv 2) (pe_op op_add (pe_op op_mod (pe_callTy call_int1 (by rfl) (n_int T) bo_int (pa_cons (pv 2) pa_nil)) pe_int) pe_int)) (pv 3)) pa_nil)) pe_int) (pg_sub (pv 0) pe_int set_list))
 (pss_cons (ps_if (pt_cmpR op_gt (pe_ix ix_list (pv 0) pe_int (fun _ _ => rfl)) pe_int (nomark _))
 (pss_cons (ps_asg (pe_callB call_divmod (by rfl) (n_divmod T) bo_divmod (pa_cons (pe_ix ix_list (pv 0) pe_int (fun _ _ => rfl)) (pa_cons (pv 1) pa_nil))) (pg_tup (by rfl) (pgs_cons (pg_sub (pv 0) pe_int set_list) (pgs_cons (pg_name (i := 4) sc_l_pick.nd rfl (.inl rfl)) pgs_nil))))
 (pss_one (ps_ret (pv 4))))
 pss_nil)
 (pss_one (ps_ret (pe_op op_modN (pe_callTy call_int1 (by rfl) (n_int T) bo_int (pa_cons (pe_op op_fdiv (pe_ix ix_list (pv 0) pe_int (fun _ _ => rfl)) pe_int) pa_nil)) (pv 1)))))))), ?_⟩
    -- h[2] = h[2] + 1
    refine ⟨_, rfl, a, _, 2, _, rfl, rfl, .inl (.inl hH), rfl, c, 1, rfl, rfl, _, rfl, a, _, 2, 2, rfl, rfl, hH, rfl, ?_⟩
    have l1 : SqL K (upd H a (.lst (srcL d e (c + 1)))) a (srcL d e (c + 1)) := .inl (.inl upd_same)
    refine ⟨_, rfl, a, _, 1, _, rfl, rfl, l1, rfl, .inl ⟨_, rfl, ?_⟩⟩
    refine ⟨_, rfl, a, _, 2, _, rfl, rfl, l1, rfl, _, _, rfl, rfl, .inl ⟨by decide, by decide⟩, ?_⟩
    refine ⟨_, rfl, a, _, 2, _, rfl, rfl, l1, rfl, _, _, rfl, rfl, .inr ⟨by omega, by omega⟩, _, _, rfl, rfl, ?_⟩
    refine ⟨_, _, rfl, ?_⟩
    -- h[1] = ..
    refine ⟨_, rfl, _, rfl, .inl ⟨_, rfl, _, _, rfl, rfl, (by show (0 : Int) < 50021; decide), _, _, rfl, rfl, ?_⟩⟩
    refine ⟨_, _, rfl, rfl, .inl ⟨by omega, by omega⟩, _, rfl, _, _, rfl, rfl, .inl ⟨_, rfl, _, _, rfl, rfl, (by show (0 : Int) < 2147483629; decide), ?_⟩⟩
    refine ⟨_, rfl, a, _, 1, 1, rfl, rfl, upd_same, rfl, ?_⟩
    rw [upd_upd]
    have y0 := Int.emod_nonneg (e * (e % 50021 + 40009) + (104723 * (c + 1) * (c + 1) + 12289)) (show (2147483629 : Int) ≠ 0 by decide)
    have y1 := Int.emod_lt_of_pos (e * (e % 50021 + 40009) + (104723 * (c + 1) * (c + 1) + 12289)) (show (0 : Int) < 2147483629 by decide)
    refine ⟨_, rfl, a, _, 0, _, rfl, rfl, .inl (.inl upd_same), rfl, _, _, rfl, rfl, _, rfl, ?_⟩
    refine ite2 (fun hd => ?_) (fun hd => ?_)
    · have hd : 0 < d := of_decide_eq_true hd
      refine ⟨_, rfl, a, _, 0, _, rfl, rfl, .inl (.inl upd_same), rfl, _, rfl, d, m, rfl, ⟨m0, m1⟩, fun p np => ?_⟩
      have pa : a ≠ p := ne_of_none upd_same np
      refine ⟨p, _, rfl, .inl (.inl upd_same), rfl, ?_⟩
      have hL := (upd_ne (H := upd H a (.lst (((srcL d e c).set 2 (V.int (c + 1))).set 1 (V.int ((e * (e % 50021 + 40009) + (104723 * (c + 1) * (c + 1) + 12289)) % 2147483629))))) (o := .tup [V.int (d / m), V.int (d % m)]) pa).trans upd_same
      refine ⟨_, _, rfl, _, rfl, a, _, 0, 0, rfl, rfl, hL, rfl, ?_⟩
      refine ⟨_, _, rfl, rfl, ?_⟩
      refine ⟨_, rfl, ?_⟩
      refine k _ _ (Int.emod_nonneg _ (by omega)) (Int.emod_lt_of_pos _ m0) (fun b o hb hn => ?_) ⟨d / m, _, c + 1, upd_same, Int.ediv_nonneg d0 (by omega), y0, y1, by omega, by omega⟩
      have bp : b ≠ p := fun z => by
        subst z
        rw [upd_ne hn, hb] at np
        cases np
      rw [upd_ne hn, upd_ne bp, upd_ne hn]
      exact hb
    · refine ⟨_, rfl, a, _, 1, _, rfl, rfl, .inl (.inl upd_same), rfl, _, _, rfl, rfl, ⟨by decide, by decide⟩, .inl ⟨_, rfl, _, rfl, _, _, rfl, rfl, (by omega), ?_⟩⟩
      exact k _ _ (Int.fmod_nonneg_of_pos _ m0) (Int.fmod_lt_of_pos _ m0) Old.put ⟨d, _, c + 1, upd_same, d0, y0, y1, by omega, by omega⟩
/-- a new source from a number -/
def spSource : Sp := fun vs H Q _ => ∃ v : Int, vs = [.int v] ∧ ∀ (p : Addr) (H' : Hp), Same H H' → H p = none → SrcAt p 0 H' → Q (.ref p) H'
theorem c_source (T : Tx K mg) : Cal P w K mg base 1 "_law_source" (gAd "_law_source" K) ["_law_cell_here"] spSource := by
  refine cal_of (d := d_l_source) (N := ["_law_cell_here"]) (a_l_source T.c) rfl sc_l_source (g_l_source T) (fun _ _ _ _ _ _ us hl => match us, hl with | [_], _ => rfl) (fun vs H Q E h => ?_) (fun cdv A outer s H vs Q E hr h => ?_)
  · obtain ⟨v, rfl, _⟩ := h
    rfl
  · obtain ⟨v, rfl, k⟩ := h
    refine ⟨_, (pss_one (ps_ret (pe_lst (pa_cons (pe_ifExp (PW.pt (pw_or (pt_cmpR op_lt (pv 0) pe_int (nomark _)) (pw_or1 (pt_cmpR op_ge (pv 0) (pe_op op_pow pe_int pe_int) (nomark _))))) (pe_callB call_abs (by rfl) (n_abs T) bo_abs (pa_cons (pv 0) pa_nil)) pe_int) (pa_cons (pe_op op_mod (pe_callTy call_int1 (by rfl) (n_int T) bo_int (pa_cons (pv 0) pa_nil)) pe_int) (pa_cons pe_int pa_nil)))))), ?_⟩
    have fin : ∀ d : Int, 0 ≤ d → ∀ p, H p = none → Q (.ref p) (upd H p (.lst [.int d, .int (v % 2147483629), .int 0])) := fun d hd p np =>
      k p _ (same_upd np) np ⟨d, _, 0, upd_same, hd, Int.emod_nonneg _ (by decide), Int.emod_lt_of_pos _ (by decide), by decide, by decide⟩
    refine ⟨_, rfl, _, _, rfl, rfl, _, rfl, ?_⟩
    refine ite2 (fun z => ?_) (fun z => ?_)
    · refine iteT ⟨_, rfl, _, rfl, ?_⟩
      refine ⟨_, rfl, .inl ⟨_, rfl, _, _, rfl, rfl, (by show (0 : Int) < 2147483629; decide), (by show 3 ≤ sizeLine; decide), fun p np => fin _ ?_ p np⟩⟩
      have := of_decide_eq_true z
      split <;> omega
    · refine ⟨_, rfl, _, _, rfl, rfl, ⟨by decide, by decide, by decide⟩, _, _, rfl, rfl, _, rfl, ?_⟩
      refine ite2 (fun z2 => ⟨_, rfl, _, rfl, ?_⟩) (fun z2 => ?_)
      · refine ⟨_, rfl, .inl ⟨_, rfl, _, _, rfl, rfl, (by show (0 : Int) < 2147483629; decide), (by show 3 ≤ sizeLine; decide), fun p np => fin _ ?_ p np⟩⟩
        split <;> omega
      · exact ⟨_, rfl, .inl ⟨_, rfl, _, _, rfl, rfl, (by show (0 : Int) < 2147483629; decide), (by show 3 ≤ sizeLine; decide), fun p np => fin 0 (by decide) p np⟩⟩
/-- the number at an index, or a mixed one -/
def spCell (K : Fr) : Sp := fun vs H Q _ => ∃ (a : Addr) (ns : List Int) (j : Nat), vs = [.ref a, .int j] ∧ SqL K H a (ns.map V.int) ∧ ns.length ≤ 63 ∧ j ≤ 63 ∧ ∀ (v : Int) (H' : Hp), Same H H' → Q (.int v) H'
theorem c_cell (T : Tx K mg) : Cal P w K mg base 1 "_law_cell" (gAd "_law_cell" K) ["_law_script", "_law_k"] (spCell K) := by
  refine cal_of (d := d_l_cell) (N := ["_law_script", "_law_k", "_law_found", "_law_each"]) (a_l_cell T.c) rfl sc_l_cell (g_l_cell T) (fun _ _ _ _ _ _ us hl => match us, hl with | [_, _], _ => rfl) (fun vs H Q E h => ?_) (fun cdv A outer s H vs Q E hr h => ?_)
  · obtain ⟨a, ns, j, rfl, _⟩ := h
    rfl
  · obtain ⟨a, ns, j, rfl, hS, hn, hj, k⟩ := h
    refine ⟨_, (pss_cons (ps_if (pt_cmpR op_lt (pv 1) (pe_callB call_len_seq (by rfl) (n_len T) bo_len (pa_cons (pv 0) pa_nil)) (nomark _))
 (pss_one (ps_ret (pe_ix ix_list (pv 0) (pv 1) (fun _ _ => rfl))))
 pss_nil)
 (pss_cons (ps_set (i := 2) sc_l_cell.nd rfl (.inl rfl) (pe_op op_add pe_int (pe_op op_mul (pe_op op_mul pe_int (pe_op op_add (pv 1) pe_int)) (pe_op op_add (pv 1) pe_int))))
 (pss_cons (ps_for PassesOwn.never rfl (pi_list (pe_slice sl_list (pv 0) po_none (po_some pe_int))) (pg_name (i := 3) sc_l_cell.nd rfl (.inl rfl))
 (pss_one (ps_set (i := 2) sc_l_cell.nd rfl (.inl rfl) (pe_op op_mod (pe_callTy call_int1 (by rfl) (n_int T) bo_int (pa_cons (pe_op op_add (pe_op op_mul (pv 2) pe_int) (pv 3)) pa_nil)) pe_int))))
 (pss_one (ps_ret (pv 2)))))), ?_⟩
    have hlen : ((ns.map V.int).length : Int) = (ns.length : Int) := by rw [List.length_map]
    refine ⟨_, rfl, _, rfl, a, _, rfl, .inl hS, _, _, rfl, rfl, _, rfl, ?_⟩
    refine ite2 (fun z => ?_) (fun z => ?_)
    · have hj2 : j < ns.length := by
        have := of_decide_eq_true z
        rw [hlen] at this
        omega
      obtain ⟨n, h1, h2⟩ := map_int_get hj2
      exact ⟨_, rfl, _, rfl, a, _, _, _, rfl, rfl, hS, h2, k n H (Same.refl _)⟩
    · refine ⟨_, rfl, _, _, rfl, rfl, _, _, rfl, rfl, .inl ⟨by decide, by decide⟩, _, rfl, _, _, rfl, rfl, _, _, rfl, rfl, .inr ⟨by omega, by omega⟩, _, _, rfl, rfl, ?_⟩
      refine ⟨_, rfl, 4, rfl, a, _, rfl, hS, fun p np => ⟨p, rfl, ⟨_, .inl (.inl upd_same)⟩, ?_⟩⟩
      have sp := same_upd (o := .lst (cutV (ns.map V.int) none (some 4))) np
      refine for_list (a := p) (xs := cutV (ns.map V.int) none (some 4)) (fun i σ H' => H' = upd H p (.lst (cutV (ns.map V.int) none (some 4))) ∧ ∃ (f : Int) (y : Option V), σ = [some (.ref a), some (.int j), some (.int f), y]) ⟨rfl, _, none, rfl⟩ (fun i σ H' _ h => h.1 ▸ .inl (.inl upd_same)) ?_ ?_
      · rintro i x σ H' hx ⟨rfl, f, y, rfl⟩
        obtain ⟨n, rfl⟩ : ∃ n, x = V.int n := by
          have hm := List.mem_of_mem_drop (List.mem_of_mem_take (List.mem_of_getElem? hx))
          obtain ⟨n, _, e⟩ := List.mem_map.mp hm
          exact ⟨n, e.symm⟩
        exact ⟨_, rfl, _, _, rfl, rfl, .inr ⟨by decide, by decide⟩, _, rfl, _, _, rfl, rfl, .inl ⟨_, rfl, _, _, rfl, rfl, (by show (0 : Int) < 2147483629; decide), rfl, _, _, rfl⟩⟩
      · rintro σ H' ⟨rfl, f, y, rfl⟩
        exact ⟨_, rfl, k f _ sp⟩
end
end K11

namespace K11
open PySem PySem.Spec PyProof.Rows L2 Hk NumM NumT SX
def signsL : List Nat := ("abcdefghijklmnopqrstuvwxyz0123456789" : Str).cps.toList
/-- a name's codes -/
structure Nm (a : List Nat) : Prop where
  lo : 1 ≤ a.length
  hi : a.length ≤ 8
  hd : ∀ c, a[0]? = some c → c ∈ signsL.take 26
  al : ∀ c ∈ a, c ∈ signsL
def nmB (z : Str) : Bool := decide (1 ≤ z.cps.toList.length) && (decide (z.cps.toList.length ≤ 8) && ((z.cps.toList.take 1).all (fun c => decide (c ∈ signsL.take 26)) && z.cps.toList.all (fun c => decide (c ∈ signsL))))
theorem nm_lit {z : Str} (h : nmB z = true) : Nm z.cps.toList := by
  obtain ⟨h1, h⟩ := Bool.and_eq_true_iff.mp h
  obtain ⟨h2, h⟩ := Bool.and_eq_true_iff.mp h
  obtain ⟨h3, h4⟩ := Bool.and_eq_true_iff.mp h
  refine ⟨of_decide_eq_true h1, of_decide_eq_true h2, fun c hc => ?_, fun c hc => of_decide_eq_true (List.all_eq_true.mp h4 c hc)⟩
  refine of_decide_eq_true (List.all_eq_true.mp h3 c ?_)
  have := List.mem_of_getElem? (show (z.cps.toList.take 1)[0]? = some c by rw [List.getElem?_take]; exact hc)
  exact this
structure Nm0 (a : List Nat) : Prop where
  lo : 1 ≤ a.length
  hd : ∀ c, a[0]? = some c → c ∈ signsL.take 26
  al : ∀ c ∈ a, c ∈ signsL
def signsZ : Str := "abcdefghijklmnopqrstuvwxyz0123456789"
def wordsL : List Str := ["input", "output", "sum", "late", "every", "times", "spread", "x"]
theorem words_nm : wordsL.all nmB = true := by decide +kernel
theorem words_at {v : Int} (h0 : 0 ≤ v) (h1 : v < 8) : ∃ x : Str, atI (wordsL.map V.str) v = some (V.str x) ∧ Nm x.cps.toList := by
  obtain ⟨j, rfl⟩ := Int.eq_ofNat_of_zero_le h0
  have hj : j < wordsL.length := by
    have : wordsL.length = 8 := rfl
    omega
  refine ⟨wordsL[j], ?_, nm_lit (List.all_eq_true.mp words_nm _ (List.getElem_mem hj))⟩
  exact atI_nat (by rw [List.getElem?_map, List.getElem?_eq_getElem hj]; rfl)
theorem signs_len : signsL.length = 36 := by decide +kernel
theorem signs_at {v : Int} (h0 : 0 ≤ v) (h1 : v < 36) : ∃ c : Nat, atI signsZ.cps.toList v = some c ∧ c ∈ signsL ∧ (v < 26 → c ∈ signsL.take 26) := by
  obtain ⟨j, rfl⟩ := Int.eq_ofNat_of_zero_le h0
  have hj : j < signsL.length := by
    rw [signs_len]
    omega
  refine ⟨signsL[j], atI_nat (List.getElem?_eq_getElem hj), List.getElem_mem hj, fun h => ?_⟩
  have h2 : j < (signsL.take 26).length := by
    rw [List.length_take, signs_len]
    omega
  have := List.getElem_mem h2
  rwa [List.getElem_take] at this
section
variable {P : Program} {w : World} {K : Fr} {mg : Str → Option Value} {base : Heap}
def spTag : Sp := fun vs H Q _ => ∃ (a : Addr) (n : Nat), vs = [.ref a] ∧ SrcAt a n H ∧ n + 20 < 2 ^ 40 ∧ ∀ (t : List Nat) (H' : Hp), Nm t → Old a H H' → SrcAt a (n + 10) H' → Q (.str (S t)) H'
theorem c_tag (T : Tx K mg) : Cal P w K mg base 2 "_law_tag" (gAd "_law_tag" K) ["_law_source_here"] spTag := by
  have C_l_pick := c_pick (P := P) (w := w) (base := base) T
  refine cal_of (d := d_l_tag) (N := ["_law_source_here", "_law_signs", "_law_found", "_law_turn"]) (a_l_tag T.c) rfl sc_l_tag (g_l_tag T) (fun _ _ _ _ _ _ us hl => match us, hl with | [_], _ => rfl) (fun vs H Q E h => ?_) (fun cdv A outer s H vs Q E hr h => ?_)
  · obtain ⟨a, n, rfl, _⟩ := h
    rfl
  · obtain ⟨a, n, rfl, hs, hn, k⟩ := h
    refine ⟨_, (pss_cons (ps_set (i := 1) sc_l_tag.nd rfl (.inl rfl) pe_str)
 (pss_cons (ps_if (pt_cmpR op_eq (pe_c C_l_pick hr (pa_cons (pv 0) (pa_cons pe_int pa_nil))) pe_int (nomark _))
 (pss_one (ps_ret (pe_ix ix_list (pe_lst (pa_cons pe_str (pa_cons pe_str (pa_cons pe_str (pa_cons pe_str (pa_cons pe_str (pa_cons pe_str (pa_cons pe_str (pa_cons pe_str pa_nil))))))))) (pe_c C_l_pick hr (pa_cons (pv 0) (pa_cons pe_int pa_nil))) (fun _ _ => rfl))))
 pss_nil)
 (pss_cons (ps_set (i := 2) sc_l_tag.nd rfl (.inl rfl) (pe_ix ix_str (pv 1) (pe_c C_l_pick hr (pa_cons (pv 0) (pa_cons pe_int pa_nil))) (fun _ _ => rfl)))
 (pss_cons (ps_for PassesOwn.never rfl (pi_range1 (by rfl) (n_range T) (pa_cons (pe_c C_l_pick hr (pa_cons (pv 0) (pa_cons pe_int pa_nil))) pa_nil)) (pg_name (i := 3) sc_l_tag.nd rfl (.inl rfl))
 (pss_one (ps_set (i := 2) sc_l_tag.nd rfl (.inl rfl) (pe_op op_add_str (pv 2) (pe_ix ix_str (pv 1) (pe_c C_l_pick hr (pa_cons (pv 0) (pa_cons pe_int pa_nil))) (fun _ _ => rfl))))))
 (pss_one (ps_ret (pv 2))))))), ?_⟩
    refine ⟨_, rfl, a, 6, n, rfl, hs, by omega, by decide, by decide, fun v H1 v0 v1 o1 s1 => ?_⟩
    refine ⟨rfl, _, rfl, ?_⟩
    refine ite2 (fun z => ?_) (fun z => ?_)
    · refine ⟨(by show 8 ≤ sizeLine; decide), fun p np => ?_⟩
      have sp := same_upd (o := .lst (wordsL.map V.str)) np
      refine ⟨_, rfl, a, 8, n + 1, rfl, s1.same sp, by omega, by decide, by decide, fun v2 H2 v20 v21 o2 s2 => ?_⟩
      obtain ⟨x, hx, nm⟩ := words_at v20 v21
      have ap := s1.ne np
      refine ⟨p, wordsL.map V.str, v2, _, rfl, rfl, .inl (.inl (o2 _ _ upd_same (Ne.symm ap))), hx, ?_⟩
      have q := k x.cps.toList H2 nm ((o1.trans (Old.same sp)).trans o2) (s2.le (by omega))
      rw [S_tl] at q
      exact q
    · refine ⟨_, rfl, _, rfl, a, 26, n + 1, rfl, s1, by omega, by decide, by decide, fun v2 H2 v20 v21 o2 s2 => ?_⟩
      obtain ⟨c, hc, hm, ht⟩ := signs_at v20 (show v2 < 36 by omega)
      refine ⟨_, _, c, rfl, rfl, (by show 36 ≤ sizeLine; decide), hc, ?_⟩
      refine ⟨_, rfl, a, 8, n + 2, rfl, s2, by omega, by decide, by decide, fun v3 H3 v30 v31 o3 s3 => ?_⟩
      refine ⟨_, rfl, by omega, by omega, ?_⟩
      refine for_range (lo := 0) (n := v3.toNat) (fun i σ H' => Old a H H' ∧ SrcAt a (n + 3 + i) H' ∧ ∃ (t : List Nat) (y : Option V), t.length ≤ 1 + i ∧ Nm0 t ∧ σ = [some (.ref a), some (.str signsZ), some (.str (S t)), y]) ⟨(o1.trans o2).trans o3, s3, [c], none, by simp, ⟨by simp, fun d hd => by simp at hd; subst hd; exact ht v21, fun d hd => by simp at hd; subst hd; exact hm⟩, rfl⟩ ?_ ?_
      · rintro i σ H' hi ⟨o4, s4, t, y, hl, nt, rfl⟩
        refine ⟨_, rfl, _, rfl, _, rfl, a, 36, n + 3 + i, rfl, s4, by omega, by decide, by decide, fun v5 H5 v50 v51 o5 s5 => ?_⟩
        obtain ⟨c', hc', hm', _⟩ := signs_at v50 v51
        refine ⟨_, _, c', rfl, rfl, (by show 36 ≤ sizeLine; decide), hc', ?_⟩
        refine ⟨S t, S [c'], rfl, rfl, ?_, ?_⟩
        · rw [S_len, S_len]
          exact line_ge (by simp; omega)
        · refine ⟨o4.trans o5, s5, t ++ [c'], some (.int (0 + (i : Int))), by simp; omega, ⟨by simp, fun d hd => nt.hd d ?_, fun d hd => ?_⟩, ?_⟩
          · rwa [List.getElem?_append_left (by have := nt.lo; omega)] at hd
          · rcases List.mem_append.mp hd with h | h
            · exact nt.al d h
            · rw [List.mem_singleton.mp h]
              exact hm'
          · rw [← S_cat]
            rfl
      · rintro σ H' ⟨o4, s4, t, y, hl, nt, rfl⟩
        exact ⟨_, rfl, k t H' ⟨nt.1, by omega, nt.2, nt.3⟩ o4 (s4.le (by omega))⟩
end
end K11

namespace K11
open PySem PySem.Spec PyProof.Rows L2 Hk NumM NumT SX
section
variable {P : Program} {w : World} {K : Fr} {mg : Str → Option Value} {base : Heap}
/-- the law's own lowest terms -/
def spLow : Sp := fun vs H Q _ => ∃ h b : Int, vs = [.int h, .int b] ∧ 0 < b ∧ Sz h ∧ Sz b ∧ ∀ p : Addr, H p = none → Q (.ref p) (upd H p (.tup [.int (lowT h b), .int (lowB h b)]))
/-- a drawn multiple, in lowest terms -/
structure GainOk (t b : Int) : Prop where
  pos : 0 < b
  cop : Nat.gcd t.natAbs b.natAbs = 1
  t1 : t.natAbs ≤ 99
  b1 : b.natAbs ≤ 99
def spGain : Sp := fun vs H Q _ => ∃ (a : Addr) (n : Nat), vs = [.ref a] ∧ SrcAt a n H ∧ n + 20 < 2 ^ 40 ∧ ∀ (p : Addr) (t b : Int) (H' : Hp), GainOk t b → Old a H H' → SrcAt a (n + 3) H' → H' p = some (.tup [.int t, .int b]) → Q (.ref p) H'
end
end K11

namespace K11
open PySem PySem.Spec PyProof.Rows L2 Hk NumM NumT SX
/-- an expression: the word every or spread for step 0, 1, late for 2 -/
inductive Tree
  | name (t : List Nat)
  | sum (ts : List Tree)
  | times (t b : Int) (x : Tree)
  | pair (w : Nat) (x : Tree) (n : Int)
def wordOf (w : Nat) : Str := if w = 0 then "every" else if w = 1 then "spread" else "late"
def Tree.kids : Tree → List Tree
  | .name _ => []
  | .sum ts => ts
  | .times _ _ x => [x]
  | .pair _ x _ => [x]
/-- the value x is this tree, of depth d at most -/
inductive TreeAt (H : Hp) : Nat → Tree → V → Prop
  | name {d : Nat} {t : List Nat} {p : Addr} (nm : Nm t) (h : H p = some (.tup [.str "name", .str (S t)])) : TreeAt H (d + 1) (.name t) (.ref p)
  | sum {d : Nat} {ts : List Tree} {xs : List V} {p : Addr} (h : H p = some (.tup (.str "sum" :: xs))) (n1 : 1 ≤ ts.length) (n5 : ts.length ≤ 5) (hl : xs.length = ts.length) (hk : ∀ (i : Nat) (x : V) (t : Tree), xs[i]? = some x → ts[i]? = some t → TreeAt H d t x) : TreeAt H (d + 1) (.sum ts) (.ref p)
  | times {d : Nat} {t b : Int} {x : Tree} {v : V} {p g : Addr} (ok : GainOk t b) (h : H p = some (.tup [.str "times", .ref g, v])) (hg : H g = some (.tup [.int t, .int b])) (hk : TreeAt H d x v) : TreeAt H (d + 1) (.times t b x) (.ref p)
  | pair {d : Nat} {w : Nat} {n : Int} {x : Tree} {v : V} {p : Addr} (hw : w < 3) (n0 : 0 ≤ n) (n6 : n ≤ 6) (n1 : w < 2 → 1 ≤ n) (h : H p = some (.tup [.str (wordOf w), v, .int n])) (hk : TreeAt H d x v) : TreeAt H (d + 1) (.pair w x n) (.ref p)
theorem TreeAt.kp {a : Addr} {n : Nat} {H H' : Hp} {d : Nat} {t : Tree} {v : V} (I : TreeAt H d t v) (k : ∀ b xs, H b = some (.tup xs) → H' b = some (.tup xs)) : TreeAt H' d t v := by
  induction I with
  | name nm h => exact .name nm (k _ _ h)
  | sum h n1 n5 hl hk ih => exact .sum (k _ _ h) n1 n5 hl ih
  | times ok h hg hk ih => exact .times ok (k _ _ h) (k _ _ hg) ih
  | pair hw n0 n6 n1 h hk ih => exact .pair hw n0 n6 n1 (k _ _ h) ih
theorem bo_list : bootBuiltins "list" = some (.type "list") := by decide +kernel
theorem word_ne {w : Nat} (h : w < 3) : V.str (wordOf w) ≠ V.str "name" ∧ V.str (wordOf w) ≠ V.str "sum" ∧ V.str (wordOf w) ≠ V.str "times" := by
  rcases w with _ | _ | _ | w
  · exact ⟨by decide, by decide, by decide⟩
  · exact ⟨by decide, by decide, by decide⟩
  · exact ⟨by decide, by decide, by decide⟩
  · omega
theorem none_of {H H' : Hp} {l : Addr} (s : Same H H') (n : H' l = none) : H l = none := by
  cases e : H l with
  | none => rfl
  | some o =>
    rw [s _ _ e] at n
    cases n
theorem cut1 {n : Nat} (h : 1 ≤ n) : HT.sIx n 0 (some 1) = 1 := by
  unfold HT.sIx
  simp
  omega
theorem cutV1 {x : V} {xs : List V} : cutV (x :: xs) (some 1) none = xs := by
  unfold cutV
  rw [cut1 (by simp)]
  simp [HT.sIx]
section
variable {P : Program} {w : World} {K : Fr} {mg : Str → Option Value} {base : Heap}
def spRatio : Sp := fun vs H Q _ => ∃ (p : Addr) (t b : Int), vs = [.ref p] ∧ H p = some (.tup [.int t, .int b]) ∧ Sz t ∧ Sz b ∧ Q (.str (S (fL t b))) H
/-- the expressions inside, in a new list -/
def Kids (H : Hp) (d : Nat) (ts : List Tree) (xs : List V) : Prop := xs.length = ts.length ∧ ∀ (i : Nat) (x : V) (t : Tree), xs[i]? = some x → ts[i]? = some t → TreeAt H d t x
theorem kids_one {H : Hp} {d : Nat} {t : Tree} {v : V} (h : TreeAt H d t v) : Kids H d [t] [v] := ⟨rfl, fun i x t' h1 h2 => by
  cases i with
  | zero =>
    cases h1
    cases h2
    exact h
  | succ i => simp at h1⟩
def spInside : Sp := fun vs H Q _ => ∃ (d : Nat) (t : Tree) (x : V), vs = [x] ∧ TreeAt H (d + 1) t x ∧ ∀ (p : Addr) (xs : List V) (H' : Hp), Same H H' → H p = none → H' p = some (.lst xs) → Kids H d t.kids xs → Q (.ref p) H'
end
end K11

namespace K11
open PySem PySem.Spec PyProof.Rows L2 Hk NumM NumT SX
theorem bo_sum : bootBuiltins "sum" = some (.builtin "sum") := by decide +kernel
/-- how many parts -/
def Tree.parts : Tree → Nat
  | .name _ => 1
  | .sum ts => 1 + (ts.attach.map fun ⟨t, _⟩ => t.parts).sum
  | .times _ _ x => 1 + x.parts
  | .pair _ x _ => 1 + x.parts
theorem parts_eq (t : Tree) : t.parts = 1 + (t.kids.map Tree.parts).sum := by
  cases t with
  | name t => simp [Tree.parts, Tree.kids]
  | sum ts =>
    rw [Tree.parts, Tree.kids]
    congr 1
    simp
  | times t b x => simp [Tree.parts, Tree.kids]
  | pair w x n => simp [Tree.parts, Tree.kids]
theorem TreeAt.same {H H' : Hp} {d : Nat} {t : Tree} {v : V} (I : TreeAt H d t v) (s : Same H H') : TreeAt H' d t v := I.kp (a := 0) (n := 0) fun b xs h => s _ _ h
theorem Kids.same {H H' : Hp} {d : Nat} {ts : List Tree} {xs : List V} (I : Kids H d ts xs) (s : Same H H') : Kids H' d ts xs := ⟨I.1, fun i x t h1 h2 => (I.2 i x t h1 h2).same s⟩
theorem sum_cast {ts : List Tree} : (ts.map fun c => (c.parts : Int)).sum = (((ts.map Tree.parts).sum : Nat) : Int) := by
  induction ts with
  | nil => rfl
  | cons t r ih =>
    rw [List.map_cons, List.map_cons, List.sum_cons, List.sum_cons, ih]
    omega
/-- a comprehension that makes ys of xs, item by item -/
theorem lc_idx {K : Fr} {a : Addr} {xs : List V} {i : Nat} {te : TE} {σ : L2.St} {H1 : Hp} {D : Addr} {Qd : Hp → Prop} (ys : List V) (hlen : xs.length = ys.length) (nD : H1 D = none) (hl : SqL K H1 a xs) (hz : xs.length ≤ 100000)
    (hs : ∀ (j : Nat) (x y : V), xs[j]? = some x → ys[j]? = some y → ∀ (H : Hp) (R : VK), Same H1 H → (∀ H', Same H H' → R y H') → te ((σ.set i none).set i (some x)) H R)
    (hd : ∀ H, Same H1 H → H D = some (.lst ys) → Qd H) :
    ∃ W : Nat → Nat → Hp → Prop, (∃ m, W 0 m (upd H1 D (.lst []))) ∧ ∀ j m H, W j m H →
      ((Itl K a).stop j H ∧ Qd H) ∨ ((Itl K a).go j H ∧ ∃ Nx : Hp → Prop, (∀ H', Nx H' → ∃ m', m' < m ∧ W (j + 1) m' H') ∧ ∀ x H', (Itl K a).yld j H x H' → gName i x (wipe σ [i]) H' fun σ2 H2 => wipe σ2 [i] = wipe σ [i] ∧ tYes σ2 H2 fun b H3 =>
        if b = true then te σ2 H3 fun y H4 => ∃ acc, H4 D = some (.lst acc) ∧ acc.length < sizeLine ∧ Nx (upd H4 D (.lst (acc ++ [y]))) else Nx H3) := by
  refine lc_list (xs := xs) (fun j H' => Same H1 H' ∧ H' D = some (.lst (ys.take j))) ⟨same_upd nD, upd_same⟩ (fun j H' _ h => h.1.seq hl) ?_ ?_
  · rintro j x H hx ⟨s1, hD⟩
    have hj := (List.getElem?_eq_some_iff.mp hx).1
    have hy : ys[j]? = some (ys[j]'(by omega)) := List.getElem?_eq_getElem _
    refine ⟨by show ((σ.set i none).set i (some x)).set i none = σ.set i none; rw [List.set_set, List.set_set], ?_⟩
    unfold tYes
    dsimp only
    rw [if_pos rfl]
    refine hs j x _ hx hy H _ s1 fun H' s2 => ⟨_, s2 _ _ hD, ?_, same_upd' (s1.trans s2) nD, ?_⟩
    · rw [List.length_take]
      have : (100000 : Nat) < sizeLine := by decide
      omega
    · rw [upd_same, List.take_add_one, hy]
      rfl
  · rintro H ⟨s1, hD⟩
    rw [hlen, List.take_length] at hD
    exact hd H s1 hD
section
variable {P : Program} {w : World} {K : Fr} {mg : Str → Option Value} {base : Heap}
def spParts (d : Nat) : Sp := fun vs H Q _ => ∃ (t : Tree) (x : V), vs = [x] ∧ TreeAt H d t x ∧ ∀ H' : Hp, Same H H' → Q (.int t.parts) H'
theorem kids_len {H : Hp} {d : Nat} {t : Tree} {x : V} (h : TreeAt H d t x) : t.kids.length ≤ 5 := by
  cases h with
  | name => simp [Tree.kids]
  | sum h n1 n5 hl hk => exact n5
  | times => simp [Tree.kids]
  | pair => simp [Tree.kids]
end
end K11

namespace K11
open PySem PySem.Spec PyProof.Rows L2 Hk NumM NumT SX
def maxL : List Nat → Nat := fun l => l.foldr max 0
/-- the depth -/
def Tree.deep : Tree → Nat
  | .name _ => 1
  | .sum ts => 1 + maxL (ts.attach.map fun ⟨t, _⟩ => t.deep)
  | .times _ _ x => 1 + x.deep
  | .pair _ x _ => 1 + x.deep
theorem deep_eq (t : Tree) : t.deep = 1 + maxL (t.kids.map Tree.deep) := by
  cases t with
  | name t => simp [Tree.deep, Tree.kids, maxL]
  | sum ts =>
    rw [Tree.deep, Tree.kids]
    congr 1
    simp
  | times t b x => simp [Tree.deep, Tree.kids, maxL]
  | pair w x n => simp [Tree.deep, Tree.kids, maxL]
theorem maxL_ge {l : List Nat} : ∀ x ∈ l, x ≤ maxL l := by
  induction l with
  | nil => intro x hx; exact nomatch hx
  | cons a r ih =>
    intro x hx
    show x ≤ max a (maxL r)
    rcases List.mem_cons.mp hx with rfl | h
    · exact Nat.le_max_left _ _
    · exact Nat.le_trans (ih x h) (Nat.le_max_right _ _)
theorem maxL_mem {l : List Nat} : maxL l = 0 ∨ maxL l ∈ l := by
  induction l with
  | nil => exact .inl rfl
  | cons a r ih =>
    show max a (maxL r) = 0 ∨ max a (maxL r) ∈ a :: r
    by_cases h : maxL r ≤ a
    · rw [Nat.max_eq_left h]
      exact .inr List.mem_cons_self
    · rw [Nat.max_eq_right (by omega)]
      rcases ih with e | e
      · exact .inl e
      · exact .inr (List.mem_cons_of_mem _ e)
theorem max_is {ts : List Tree} {m : Int} (hm : m ∈ (0 : Int) :: ts.map fun c => (c.deep : Int)) (hx : ∀ y, y ∈ ((0 : Int) :: ts.map fun c => (c.deep : Int)) → y ≤ m) : m = ((maxL (ts.map Tree.deep) : Nat) : Int) := by
  have h1 : ((maxL (ts.map Tree.deep) : Nat) : Int) ≤ m := by
    rcases maxL_mem (l := ts.map Tree.deep) with e | e
    · rw [e]
      exact hx 0 List.mem_cons_self
    · obtain ⟨c, hc, e2⟩ := List.mem_map.mp e
      rw [← e2]
      exact hx _ (List.mem_cons_of_mem _ (List.mem_map.mpr ⟨c, hc, rfl⟩))
  have h2 : m ≤ ((maxL (ts.map Tree.deep) : Nat) : Int) := by
    rcases List.mem_cons.mp hm with rfl | h
    · omega
    · obtain ⟨c, hc, rfl⟩ := List.mem_map.mp h
      have := maxL_ge c.deep (List.mem_map.mpr ⟨c, hc, rfl⟩)
      omega
  omega
/-- the names, as often as they stand there -/
def Tree.leaves : Tree → List (List Nat)
  | .name t => [t]
  | .sum ts => (ts.attach.map fun ⟨t, _⟩ => t.leaves).flatten
  | .times _ _ x => x.leaves
  | .pair _ x _ => x.leaves
/-- the text -/
def comma : List Nat → List Nat → List Nat := fun x y => if x = [] then y else if y = [] then x else x ++ [44, 32] ++ y
def Tree.tell : Tree → Str
  | .name t => S t
  | .sum ts => ("sum(" : Str) ++ Str.join (", " : Str) (ts.attach.map fun ⟨t, _⟩ => t.tell) ++ (")" : Str)
  | .times t b x => ("times(" : Str) ++ S (fL t b) ++ (", " : Str) ++ x.tell ++ (")" : Str)
  | .pair w x n => wordOf w ++ ("(" : Str) ++ x.tell ++ (", " : Str) ++ S (iL n) ++ (")" : Str)
theorem tell_sum (ts : List Tree) : (Tree.sum ts).tell = ("sum(" : Str) ++ Str.join (", " : Str) (ts.map Tree.tell) ++ (")" : Str) := by
  rw [Tree.tell]
  simp
section
variable {P : Program} {w : World} {K : Fr} {mg : Str → Option Value} {base : Heap}
theorem bo_max' : bootBuiltins "max" = some (.builtin "max") := by decide +kernel
def spDeep (d : Nat) : Sp := fun vs H Q _ => ∃ (t : Tree) (x : V), vs = [x] ∧ TreeAt H d t x ∧ ∀ H' : Hp, Same H H' → Q (.int t.deep) H'
end
end K11

namespace K11
open PySem PySem.Spec PyProof.Rows L2 Hk NumM NumT SX
theorem leaves_eq {t : Tree} (h : ∀ l, t ≠ .name l) : t.leaves = (t.kids.map Tree.leaves).flatten := by
  cases t with
  | name l => exact absurd rfl (h l)
  | sum ts =>
    rw [Tree.leaves, Tree.kids]
    simp
  | times t b x => simp [Tree.leaves, Tree.kids]
  | pair w x n => simp [Tree.leaves, Tree.kids]
theorem leaves_len {H : Hp} {d : Nat} {t : Tree} {v : V} (I : TreeAt H d t v) : t.leaves.length ≤ 5 ^ d := by
  induction I with
  | @name d t p nm h =>
    rw [Tree.leaves]
    exact Nat.pos_of_ne_zero (by simp)
  | @sum d ts xs p h n1 n5 hl hk ih =>
    rw [leaves_eq (fun l => by simp), Tree.kids, List.length_flatten, List.map_map]
    have key : ∀ (us : List Tree) (ys : List V), ys.length = us.length → (∀ (i : Nat) (x : V) (t : Tree), ys[i]? = some x → us[i]? = some t → t.leaves.length ≤ 5 ^ d) → (us.map (List.length ∘ Tree.leaves)).sum ≤ us.length * 5 ^ d := by
      intro us
      induction us with
      | nil => intro ys _ _; simp
      | cons u us ihu =>
        intro ys hy hall
        cases ys with
        | nil => simp at hy
        | cons y ys =>
          have h1 := hall 0 y u rfl rfl
          have h2 := ihu ys (by simpa using hy) (fun i x t a b => hall (i + 1) x t (by simpa using a) (by simpa using b))
          rw [List.map_cons, List.sum_cons, List.length_cons, Nat.add_mul]
          have h3 : (List.length ∘ Tree.leaves) u = u.leaves.length := rfl
          rw [h3]
          omega
    have := key ts xs hl ih
    rw [Nat.pow_succ]
    have h3 : ts.length * 5 ^ d ≤ 5 * 5 ^ d := Nat.mul_le_mul_right _ n5
    omega
  | times ok h hg hk ih =>
    rw [Tree.leaves, Nat.pow_succ]
    omega
  | pair hw n0 n6 n1 h hk ih =>
    rw [Tree.leaves, Nat.pow_succ]
    omega
theorem tree_word {H : Hp} {d : Nat} {t : Tree} {v : V} (I : TreeAt H d t v) (h : ∀ l, t ≠ .name l) : ∃ (p : Addr) (xs : List V) (w : Str), v = .ref p ∧ H p = some (.tup (.str w :: xs)) ∧ V.str w ≠ V.str "name" := by
  cases I with
  | name nm h' => exact absurd rfl (h _)
  | sum h' n1 n5 hl hk => exact ⟨_, _, "sum", rfl, h', by decide⟩
  | times ok h' hg hk => exact ⟨_, _, "times", rfl, h', by decide⟩
  | pair hw n0 n6 n1 h' hk => exact ⟨_, _, _, rfl, h', (word_ne hw).1⟩
theorem take_flat {f : Tree → List (List Nat)} (ts : List Tree) (i : Nat) : (((ts.take i).map f).flatten).length ≤ ((ts.map f).flatten).length := by
  rw [List.length_flatten, List.length_flatten]
  induction ts generalizing i with
  | nil => simp
  | cons t r ih =>
    cases i with
    | zero => simp
    | succ i =>
      have := ih i
      simp only [List.take_succ_cons, List.map_cons, List.sum_cons]
      omega
section
variable {P : Program} {w : World} {K : Fr} {mg : Str → Option Value} {base : Heap}
def spLeaves (d : Nat) : Sp := fun vs H Q _ => ∃ (t : Tree) (x : V), vs = [x] ∧ TreeAt H d t x ∧ d ≤ 5 ∧ ∀ (p : Addr) (H' : Hp), Same H H' → H p = none → H' p = some (.lst (t.leaves.map fun l => .str (S l))) → Q (.ref p) H'
end
end K11

namespace K11
open PySem PySem.Spec PyProof.Rows L2 Hk NumM NumT SX
theorem str_len (x y : Str) : (x ++ y).length = x.length + y.length := by
  show (x.cps ++ y.cps).size = _
  rw [Array.size_append]
  rfl
theorem sqT_same {K : Fr} {a : Addr} {xs : List V} {H H' : Hp} (s : Same H H') (h : SqT K H a xs) : SqT K H' a xs := by
  rcases h with (z | ⟨o1, z⟩) | z
  · exact .inl (.inl (s _ _ z))
  · exact .inl (.inr ⟨o1, s _ _ z⟩)
  · exact .inr z
/-- a comprehension that makes ys of xs, item by item -/
theorem lc_idxT {K : Fr} {a : Addr} {xs : List V} {i : Nat} {te : TE} {σ : L2.St} {H1 : Hp} {D : Addr} {Qd : Hp → Prop} (ys : List V) (hlen : xs.length = ys.length) (nD : H1 D = none) (hl : SqT K H1 a xs) (hz : xs.length ≤ 100000)
    (hs : ∀ (j : Nat) (x y : V), xs[j]? = some x → ys[j]? = some y → ∀ (H : Hp) (R : VK), Same H1 H → (∀ H', Same H H' → R y H') → te ((σ.set i none).set i (some x)) H R)
    (hd : ∀ H, Same H1 H → H D = some (.lst ys) → Qd H) :
    ∃ W : Nat → Nat → Hp → Prop, (∃ m, W 0 m (upd H1 D (.lst []))) ∧ ∀ j m H, W j m H →
      ((Itt K a).stop j H ∧ Qd H) ∨ ((Itt K a).go j H ∧ ∃ Nx : Hp → Prop, (∀ H', Nx H' → ∃ m', m' < m ∧ W (j + 1) m' H') ∧ ∀ x H', (Itt K a).yld j H x H' → gName i x (wipe σ [i]) H' fun σ2 H2 => wipe σ2 [i] = wipe σ [i] ∧ tYes σ2 H2 fun b H3 =>
        if b = true then te σ2 H3 fun y H4 => ∃ acc, H4 D = some (.lst acc) ∧ acc.length < sizeLine ∧ Nx (upd H4 D (.lst (acc ++ [y]))) else Nx H3) := by
  refine lc_tup (xs := xs) (fun j H' => Same H1 H' ∧ H' D = some (.lst (ys.take j))) ⟨same_upd nD, upd_same⟩ (fun j H' _ h => sqT_same h.1 hl) ?_ ?_
  · rintro j x H hx ⟨s1, hD⟩
    have hj := (List.getElem?_eq_some_iff.mp hx).1
    have hy : ys[j]? = some (ys[j]'(by omega)) := List.getElem?_eq_getElem _
    refine ⟨by show ((σ.set i none).set i (some x)).set i none = σ.set i none; rw [List.set_set, List.set_set], ?_⟩
    unfold tYes
    dsimp only
    rw [if_pos rfl]
    refine hs j x _ hx hy H _ s1 fun H' s2 => ⟨_, s2 _ _ hD, ?_, same_upd' (s1.trans s2) nD, ?_⟩
    · rw [List.length_take]
      have : (100000 : Nat) < sizeLine := by decide
      omega
    · rw [upd_same, List.take_add_one, hy]
      rfl
  · rintro H ⟨s1, hD⟩
    rw [hlen, List.take_length] at hD
    exact hd H s1 hD
theorem fl_len {t b : Int} (ok : GainOk t b) : (fL t b).length ≤ 607 := by
  have l1 := i_len (z := t) (Nat.lt_of_le_of_lt ok.t1 (by decide +kernel))
  have l2 := i_len (z := b) (Nat.lt_of_le_of_lt ok.b1 (by decide +kernel))
  unfold fL
  split
  · omega
  · rw [List.length_append, List.length_cons]
    omega
theorem il_len {n : Int} (h0 : 0 ≤ n) (h6 : n ≤ 6) : (iL n).length ≤ 303 := i_len (z := n) (Nat.lt_of_le_of_lt (show n.natAbs ≤ 6 by omega) (by decide +kernel))
theorem word_len {w : Nat} : (wordOf w).length ≤ 6 := by
  unfold wordOf
  split
  · decide +kernel
  · split <;> decide +kernel
theorem six_pos (d : Nat) : 1 ≤ 6 ^ d := Nat.pos_of_ne_zero (by simp)
theorem tree_pos {H : Hp} {d : Nat} {t : Tree} {v : V} (I : TreeAt H d t v) : 6 ≤ 6 ^ d := by
  obtain ⟨e, rfl⟩ : ∃ e, d = e + 1 := by cases I <;> exact ⟨_, rfl⟩
  rw [Nat.pow_succ]
  have := six_pos e
  omega
theorem tell_le {H : Hp} {d : Nat} {t : Tree} {v : V} (I : TreeAt H d t v) : t.tell.length ≤ 40 * 6 ^ d := by
  induction I with
  | @name d t p nm h =>
    have := nm.hi
    have := six_pos d
    rw [Tree.tell, S_len, Nat.pow_succ]
    omega
  | @sum d ts xs p h n1 n5 hl hk ih =>
    rw [tell_sum, str_len, str_len]
    have key : ∀ (us : List Tree) (ys : List V), ys.length = us.length → (∀ (i : Nat) (x : V) (t : Tree), ys[i]? = some x → us[i]? = some t → t.tell.length ≤ 40 * 6 ^ d) → ((us.map Tree.tell).map (·.length)).sum ≤ us.length * (40 * 6 ^ d) := by
      intro us
      induction us with
      | nil => intro ys _ _; simp
      | cons u us ihu =>
        intro ys hy hall
        cases ys with
        | nil => simp at hy
        | cons y ys =>
          have h1 := hall 0 y u rfl rfl
          have h2 := ihu ys (by simpa using hy) (fun i x t a b => hall (i + 1) x t (by simpa using a) (by simpa using b))
          rw [List.map_cons, List.map_cons, List.sum_cons, List.length_cons, Nat.add_mul]
          omega
    have k1 := key ts xs hl ih
    have k2 : ts.length * (40 * 6 ^ d) ≤ 5 * (40 * 6 ^ d) := Nat.mul_le_mul_right _ n5
    have k3 : (Str.join (", " : Str) (ts.map Tree.tell)).length ≤ ((ts.map Tree.tell).map (·.length)).sum + 5 * 2 := by
      cases ts with
      | nil => simp at n1
      | cons u us =>
        rw [List.map_cons, len_join_cons, show (", " : Str).length = 2 from rfl]
        have : us.length ≤ 4 := by simpa using n5
        have e : ((Tree.tell u :: us.map Tree.tell).map (·.length)).sum = (((u :: us).map Tree.tell).map (·.length)).sum := rfl
        rw [List.length_map]
        omega
    have e1 : ("sum(" : Str).length = 4 := rfl
    have e2 : (")" : Str).length = 1 := rfl
    rw [e1, e2, Nat.pow_succ]
    have := six_pos d
    omega
  | @times d t b x v p g ok h hg hk ih =>
    have := tree_pos hk
    have := fl_len ok
    have eS : (S (fL t b)).length = (fL t b).length := by rw [S_len]
    rw [Tree.tell, str_len, str_len, str_len, str_len, eS, show ("times(" : Str).length = 6 from rfl, show (", " : Str).length = 2 from rfl, show (")" : Str).length = 1 from rfl, Nat.pow_succ]
    omega
  | @pair d w n x v p hw n0 n6 n1 h hk ih =>
    have := tree_pos hk
    have := il_len n0 n6
    have := word_len (w := w)
    have eS : (S (iL n)).length = (iL n).length := by rw [S_len]
    rw [Tree.tell, str_len, str_len, str_len, str_len, str_len, eS, show ("(" : Str).length = 1 from rfl, show (", " : Str).length = 2 from rfl, show (")" : Str).length = 1 from rfl, Nat.pow_succ]
    omega
end K11

namespace K11
open PySem PySem.Spec PyProof.Rows L2 Hk NumM NumT SX
section
variable {P : Program} {w : World} {K : Fr} {mg : Str → Option Value} {base : Heap}
def spTell (d : Nat) : Sp := fun vs H Q _ => ∃ (t : Tree) (x : V), vs = [x] ∧ TreeAt H d t x ∧ d ≤ 5 ∧ ∀ H' : Hp, Same H H' → Q (.str t.tell) H'
end
end K11

namespace K11
open PySem PySem.Spec PyProof.Rows L2 Hk NumM NumT SX
theorem bo_tuple : bootBuiltins "tuple" = some (.type "tuple") := by decide +kernel
/-- so many draws at most -/
def cost (d : Nat) : Nat := 10 * 6 ^ d
theorem cost_succ (d : Nat) : cost (d + 1) = 6 * cost d := by
  unfold cost
  rw [Nat.pow_succ]
  omega
theorem cost_ge (d : Nat) : 10 ≤ cost d := by
  have := six_pos d
  unfold cost
  omega
structure TagsAt (g : Addr) (ts : List (List Nat)) (H : Hp) : Prop where
  at_ : H g = some (.lst (ts.map fun t => .str (S t)))
  nm : ∀ t ∈ ts, Nm t
  ne : 1 ≤ ts.length
  le : ts.length ≤ 12
theorem treeAt_old {a : Addr} {n d : Nat} {t : Tree} {v : V} {H H' : Hp} (I : TreeAt H d t v) (s : SrcAt a n H) (o : Old a H H') : TreeAt H' d t v :=
  I.kp (a := 0) (n := 0) fun b xs h => o _ _ h (fun z => by
    subst z
    obtain ⟨d, e, c, h1, _⟩ := s
    rw [h] at h1
    cases h1)
theorem treeAt_put {l : Addr} {xs : List V} {o : HO} {d : Nat} {t : Tree} {v : V} {H : Hp} (I : TreeAt H d t v) (hl : H l = some (.lst xs)) : TreeAt (upd H l o) d t v :=
  I.kp (a := 0) (n := 0) fun b ys h => by
    rw [upd_ne (ne_of h hl (by intro z; exact nomatch z))]
    exact h
theorem kids_snoc {H : Hp} {d : Nat} {us : List Tree} {xs : List V} {t : Tree} {v : V} (kd : Kids H d us xs) (ht : TreeAt H d t v) : Kids H d (us ++ [t]) (xs ++ [v]) := by
  refine ⟨by simp [kd.1], fun i x u h1 h2 => ?_⟩
  by_cases hi : i < us.length
  · rw [List.getElem?_append_left (by rw [kd.1]; exact hi)] at h1
    rw [List.getElem?_append_left hi] at h2
    exact kd.2 i x u h1 h2
  · rw [List.getElem?_append_right (by have := kd.1; omega)] at h1
    rw [List.getElem?_append_right (by omega)] at h2
    have e : i - xs.length = i - us.length := by rw [kd.1]
    rw [e] at h1
    cases q : i - us.length with
    | zero =>
      rw [q] at h1 h2
      cases h1
      cases h2
      exact ht
    | succ j =>
      rw [q] at h1
      simp at h1
theorem srcAt_put {a l : Addr} {n : Nat} {o : HO} {H : Hp} (s : SrcAt a n H) (h : a ≠ l) : SrcAt a n (upd H l o) := by
  obtain ⟨d, e, c, h1, h2⟩ := s
  exact ⟨d, e, c, by rw [upd_ne h]; exact h1, h2⟩
theorem tags_at {g : Addr} {ts : List (List Nat)} {H : Hp} (tg : TagsAt g ts H) {v : Int} (h0 : 0 ≤ v) (h1 : v < ((ts.map fun t => V.str (S t)).length : Int)) : ∃ l, atI (ts.map fun t => V.str (S t)) v = some (V.str (S l)) ∧ l ∈ ts := by
  obtain ⟨j, rfl⟩ := Int.eq_ofNat_of_zero_le h0
  rw [List.length_map] at h1
  have hj : j < ts.length := by omega
  exact ⟨ts[j], atI_nat (by rw [List.getElem?_map, List.getElem?_eq_getElem hj]; rfl), List.getElem_mem hj⟩
section
variable {P : Program} {w : World} {K : Fr} {mg : Str → Option Value} {base : Heap}
def spTree (d : Nat) : Sp := fun vs H Q _ => ∃ (a g : Addr) (dd room : Int) (n : Nat) (ts : List (List Nat)), vs = [.ref a, .ref g, .int dd, .int room] ∧ dd = d ∧ 1 ≤ d ∧ d ≤ 5 ∧ SrcAt a n H ∧ a ≠ g ∧ TagsAt g ts H ∧ n + cost d < 2 ^ 40 ∧ 1 ≤ room ∧
  ∀ (t : Tree) (v : V) (H' : Hp), TreeAt H' d t v → (t.parts : Int) ≤ room → (∀ l ∈ t.leaves, l ∈ ts) → Old a H H' → SrcAt a (n + cost d) H' → Q v H'
end
end K11

namespace K11
open PySem PySem.Spec PyProof.Rows L2 Hk NumM NumT SX
/-- of more different things than others, one is none of these -/
theorem fresh_of {α : Type} [DecidableEq α] : ∀ (l f : List α), l.Nodup → f.length < l.length → ∃ x ∈ l, x ∉ f
  | [], f, _, h => absurd h (by simp)
  | a :: r, f, nd, h => by
    by_cases ha : a ∈ f
    · have nd' := List.nodup_cons.mp nd
      have h2 : (f.erase a).length < r.length := by
        have := List.length_erase_of_mem ha
        have : 0 < f.length := List.length_pos_of_mem ha
        simp only [List.length_cons] at h
        omega
      obtain ⟨x, hx, hn⟩ := fresh_of r (f.erase a) nd'.2 h2
      refine ⟨x, List.mem_cons_of_mem _ hx, fun q => hn ?_⟩
      have xa : x ≠ a := fun e => nd'.1 (e ▸ hx)
      exact (List.mem_erase_of_ne xa).mpr q
    · exact ⟨a, List.mem_cons_self, ha⟩
theorem signs_nd : signsL.Nodup := by decide +kernel
/-- the first seven and a sign -/
def cand (t : List Nat) (c : Nat) : List Nat := t.take 7 ++ [c]
theorem cand_nm {t : List Nat} {c : Nat} (h : Nm t) (hc : c ∈ signsL) : Nm (cand t c) := by
  have h1 := h.lo
  have e : (t.take 7)[0]? = t[0]? := by
    rw [List.getElem?_take]
    rfl
  have hl : 0 < (t.take 7).length := by
    rw [List.length_take]
    omega
  refine ⟨?_, ?_, fun d hd => ?_, fun d hd => ?_⟩
  · unfold cand
    simp
  · unfold cand
    rw [List.length_append, List.length_take, List.length_singleton]
    omega
  · unfold cand at hd
    rw [List.getElem?_append_left hl, e] at hd
    exact h.hd d hd
  · unfold cand at hd
    rcases List.mem_append.mp hd with q | q
    · exact h.al d (List.mem_of_mem_take q)
    · rw [List.mem_singleton.mp q]
      exact hc
/-- the names that may be taken -/
def cands (t : List Nat) : List (List Nat) := t :: signsL.map (cand t)
theorem cands_nm {t : List Nat} (h : Nm t) : ∀ x ∈ cands t, Nm x := fun x hx => by
  rcases List.mem_cons.mp hx with rfl | q
  · exact h
  · obtain ⟨c, hc, rfl⟩ := List.mem_map.mp q
    exact cand_nm h hc
theorem cands_fresh {t : List Nat} {f : List (List Nat)} (hf : f.length ≤ 12) : ∃ x ∈ cands t, x ∉ f := by
  have nd : (signsL.map (cand t)).Nodup := by
    refine List.pairwise_map.mpr (List.Pairwise.imp (fun {a b} h e => h ?_) signs_nd)
    have := List.append_cancel_left e
    simpa using this
  obtain ⟨x, hx, hn⟩ := fresh_of (signsL.map (cand t)) f nd (by rw [List.length_map, signs_len]; omega)
  exact ⟨x, List.mem_cons_of_mem _ hx, hn⟩
theorem cut7 (t : List Nat) : cutS (S t) none (some 7) = S (t.take 7) := by
  have h : (S t).length = t.length := by rw [S_len]
  unfold cutS
  rw [HT.sIx_none, show (some (7 : Int)) = some ((7 : Nat) : Int) from rfl, HT.sIx_nat, h, Nat.sub_zero, List.drop_zero]
  have e : (S t).cps.toList = t := by simp
  rw [e]
  have : t.take (min 7 t.length) = t.take 7 := by
    rw [Nat.min_def]
    split
    · rfl
    · rw [List.take_length, List.take_of_length_le (by omega)]
  rw [this]
theorem S_inj {x y : List Nat} (h : S x = S y) : x = y := by
  have := congrArg (fun z : Str => z.cps.toList) h
  simpa using this
theorem sign_small : ∀ c ∈ signsL, c < 128 := by decide +kernel
theorem nm_asc {t : List Nat} (h : Nm t) : Asc (S t) := S_asc fun c hc => sign_small c (h.al c hc)
def strD (t : List Nat) : PyData := .str (S t)
theorem any_eqv {ts : List (List Nat)} {x : List Nat} : ((ts.map strD).any fun z => PyData.eqv z (strD x)) = decide (x ∈ ts) := by
  induction ts with
  | nil => rfl
  | cons t r ih =>
    rw [List.map_cons, List.any_cons, ih]
    by_cases h : t = x
    · subst h
      simp [strD, PyData.eqv]
    · have : PyData.eqv (strD t) (strD x) = false := by
        have : S t ≠ S x := fun e => h (S_inj e)
        simp [strD, PyData.eqv, this]
      rw [this, Bool.false_or]
      simp [List.mem_cons, Ne.symm h]
theorem strs_shaped {ts : List (List Nat)} (h : ∀ t ∈ ts, Nm t) : SeqAt.shaped (.list (ts.map strD)) = true := by
  have h1 : PyData.canLayAll0 (ts.map strD) = true := by
    induction ts with
    | nil => rfl
    | cons t r ih =>
      have a := (nm_asc (h t List.mem_cons_self)).ok
      have b := ih fun x hx => h x (List.mem_cons_of_mem _ hx)
      simp [PyData.canLayAll0, PyData.canLay0, strD, a] at b ⊢
      exact b
  have h2 : PyData.depthAll (ts.map strD) ≤ 1 := by
    clear h1 h
    induction ts with
    | nil => simp [PyData.depthAll]
    | cons t r ih =>
      simp [PyData.depthAll, PyData.depth, strD] at ih ⊢
      try omega
  simp [SeqAt.shaped, PyData.canLay0, PyData.depth, h1]
  omega
theorem str_shaped {t : List Nat} (h : Nm t) : SeqAt.shaped (strD t) = true := by
  have := (nm_asc h).ok
  simp [SeqAt.shaped, strD, PyData.canLay0, PyData.depth, this]
theorem dp_names {K : Fr} {H : Hp} : ∀ ts : List (List Nat), DpAll K H (ts.map fun t => V.str (S t)) (ts.map strD)
  | [] => .nil
  | t :: r => .cons (.str _) (dp_names r)
section
variable {P : Program} {w : World} {K : Fr} {mg : Str → Option Value} {base : Heap}
def spTags : Sp := fun vs H Q _ => ∃ (a : Addr) (m : Int) (n : Nat), vs = [.ref a, .int m] ∧ 1 ≤ m ∧ m ≤ 12 ∧ SrcAt a n H ∧ n + 200 < 2 ^ 40 ∧ ∀ (g : Addr) (ts : List (List Nat)) (H' : Hp), TagsAt g ts H' → H g = none → (ts.length : Int) = m → Old a H H' → SrcAt a (n + 120) H' → Q (.ref g) H'
theorem c_tags (T : Tx K mg) : Cal P w K mg base 3 "_law_tags" (gAd "_law_tags" K) ["_law_source_here", "_law_many"] spTags := by
  have C_tag := c_tag (P := P) (w := w) (base := base) T
  refine cal_of (d := d_l_tags) (N := ["_law_source_here", "_law_many", "_law_signs", "_law_found", "_law_turn", "_law_tag_here", "_law_some", "_law_sign", "_law_each"]) (a_l_tags T.c) rfl sc_l_tags (g_l_tags T) (fun _ _ _ _ _ _ us hl => match us, hl with | [_, _], _ => rfl) (fun vs H Q E h => ?_) (fun cdv A outer s H vs Q E hr h => ?_)
  · obtain ⟨a, m, n, rfl, _⟩ := h
    rfl
  · obtain ⟨a, m, n, rfl, m0, m1, hs, hn, k⟩ := h
    have hu : (A.deeper (envOfC d_l_tags.ql (defScope d_l_tags.st) s.heap.objs.size (d_l_tags.ad K) cdv)).units + 65 < cLine := by
      have := hr.un
      omega
    refine ⟨_, (pss_cons (ps_set (i := 2) sc_l_tags.nd rfl (.inl rfl) pe_str)
 (pss_cons (ps_set (i := 3) sc_l_tags.nd rfl (.inr rfl) (pe_lst pa_nil))
 (pss_cons (ps_for PassesOwn.never rfl (pi_range1 (by rfl) (n_range T) (pa_cons (pv 1) pa_nil)) (pg_name (i := 4) sc_l_tags.nd rfl (.inl rfl))
 (pss_cons (ps_set (i := 5) sc_l_tags.nd rfl (.inr rfl) (pe_c C_tag hr (pa_cons (pv 0) pa_nil)))
 (pss_cons (ps_set (i := 6) sc_l_tags.nd rfl (.inl rfl) (pe_op op_cat (pe_lst (pa_cons (pv 5) pa_nil)) (pe_lc (own := [("_law_sign", 7)]) (g := gName 7) (tt := tYes) rfl sc_l_tags.nd (pi_str (pv 2)) (blkOk_by (N := ["_law_source_here", "_law_many", "_law_signs", "_law_found", "_law_turn", "_law_tag_here", "_law_some", "_law_sign", "_law_each"]) (sc := defScope s_l_tags) (by decide +kernel)) (fun _ _ _ _ _ => pg_name (i := 7) sc_l_tags.nd rfl (.inl rfl)) (fun _ _ _ _ _ => pts_nil) (fun _ _ _ _ _ => (pe_op op_add_str (pe_slice sl_str (pv 5) po_none (po_some pe_int)) (pv 7))))))
 (pss_one (ps_expr (pe_bm PySem.F.plainAttrs_list PySem.F.slot_list_append PySem.F.type_list_append mt_append (pv 3) (pa_cons (pe_ix ix_list (pe_lc (own := [("_law_each", 8)]) (g := gName 8) rfl sc_l_tags.nd (pi_list (pv 6)) (blkOk_by (N := ["_law_source_here", "_law_many", "_law_signs", "_law_found", "_law_turn", "_law_tag_here", "_law_some", "_law_sign", "_law_each"]) (sc := defScope s_l_tags) (by decide +kernel)) (fun _ _ _ _ _ => pg_name (i := 8) sc_l_tags.nd rfl (.inl rfl)) (fun _ _ _ _ _ => (pts_one (pt_cmpR (op_notInD (by exact hu) : OpR _ _ (rNotInD K)) (pv 8) (pv 3) (by rfl)))) (fun _ _ _ _ _ => (pv 8))) pe_int (fun _ _ => rfl)) pa_nil)))))))
 (pss_one (ps_ret (pv 3)))))), ?_⟩
    refine ⟨(by show 0 ≤ sizeLine; decide), fun g ng => ?_⟩
    have sg := same_upd (o := .lst []) ng
    have ag := hs.ne ng
    refine ⟨_, rfl, _, rfl, by omega, by omega, ?_⟩
    refine for_range (lo := 0) (n := m.toNat) (fun i σ H' => ∃ (ts : List (List Nat)) (x4 x5 x6 x7 x8 : Option V), H' g = some (.lst (ts.map fun t => .str (S t))) ∧ (∀ t ∈ ts, Nm t) ∧ ts.length = i ∧ Old a H H' ∧ SrcAt a (n + 10 * i) H' ∧
      σ = [some (.ref a), some (.int m), some (.str signsZ), some (.ref g), x4, x5, x6, x7, x8]) ⟨[], none, none, none, none, none, upd_same, fun t h => absurd h List.not_mem_nil, rfl, Old.same sg, hs.same sg, rfl⟩ ?_ ?_
    · rintro i σ H' hi ⟨ts, x4, x5, x6, x7, x8, hg, nm, tl, oo, ss, rfl⟩
      refine ⟨_, rfl, a, n + 10 * i, rfl, ss, by omega, fun t H1 nt o1 s1 => ?_⟩
      have hg1 := o1 _ _ hg (Ne.symm ag)
      refine ⟨_, rfl, (by show 1 ≤ sizeLine; decide), fun q nq => ?_⟩
      refine ⟨_, rfl, signsZ, rfl, fun D nD => ?_⟩
      refine lc_fnS (z := signsZ) (fun c => .str (S (cand t c))) nD (by decide +kernel) (fun c hc H2 R s2 qq => ?_) (fun H2 s2 hD => ?_)
      · refine ⟨_, rfl, 7, rfl, S t, rfl, ?_, _, rfl, _, ⟨#[c]⟩, rfl, rfl, ?_, ?_⟩
        · rw [S_len]
          exact line_ge (by have := nt.hi; omega)
        · rw [cut7, S_len]
          exact line_ge (by rw [List.length_take]; show min 7 t.length + 1 ≤ _; omega)
        · rw [cut7]
          have e : S (t.take 7) ++ (⟨#[c]⟩ : Str) = S (cand t c) := by
            unfold cand
            rw [← S_cat]
          rw [e]
          exact qq _ (Same.refl _)
      · refine ⟨q, D, [.str (S t)], _, rfl, rfl, s2 _ _ upd_same, hD, ?_, fun l nl => ?_⟩
        · rw [List.length_map]
          exact Nat.le_trans (show 1 + signsZ.cps.toList.length ≤ 1000 by decide +kernel) (by decide)
        · have sl := same_upd (o := .lst ([V.str (S t)] ++ signsZ.cps.toList.map fun c => V.str (S (cand t c)))) nl
          have hl : upd H2 l (.lst ([V.str (S t)] ++ signsZ.cps.toList.map fun c => V.str (S (cand t c)))) l = some (.lst ((cands t).map fun x => V.str (S x))) := by
            rw [upd_same]
            unfold cands
            rw [List.map_cons, List.map_map]
            rfl
          have S3 := ((same_upd (o := .lst [V.str (S t)]) nq).trans s2).trans sl
          have hg3 := S3 _ _ hg1
          have ss3 := s1.same S3
          generalize upd H2 l (.lst ([V.str (S t)] ++ signsZ.cps.toList.map fun c => V.str (S (cand t c)))) = H3 at *
          refine ⟨_, rfl, .inl ⟨rfl, _, .inl (.inl hg3)⟩, _, rfl, l, rfl, ⟨_, .inl (.inl hl)⟩, fun D2 nD2 => ?_⟩
          refine lc_list (a := l) (xs := (cands t).map fun x => V.str (S x)) (fun j H' => Same H3 H' ∧ H' D2 = some (.lst ((((cands t).take j).filter fun x => !decide (x ∈ ts)).map fun x => V.str (S x)))) ⟨same_upd nD2, upd_same⟩ (fun j H' _ h => .inl (.inl (h.1 _ _ hl))) ?_ ?_
          · rintro j x H4 hx ⟨s4, hD4⟩
            rw [List.getElem?_map] at hx
            obtain ⟨y, hy, rfl⟩ := Option.map_eq_some_iff.mp hx
            have ny := cands_nm nt y (List.mem_of_getElem? hy)
            refine ⟨rfl, ?_⟩
            refine ⟨_, rfl, _, rfl, strD y, ts.map strD, .str _, .lst (.inl (.inl (s4 _ _ hg3))) (dp_names ts), str_shaped ny, strs_shaped nm, ?_⟩
            rw [any_eqv]
            have tk : (((cands t).take (j + 1)).filter fun x => !decide (x ∈ ts)) = (((cands t).take j).filter fun x => !decide (x ∈ ts)) ++ ([y].filter fun x => !decide (x ∈ ts)) := by
              rw [List.take_add_one, hy, List.filter_append]
              rfl
            refine ⟨_, rfl, ?_⟩
            by_cases hm : y ∈ ts
            · rw [decide_eq_true hm]
              refine iteF ⟨s4, ?_⟩
              rw [tk, hD4]
              simp [hm]
            · rw [decide_eq_false hm]
              refine iteT ⟨_, rfl, _, hD4, ?_, same_upd' s4 nD2, ?_⟩
              · rw [List.length_map]
                refine Nat.lt_of_le_of_lt (List.length_filter_le _ _) ?_
                rw [List.length_take]
                have : (cands t).length = 37 := by
                  unfold cands
                  rw [List.length_cons, List.length_map, signs_len]
                exact Nat.lt_of_le_of_lt (show min j (cands t).length ≤ 37 by omega) (by decide)
              · rw [upd_same, tk]
                simp [hm]
          · rintro H4 ⟨s4, hD4⟩
            rw [List.length_map, List.take_length] at hD4
            obtain ⟨x, hx, hn⟩ := cands_fresh (t := t) (f := ts) (by omega)
            have hf : x ∈ (cands t).filter fun x => !decide (x ∈ ts) := List.mem_filter.mpr ⟨hx, by simp [hn]⟩
            have hall : ∀ y ∈ (cands t).filter fun x => !decide (x ∈ ts), Nm y := fun y hy => cands_nm nt y (List.mem_filter.mp hy).1
            generalize (cands t).filter (fun x => !decide (x ∈ ts)) = fl at hD4 hf hall
            cases fl with
            | nil => exact absurd hf List.not_mem_nil
            | cons y r =>
              have hg4 := s4 _ _ hg3
              refine ⟨D2, _, 0, .str (S y), rfl, rfl, .inl (.inl hD4), atI_nat (j := 0) rfl, g, _, .str (S y), rfl, rfl, hg4, ?_, ?_⟩
              · rw [List.length_map]
                exact Nat.lt_of_le_of_lt (show ts.length ≤ 12 by omega) (by decide)
              · refine ⟨ts ++ [y], some (.int (0 + (i : Int))), some (.str (S t)), some (.ref l), x7, x8, ?_, fun z hz => ?_, by simp; omega, fun b o hb hn => ?_, ?_, rfl⟩
                · rw [upd_same, List.map_append]
                  rfl
                · rcases List.mem_append.mp hz with q | q
                  · exact nm z q
                  · rw [List.mem_singleton.mp q]
                    exact hall y List.mem_cons_self
                · rw [upd_ne (ne_of_none hb ng)]
                  exact s4 _ _ (S3 _ _ (o1 _ _ (oo _ _ hb hn) hn))
                · exact (srcAt_put (ss3.same s4) ag).le (by omega)
    · rintro σ H' ⟨ts, x4, x5, x6, x7, x8, hg, nm, tl, oo, ss, rfl⟩
      exact ⟨_, rfl, k g ts H' ⟨hg, nm, by omega, by omega⟩ ng (by omega) oo (ss.le (by omega))⟩
end
end K11

/-! Operands of a Number's operators, their promises. -/
namespace Hk
open PySem PySem.Spec PyProof.Rows L2 NumM NumT SX
/-- a Number u/c, or the int u (c = 1) -/
def Opd (C : Addr) (H : Hp) (y : V) (u c : Int) : Prop := (∃ q, y = .ref q ∧ NumAt C H q u c) ∨ (y = .int u ∧ c = 1)
theorem Opd.same {C : Addr} {H H' : Hp} {y : V} {u c : Int} (o : Opd C H y u c) (s : Same H H') : Opd C H' y u c := by
  rcases o with ⟨q, rfl, N⟩ | ⟨rfl, rfl⟩
  · exact .inl ⟨q, rfl, N.same s⟩
  · exact .inr ⟨rfl, rfl⟩
theorem Opd.pos {C : Addr} {H : Hp} {y : V} {u c : Int} (o : Opd C H y u c) : 0 < c := by
  rcases o with ⟨q, rfl, N⟩ | ⟨rfl, rfl⟩
  · exact N.pos
  · decide
/-- small enough to be multiplied -/
abbrev Sm (n : Int) : Prop := n.natAbs < 2 ^ 450
theorem sm_mul {x y : Int} (h : Sm x) (g : Sm y) : (x * y).natAbs < 2 ^ 900 := wide_lt h g
theorem sm_sz {x : Int} (h : Sm x) : Sz x := Nat.lt_of_lt_of_le h (by decide +kernel)
theorem p900 : (2 : Nat) ^ 900 + 2 ^ 900 ≤ 2 ^ 1000 := by decide +kernel
theorem sz_mulS {x y : Int} (h : Sm x) (g : Sm y) : Sz (x * y) := by
  have := sm_mul h g
  have := p900
  exact Nat.lt_of_lt_of_le (sm_mul h g) (by omega)
theorem sz_add {x y z u : Int} (h : Sm x) (g : Sm y) (h' : Sm z) (g' : Sm u) : Sz (x * y + z * u) := by
  have a := sm_mul h g
  have b := sm_mul h' g'
  have e := p900
  have t : (x * y + z * u).natAbs ≤ (x * y).natAbs + (z * u).natAbs := Int.natAbs_add_le _ _
  exact Nat.lt_of_lt_of_le (show (x * y + z * u).natAbs < 2 ^ 900 + 2 ^ 900 by omega) e
theorem sz_sub {x y z u : Int} (h : Sm x) (g : Sm y) (h' : Sm z) (g' : Sm u) : Sz (x * y - z * u) := by
  have a := sm_mul h g
  have b := sm_mul h' g'
  have e := p900
  have t : (x * y - z * u).natAbs ≤ (x * y).natAbs + (z * u).natAbs := Int.natAbs_sub_le _ _
  exact Nat.lt_of_lt_of_le (show (x * y - z * u).natAbs < 2 ^ 900 + 2 ^ 900 by omega) e
theorem cm {x y : Int} (h : Sm x) (g : Sm y) : CMulW x y := wide_mul h g (by decide) (by decide) (by decide)
/-- as_number -/
def spAsN (C : Addr) : Sp := fun vs H Q _ => ∃ (y : V) (u c : Int), vs = [y] ∧ Opd C H y u c ∧ Sz u ∧ ∀ (H' : Hp) (q : Addr), Same H H' → NumAt C H' q u c → Q (.ref q) H'
/-- a two-place method: num and den of the new fraction -/
def spBin (C : Addr) (num : Int → Int → Int → Int → Int) (den : Int → Int → Int → Int → Int) (ok : Int → Int → Int → Int → Prop) : Sp := fun vs H Q _ => ∃ (p : Addr) (y : V) (t b u c : Int), vs = [.ref p, y] ∧ NumAt C H p t b ∧ Opd C H y u c ∧ Sm t ∧ Sm b ∧ Sm u ∧ Sm c ∧ ok t b u c ∧
  ∀ (H' : Hp) (q : Addr), Same H H' → NumAt C H' q (lowT (num t b u c) (den t b u c)) (lowB (num t b u c) (den t b u c)) → Q (.ref q) H'
/-- the reflected one: an int first -/
def spRbin (C : Addr) (num : Int → Int → Int → Int) : Sp := fun vs H Q _ => ∃ (p : Addr) (i t b : Int), vs = [.ref p, .int i] ∧ NumAt C H p t b ∧ Sm t ∧ Sm b ∧ Sm i ∧
  ∀ (H' : Hp) (q : Addr), Same H H' → NumAt C H' q (lowT (num i t b) (1 * b)) (lowB (num i t b) (1 * b)) → Q (.ref q) H'
def spUn (C : Addr) (g : Int → Int) : Sp := fun vs H Q _ => ∃ (p : Addr) (t b : Int), vs = [.ref p] ∧ NumAt C H p t b ∧ Sm t ∧ Sm b ∧ ∀ (H' : Hp) (q : Addr), Same H H' → NumAt C H' q (g t) b → Q (.ref q) H'
end Hk

namespace K11
open PySem PySem.Spec PyProof.Rows L2 Hk NumM NumT SX
open TL (numL)
section
variable {P : Program} {w : World} {K : Fr} {mg : Str → Option Value} {base : Heap}
abbrev CN (K : Fr) : Addr := He.ga K "Number"
theorem c_isint (T : Tx K mg) : Cal P w K mg base 1 "is_integer" (gAd "is_integer" K) ["value"] spIsInt := by
  refine cal_of (d := d_is_integer) (N := ["value"]) (a_is_integer T.c) rfl sc_is_integer (g_is_integer T) (fun _ _ _ _ _ _ us hl => match us, hl with | [_], _ => rfl) (fun vs H Q E h => ?_) (fun cdv A outer s H vs Q E hr h => ?_)
  · obtain ⟨i, rfl, _⟩ := h
    rfl
  · obtain ⟨i, rfl, k⟩ := h
    refine ⟨_, (pss_one (ps_ret (pe_and (pe_callB call_isi (by rfl) (n_isinstance T) bo_isinstance (pa_cons (pv 0) (pa_cons (pe_bltn (v := .ty "int") (by rfl) (n_int T) (by decide +kernel) rfl) pa_nil)))
      (pe_one (pe_not (pe_callB call_isi (by rfl) (n_isinstance T) bo_isinstance (pa_cons (pv 0) (pa_cons (pe_bltn (v := .ty "bool") (by rfl) (n_bool T) (by decide +kernel) rfl) pa_nil)))))))), ?_⟩
    refine ⟨_, rfl, _, _, .type "int", .type "int", true, rfl, .ty _, .base (.int i), kit_ty (by decide +kernel), true, rfl, iteT ?_⟩
    exact ⟨_, rfl, _, _, .type "int", .type "bool", false, rfl, .ty _, .base (.int i), kit_ty (by decide +kernel), false, rfl, k⟩
theorem f_init (T : Tx K mg) : ∃ fd, DAt K d_Number_init fd ∧ FnOk P w K mg base CX0 2 (d_Number_init.ad K) fd ["self", "top", "bottom"] (spInit (CN K)) := by
  obtain ⟨fd, D⟩ := a_Number_init T.c
  have C_is_integer := c_isint (P := P) (w := w) (base := base) T
  refine ⟨fd, D, ok_of (N := ["self", "top", "bottom", "shared"]) D sc_Number_init (fun vs H Q E h => ?_) (fun cdv A outer s H vs Q E hr h => ?_)⟩
  · obtain ⟨p, dx, h, b, rfl, _⟩ := h
    rfl
  · obtain ⟨p, dx, h, b, rfl, hp, hb, sb, k⟩ := h
    refine ⟨_, (pss_cons (ps_if (pt_not (pt_val (pe_c C_is_integer hr (pa_cons (pv 1) pa_nil)))) (pss_one ps_never) pss_nil)
      (pss_cons (ps_if (pt_not (pt_val (pe_c C_is_integer hr (pa_cons (pv 2) pa_nil)))) (pss_one ps_never) pss_nil)
      (pss_cons (ps_if (pt_cmpR op_eq (pv 2) pe_int (nomark _)) (pss_one ps_never) pss_nil)
      (pss_cons (ps_set (i := 3) sc_Number_init.nd rfl (.inl rfl) (pe_callBfun cr_gcd rfl (m_gcd T) (pa_cons (pv 1) (pa_cons (pv 2) pa_nil))))
      (pss_cons (ps_if (pt_cmpR op_lt (pv 2) pe_int (nomark _)) (pss_one (ps_set (i := 3) sc_Number_init.nd rfl (.inl rfl) (pe_un un_neg (pv 3)))) pss_nil)
      (pss_cons (ps_fld (pv 0) (pe_op op_fdivG (pv 1) (pv 3)) rfl)
      (pss_one (ps_fld (pv 0) (pe_op op_fdivG (pv 2) (pv 3)) rfl)))))))), ?_⟩
    refine ⟨_, rfl, h, rfl, _, rfl, iteF ?_⟩
    refine ⟨_, rfl, b, rfl, _, rfl, iteF ?_⟩
    refine ⟨_, rfl, rfl, _, rfl, ?_⟩
    refine ite2 (fun z => absurd (V.int.inj (of_decide_eq_true z)) hb) (fun _ => ?_)
    refine ⟨_, rfl, _, rfl, h, b, rfl, ?_⟩
    have cl := He.cls_ok (f_cls_Number T.c)
    have sz : CDivG h (shr h b) := ⟨shr_ne hb, by
      have := log2_sz (i := shr h b) (Nat.lt_of_le_of_lt (shr_le (h := h) hb) sb)
      omega⟩
    have szb : CDivG b (shr h b) := sz
    refine ⟨_, rfl, _, _, rfl, rfl, _, rfl, ?_⟩
    have fin : ∀ x : Int, x = shr h b → (fun (σ : L2.St) (H : Hp) => L2.tSeq (sFld K (tVar 0) (tOp (rI CDivG fun i j => .int (i.fdiv j)) (tVar 1) (tVar 3)) "_top") (sFld K (tVar 0) (tOp (rI CDivG fun i j => .int (i.fdiv j)) (tVar 2) (tVar 3)) "_bottom") { nx := fun _ H' => Q .non H', rt := Q } σ H) [some (.ref p), some (.int h), some (.int b), some (.int x)] H := by
      rintro x rfl
      refine ⟨_, rfl, _, rfl, h, _, rfl, rfl, sz, _, rfl, p, CN K, dx, _, rfl, hp, cl, He.noat_ok (f_noat_top T.c), (by show 0 < 1000; decide), ?_⟩
      refine ⟨_, rfl, _, rfl, b, _, rfl, rfl, szb, _, rfl, p, CN K, dx, _, rfl, upd_same, cl, He.noat_ok (f_noat_bot T.c), (by show 1 < 1000; decide), ?_⟩
      show Q .non _
      rw [upd_upd]
      rw [numF_eq, init_top hb, init_bot hb]
      exact k
    refine ite2 (fun z => ?_) (fun z => ?_)
    · refine ⟨_, rfl, _, rfl, ?_⟩
      exact fin _ (by unfold shr; rw [if_pos (of_decide_eq_true z)]; rfl)
    · exact fin _ (by unfold shr; rw [if_neg (fun q => z (decide_eq_true q))]; rfl)
theorem cl (T : Tx K mg) : Cls K (CN K) := He.cls_ok (f_cls_Number T.c)
theorem nT (T : Tx K mg) : NoAttr K (CN K) "_top" := He.noat_ok (f_noat_top T.c)
theorem nB (T : Tx K mg) : NoAttr K (CN K) "_bottom" := He.noat_ok (f_noat_bot T.c)
theorem f_top (T : Tx K mg) : ∃ fd, DAt K d_Number_top fd ∧ FnOk P w K mg base CX0 1 (d_Number_top.ad K) fd ["self"] (spGet (CN K) fun t _ => .int t) := by
  obtain ⟨fd, D⟩ := a_Number_top T.c
  refine ⟨fd, D, ok_of (N := ["self"]) D sc_Number_top (fun vs H Q E h => ?_) (fun cdv A outer s H vs Q E hr h => ?_)⟩
  · obtain ⟨p, t, b, rfl, _⟩ := h
    rfl
  · obtain ⟨p, t, b, rfl, ⟨⟨dx, hp⟩, _, _⟩, _, _, k⟩ := h
    exact ⟨_, pss_one (ps_ret (pe_fld (pv 0) rfl)), _, rfl, p, CN K, dx, _, _, rfl, hp, cl T, nT T, numF_top _ _, k⟩
theorem f_bottom (T : Tx K mg) : ∃ fd, DAt K d_Number_bottom fd ∧ FnOk P w K mg base CX0 1 (d_Number_bottom.ad K) fd ["self"] (spGet (CN K) fun _ b => .int b) := by
  obtain ⟨fd, D⟩ := a_Number_bottom T.c
  refine ⟨fd, D, ok_of (N := ["self"]) D sc_Number_bottom (fun vs H Q E h => ?_) (fun cdv A outer s H vs Q E hr h => ?_)⟩
  · obtain ⟨p, t, b, rfl, _⟩ := h
    rfl
  · obtain ⟨p, t, b, rfl, ⟨⟨dx, hp⟩, _, _⟩, _, _, k⟩ := h
    exact ⟨_, pss_one (ps_ret (pe_fld (pv 0) rfl)), _, rfl, p, CN K, dx, _, _, rfl, hp, cl T, nB T, numF_bot _ _, k⟩
theorem f_str (T : Tx K mg) : ∃ fd, DAt K d_Number_str fd ∧ FnOk P w K mg base CX0 1 (d_Number_str.ad K) fd ["self"] (spGet (CN K) fun t b => .str (S (fL t b))) := by
  obtain ⟨fd, D⟩ := a_Number_str T.c
  refine ⟨fd, D, ok_of (N := ["self"]) D sc_Number_str (fun vs H Q E h => ?_) (fun cdv A outer s H vs Q E hr h => ?_)⟩
  · obtain ⟨p, t, b, rfl, _⟩ := h
    rfl
  · obtain ⟨p, t, b, rfl, ⟨⟨dx, hp⟩, _, _⟩, st, sb, k⟩ := h
    refine ⟨_, (pss_cons (ps_if (pt_cmpR op_eq (pe_fld (pv 0) rfl) pe_int (nomark _)) (pss_one (ps_ret (pe_callTy call_str_int (by rfl) (n_str T) bo_str (pa_cons (pe_fld (pv 0) rfl) pa_nil)))) pss_nil)
      (pss_one (ps_ret (pe_joined (.cons (pe_fmt (pe_fld (pv 0) rfl)) (.cons pe_str (.cons (pe_fmt (pe_fld (pv 0) rfl)) .nil))))))), ?_⟩
    refine ⟨_, rfl, p, CN K, dx, _, _, rfl, hp, cl T, nB T, numF_bot _ _, rfl, _, rfl, ?_⟩
    have l1 := i_len st
    have l2 := i_len sb
    refine ite2 (fun z => ?_) (fun z => ?_)
    · have e : b = 1 := V.int.inj (of_decide_eq_true z)
      refine ⟨_, rfl, p, CN K, dx, _, _, rfl, hp, cl T, nT T, numF_top _ _, _, rfl, log2_small st, ?_⟩
      show Q (.str _) H
      rw [toS]
      have k' : Q (.str (S (fL t b))) H := k
      unfold fL at k'
      rw [if_pos e] at k'
      exact k'
    · have e : ¬ b = 1 := fun q => z (decide_eq_true (by rw [q]))
      refine ⟨_, rfl, p, CN K, dx, _, _, rfl, hp, cl T, nT T, numF_top _ _, .inr ⟨_, rfl, log2_small st, _, rfl, ?_, _, rfl, ?_, ?_⟩⟩
      · rw [toS, empty_S, S_cat, S_len]
        exact line_ge (by rw [List.nil_append]; omega)
      · rw [toS, empty_S, slash_S, S_cat, S_cat, S_len]
        exact line_ge (by rw [List.nil_append, List.length_append]; simp; omega)
      · refine ⟨_, rfl, p, CN K, dx, _, _, rfl, hp, cl T, nB T, numF_bot _ _, .inr ⟨_, rfl, log2_small sb, _, rfl, ?_, ?_⟩⟩
        · rw [toS, toS, empty_S, slash_S, S_cat, S_cat, S_cat, S_len]
          exact line_ge (by rw [List.nil_append, List.length_append, List.length_append]; simp; omega)
        · show Q (.str _) H
          rw [toS, toS, empty_S, slash_S, S_cat, S_cat, S_cat, List.nil_append, List.append_assoc]
          have k' : Q (.str (S (fL t b))) H := k
          unfold fL at k'
          rw [if_neg e] at k'
          exact k'
theorem mkN (T : Tx K mg) : Mk K (CN K) (d_Number_init.ad K) := He.mkr_ok (f_mkr_Number T.c)
theorem b_init2 {fd : FuncData} (D : DAt K d_Number_init fd) : Binds K fd ["self", "top", "bottom"] [] := by
  obtain ⟨ds, r, b⟩ := FunD.binds1 (ps := ["self", "top", "bottom"]) D 3 1 (by intro z; exact nomatch z) rfl (fun T kV doc pm an cdv ct us its hu hi => match us, its, hu, hi with | [_, _, _], [_], _, _ => ⟨_, rfl, rfl⟩)
  cases r
  exact b
theorem b_init1 {fd : FuncData} (D : DAt K d_Number_init fd) : ∃ ds, Vals [.int 1] ds ∧ Binds K fd ["self", "top", "bottom"] ds :=
  FunD.binds1 (ps := ["self", "top", "bottom"]) D 2 0 (by intro z; exact nomatch z) rfl (fun T kV doc pm an cdv ct us its hu hi => match us, its, hu, hi with | [_, _], [_], _, _ => ⟨_, rfl, rfl⟩)
theorem sz1 : Sz 1 := by decide +kernel
theorem low_one (u : Int) : lowT u 1 = u ∧ lowB u 1 = 1 := low_red (t := u) (b := 1) (by decide) (by simp)
theorem NumAt.lo {C : Addr} {H : Hp} {p : Addr} {t b : Int} (n : NumAt C H p t b) : lowT t b = t ∧ lowB t b = b := low_red n.pos n.cop
theorem c_asnum (T : Tx K mg) : Cal P w K mg base 4 "as_number" (gAd "as_number" K) ["value"] (spAsN (CN K)) := by
  have C_is_integer := c_isint (P := P) (w := w) (base := base) T
  obtain ⟨f0, D0, F0⟩ := f_init (P := P) (w := w) (base := base) T
  refine cal_of (d := d_as_number) (N := ["value"]) (a_as_number T.c) rfl sc_as_number (g_as_number T) (fun _ _ _ _ _ _ us hl => match us, hl with | [_], _ => rfl) (fun vs H Q E h => ?_) (fun cdv A outer s H vs Q E hr h => ?_)
  · obtain ⟨y, u, c, rfl, _⟩ := h
    rfl
  · obtain ⟨y, u, c, rfl, o, su, k⟩ := h
    obtain ⟨ds, Vd, B0⟩ := b_init1 D0
    refine ⟨_, (pss_cons (ps_if (pt_val (pe_callB call_isi (by rfl) (n_isinstance T) bo_isinstance (pa_cons (pv 0) (pa_cons (pe_glob (v := .ref (gAd "Number" K)) rfl (g_Number T) rfl) pa_nil))))
      (pss_one (ps_ret (pv 0))) pss_nil)
      (pss_cons (ps_if (pt_val (pe_c C_is_integer (hr.mono (by decide)) (pa_cons (pv 0) pa_nil)))
      (pss_one (ps_ret (pe_num (He.mkr_ok (f_mkr_Number T.c)) F0 hr (g_Number T) B0 Vd (pa_cons (pv 0) pa_nil)))) pss_nil)
      (pss_one ps_never))), ?_⟩
    rcases o with ⟨q, rfl, N⟩ | ⟨rfl, rfl⟩
    · obtain ⟨dx, hp⟩ := id N.at_
      refine ⟨_, rfl, _, _, _, _, true, rfl, .own _, .base (ins_ok (f_ins T.c) hp (cl T)), of_decide_eq_true (f_kitO T.c), true, rfl, iteT ?_⟩
      exact ⟨_, rfl, k _ _ (Same.refl H) N⟩
    · refine ⟨_, rfl, _, _, _, _, false, rfl, .own _, .base (.int _), of_decide_eq_true (f_kit_int T.c), false, rfl, iteF ?_⟩
      refine ⟨_, rfl, u, rfl, true, rfl, iteT ?_⟩
      refine ⟨_, rfl, u, 1, rfl, by decide, sz1, fun H' p s np N => ?_⟩
      rw [(low_one u).1, (low_one u).2] at N
      exact k _ _ s N
end
end K11

/-! set(xs) of a list of texts, sorted(set). -/
namespace Hst
open PySem PySem.Spec PyProof.Rows L2 PySem.Froz
/-- the text of a value -/
def strOf (v : Value) : Str := match v with
  | .str k _ => k
  | _ => Str.empty
/-- the payload holds the texts l, can be walked -/
structure TxW (P : Program) (w : World) (D : SD) (l : List Str) : Prop where
  tx : TxOk P w D l
  vls : ∀ e ∈ D.1.toList, ∃ k t, e.2 = Value.str k t
  pm : (D.1.toList.map fun e => strOf e.2).Perm l
  ris : Ris D.2.2.place.toList
  led : w.params.followText "set-order" = true ∨ D.2.2.led = true
section
variable {P : Program} {w : World} {A : Around} {E : Value → Shared → Prop} {s : Shared}
theorem TxW.add {D : SD} {l : List Str} {k : Str} (u : Tok) (F : TxW P w D l) : TxW P w (addTx (hashStr w k) (.str k u) D) (k :: l) := by
  have tx := add_ok (k := k) u F.tx
  obtain ⟨es, ep, t⟩ := D
  have hp := layNew_perm t es (hashStr w k) (.str k u)
  have hr := layNew_ris t es (hashStr w k) (.str k u) F.ris
  have hl := layNew_led t es (hashStr w k) (.str k u)
  have hled := F.led
  have hs := F.vls
  have hpm := F.pm
  unfold addTx at tx ⊢
  dsimp only at tx ⊢ hled hs hpm
  generalize layNew t es (hashStr w k) (.str k u) = Z at hp hr hl tx ⊢
  obtain ⟨es1, t1, wd, gave⟩ := Z
  dsimp only at hp hr hl tx ⊢
  rw [Array.toList_push] at hp
  have s1 : ∀ e ∈ es1.toList, ∃ k t, e.2 = Value.str k t := fun e he => by
    rcases List.mem_append.mp (hp.mem_iff.mp he) with z | z
    · exact hs e z
    · rw [List.mem_singleton] at z
      rw [z]
      exact ⟨k, u, rfl⟩
  have p1 : (es1.toList.map fun e => strOf e.2).Perm (k :: l) := by
    refine (hp.map _).trans ?_
    rw [List.map_append]
    exact (List.perm_append_singleton _ _).trans (hpm.cons _)
  have r1 : Ris (if t1.plain = true then { t1 with plain := false } else t1).place.toList := by
    split <;> exact hr
  have l1 : w.params.followText "set-order" = true ∨ (if t1.plain = true then { t1 with plain := false } else t1).led = true := by
    rcases hled with z | z
    · exact .inl z
    · refine .inr ?_
      split <;> exact hl.trans z
  generalize (if t1.plain = true then { t1 with plain := false } else t1) = t2 at r1 l1 tx ⊢
  unfold tailTx at tx ⊢
  split
  · rename_i c
    rw [if_pos c] at tx
    have pm := relayAll_perm t2 es1 (SetTable.grown es1.size)
    refine ⟨tx, fun e he => s1 e (pm.mem_iff.mp he), (pm.map _).trans p1, relayAll_ris _ _ _, l1.imp id fun z => (relayAll_led t2 es1 (SetTable.grown es1.size)).trans z⟩
  · rename_i c
    rw [if_neg c] at tx
    exact ⟨tx, s1, p1, r1, l1⟩
/-- the set of texts at a: l its members -/
def SetX (P : Program) (w : World) (h : Heap) (a : Addr) (l : List Str) : Prop := ∃ D, h.get? a = some (sObj "set" D) ∧ TxW P w D l ∧ l.Nodup
theorem SetX.at {h h' : Heap} {a : Addr} {l : List Str} (R : SetX P w h a l) (k : ∀ o, h.get? a = some o → h'.get? a = some o) : SetX P w h' a l := by
  obtain ⟨D, ho, r⟩ := R
  exact ⟨D, k _ ho, r⟩
theorem add_dup {a : Addr} {D : SD} {l : List Str} {k : Str} {u : Tok} {Q : Bool → Shared → Prop} (ho : s.heap.get? a = some (sObj "set" D)) (F : TxOk P w D l) (hk : k ∈ l) (hb : l.length < scanBound) (h : Q false s) :
    wpAny (model P w) A (setAddHashed a (.str k u) (hashStr w k)) Q E s := by
  obtain ⟨es, ep, t⟩ := D
  have hd : (sObj "set" (es, ep, t)).data = .set es ep t := rfl
  have hf : t.fits es.size = true := F.fit
  have hel : ElemsOf (strKind P w) es.toList := F.el
  have hsz : es.size = l.length := F.sz
  have hb0 : es.size < scanBound := by omega
  have hkey : (strKind P w).is k (.str k u) = true := is_str k u
  unfold setAddHashed setAddHashedIn
  refine wpAny_holding (wpAny_bind (wpAny_setState_of ho hd hf ?_))
  dsimp only
  rw [byScan_of rfl hb0 hel]
  simp only [↓reduceIte]
  unfold setAddByScan
  refine wpAny_bind ?_
  refine wpAny_bind (wpAny_rule ?_)
  refine wpAny_bind (wpAny_setScan_of (knd := strKind P w) (k := k) hkey ho hd hf hel ?_)
  cases hfi : List.findIdx? (fun e => (strKind P w).is k e.2) es.toList with
  | some j =>
    dsimp only
    exact wpAny_pure (wpAny_pure h)
  | none =>
    obtain ⟨e, he, q⟩ := (F.mem k).mp hk
    have c := List.findIdx?_eq_none_iff.mp hfi e he
    rw [q] at c
    cases c
/-- an added text -/
def ins1 (l : List Str) (k : Str) : List Str := if k ∈ l then l else k :: l
theorem add_one {a : Addr} {l : List Str} {k : Str} {u : Tok} {Q : Bool → Shared → Prop} (R : SetX P w s.heap a l) (hb : l.length + 1 < scanBound) (h : ∀ h' b, Heap.SameBut a s.heap h' → SetX P w h' a (ins1 l k) → Q b { s with heap := h' }) :
    wpAny (model P w) A (setAddHashed a (.str k u) (hashStr w k)) Q E s := by
  obtain ⟨D, ho, F, nd⟩ := R
  by_cases c : k ∈ l
  · refine add_dup ho F.tx c (by omega) (h s.heap false (Heap.SameBut.refl a s.heap) ?_)
    unfold ins1
    rw [if_pos c]
    exact ⟨D, ho, F, nd⟩
  · refine add_x ho F.tx c hb (h _ true (Heap.SameBut.update s.heap a _) ?_)
    unfold ins1
    rw [if_neg c]
    exact ⟨_, get_upd _ ho rfl, F.add u, List.nodup_cons.mpr ⟨c, nd⟩⟩
theorem mem_ins1 {l : List Str} {k j : Str} : j ∈ ins1 l k ↔ j = k ∨ j ∈ l := by
  unfold ins1
  split
  · rename_i c
    exact ⟨.inr, fun z => z.elim (fun e => e ▸ c) id⟩
  · exact List.mem_cons
theorem len_ins1 {l : List Str} {k : Str} : (ins1 l k).length ≤ l.length + 1 := by
  unfold ins1
  split
  · omega
  · exact Nat.le_refl _
theorem loopX {I : Addr} {fp wr : List Addr} {G : Array GenState → Array GenState → Prop} {n : Nat} {Pv : Nat → Value → Prop} {St : Nat → Shared → Prop} {R : Result → Shared → Prop}
    (W : WalksS P w A.in1 I fp wr G n Pv St) (S : Addr) (hSf : S ∉ fp) (xs : List Str) (hn : n = xs.length) (hb : xs.length + 1 < scanBound) (hval : ∀ i v, Pv i v → ∃ k t, xs[i]? = some k ∧ v = .str k t) :
    ∀ (k i : Nat) (s : Shared) (l : List Str), n - i = k → i ≤ n → St i s → l.length ≤ i → (∀ j, j ∈ l ↔ j ∈ xs.take i) → SetX P w s.heap S l →
      (∀ s' l', Moved (S :: wr) G s s' → (∀ j, j ∈ l' ↔ j ∈ xs) → SetX P w s'.heap S l' → R (.ok (.ret .none)) s') →
      codeAny (model P w) A (.builtin "set.update.loop" ⟨[.ref S, .ref I], []⟩) R s := by
  have hSw : S ∉ wr := fun h => hSf (W.sub _ h)
  have hsub : ∀ b ∈ wr, b ∈ S :: wr := fun b hb => List.mem_cons_of_mem _ hb
  intro k
  induction k with
  | zero =>
    intro i s l hk' hi hst hl hm hS hR
    have hin : i = n := by omega
    subst hin
    refine codeAny_builtin PyProof.Rows.F.entry_set_update_loop ?_
    rw [Around.under_plainId PyProof.Rows.F.plain_set_update_loop _]
    show wpAny _ A.in1 (pyNext (.ref I) >>= _) _ _ s
    refine wpAny_bind (W.done s _ _ hst fun s' hmv => ?_)
    show wpAny _ A.in1 (ret Value.none) _ _ s'
    have e : xs.take i = xs := List.take_of_length_le (by omega)
    rw [e] at hm
    exact wpAny_pure (hR s' l (hmv.mono hsub) hm (hS.at fun o e => hmv.heap S o hSw e))
  | succ k ih =>
    intro i s l hk' hi hst hl hm hS hR
    have hlt : i < n := by omega
    refine codeAny_builtin PyProof.Rows.F.entry_set_update_loop ?_
    rw [Around.under_plainId PyProof.Rows.F.plain_set_update_loop _]
    show wpAny _ A.in1 (pyNext (.ref I) >>= _) _ _ s
    refine wpAny_bind (W.item i s _ _ hlt hst fun v s' hP hst' hmv => ?_)
    obtain ⟨z, t, hz, rfl⟩ := hval i v hP
    have hS' : SetX P w s'.heap S l := hS.at fun o e => hmv.heap S o hSw e
    show wpAny _ A.in1 (holding [Value.str z t] (setAdd S (.str z t)) >>= _) _ _ s'
    refine wpAny_bind (wpAny_holding ?_)
    unfold setAdd
    refine wpAny_holding ?_
    refine wpAny_bind ((strKind P w).pyHash (k := z) (is_str _ _) ?_)
    refine add_one (s := { s' with toks := s'.toks + 1 }) hS' (by omega) fun h' b hsb hS2 => ?_
    have hm2 : ∀ j, j ∈ ins1 l z ↔ j ∈ xs.take (i + 1) := fun j => by
      rw [mem_ins1, List.take_add_one, hz, List.mem_append, hm j]
      simp
      exact Or.comm
    have hl2 : (ins1 l z).length ≤ i + 1 := Nat.le_trans len_ins1 (by omega)
    refine wpAny_pure ⟨plainId_quiet PyProof.Rows.F.plain_set_update_loop _, ih (i + 1) _ _ (by omega) hlt (W.frame _ s' _ _ hst' (Nat.le_succ _) fun b hb o e => ?_) hl2 hm2 hS2 fun s'' l2 hm'' hc'' hS'' => ?_⟩
    · rw [hsb.2 b (fun h : b = S => hSf (by rw [← h]; exact hb))]; exact e
    · refine hR s'' l2 (Moved.trans W.gtrans ((hmv.mono hsub).then_heap (Nat.le_succ _) fun b o hb e => ?_) hm'') hc'' hS''
      rw [hsb.2 b (fun h : b = S => hb (by rw [h]; exact List.mem_cons_self))]; exact e
theorem fresh_at {h : Heap} {a : Addr} (ho : h.get? a = some { cls := .type "set", dict := none, data := .set #[] 0 (.fresh 0 0 (!w.params.followText "set-order")) }) : SetX P w h a [] := by
  refine ⟨(#[], 0, .fresh 0 0 (!w.params.followText "set-order")), ho, ⟨TxOk.nil (by rfl), fun e he => by simp at he, List.Perm.refl _, List.Pairwise.nil, ?_⟩, List.nodup_nil⟩
  show _ ∨ (!w.params.followText "set-order") = true
  cases w.params.followText "set-order"
  · exact .inr rfl
  · exact .inl rfl
end
end Hst

namespace Hst
open PySem PySem.Spec PyProof.Rows L2 PySem.Froz
section
variable {P : Program} {w : World} {A : Around} {E : Value → Shared → Prop} {s : Shared}
/-- the new set, empty -/
abbrev set0 (w : World) : Obj := { cls := .type "set", dict := none, data := .set #[] 0 (.fresh 0 0 (!w.params.followText "set-order")) }
/-- what the making of the set of xs leaves: its members -/
abbrev Got (P : Program) (w : World) (s : Shared) (xs : List Str) (h' : Heap) (l : List Str) : Prop :=
  SetX P w h' s.heap.objs.size l ∧ (∀ j, j ∈ l ↔ j ∈ xs) ∧ ∀ b o, s.heap.get? b = some o → h'.get? b = some o
theorem init_strs {l : Addr} {items : Array Value} {xs : List Str} (hh : A.handled = none) (hl : s.heap.IsList l items) (hi : StrsAre items.toList xs) (hb : xs.length + 1 < scanBound) {Q : Value → Shared → Prop}
    (h : ∀ h' tk l', Got P w s xs h' l' → Q .none { s with heap := h', toks := tk }) :
    wpAny (model P w) A.in1.in1 (Builtin.«set.__init__» ⟨[.ref s.heap.objs.size, .ref l], []⟩) (fun fin s₂ => match fin with
      | .done f => (match (Except.ok f : Result) with | .ok (.ret v) => Q v s₂ | .ok _ => False | .error e => E e s₂)
      | .again c' => c'.quiet = true ∧ codeAny (model P w) A.in1 c' (fun r s' => match r with | .ok (.ret v) => Q v s' | .ok _ => False | .error e => E e s') s₂) E { s with heap := s.heap.push (set0 w) } := by
  have hS : (s.heap.push (set0 w)).get? s.heap.objs.size = some (set0 w) := Heap.get?_push_size _ rfl
  obtain ⟨ol, hol, hcl, nl, hdl⟩ := hl
  obtain ⟨ocls, odict, odata, oslots⟩ := ol
  simp only at hcl hdl
  subst hcl; subst hdl
  have hol' : (s.heap.push (set0 w)).get? l = some { cls := .type "list", dict := odict, data := .seq items nl, slots := oslots } := Heap.get?_push_of_some _ hol
  have hsls := PySem.F.sub_list_set
  have hslf := PySem.F.sub_list_frozenset
  have hne : (Value.type "list" == Value.type "dict") = false := by decide
  have hl1 : (s.heap.push (set0 w)).IsList l items := ⟨_, hol', rfl, nl, rfl⟩
  unfold Builtin.«set.__init__» noKeywords Builtin.Frozenset.updateFrom
  generalize hPI : pyIter = PI
  wp_walk
  subst hPI
  refine wpAny_pyIter_list hl1 ?_
  refine wpAny_bind (wpAny_runValue ?_)
  have hlS : l < s.heap.objs.size := Heap.lt_size hol
  have hsz : (s.heap.push (set0 w)).objs.size = s.heap.objs.size + 1 := Heap.size_push ..
  have hneI : l ≠ (s.heap.push (set0 w)).objs.size := by
    rw [hsz]
    exact Nat.ne_of_lt (Nat.lt_succ_of_lt hlS)
  have hSf : s.heap.objs.size ∉ [(s.heap.push (set0 w)).objs.size, l] := by
    rw [hsz]
    simp only [List.mem_cons, List.not_mem_nil, or_false, not_or]
    exact ⟨Nat.ne_of_lt (Nat.lt_succ_self _), Nat.ne_of_gt hlS⟩
  have hxz : items.size = xs.length := by rw [← StrsAre.len_eq hi, Array.length_toList]
  have hval : ∀ (i : Nat) (v : Value), items[i]? = some v → ∃ k t, xs[i]? = some k ∧ v = .str k t := fun i v hv => by
    have hi2 : i < xs.length := by rw [← hxz]; exact (Array.getElem?_eq_some_iff.mp hv).1
    obtain ⟨t, e⟩ := SS.strs_at hi i v (by rw [Array.getElem?_toList]; exact hv)
    refine ⟨xs[i], t, List.getElem?_eq_getElem hi2, ?_⟩
    rw [e, List.getD_eq_getElem?_getD, List.getElem?_eq_getElem hi2] <;> rfl
  refine loopX (P := P) (w := w) ((Walks.list (by simp [hh]) _ l hneI items).toS) s.heap.objs.size hSf xs hxz hb hval items.size 0 _ [] (by omega) (Nat.zero_le _)
    ⟨⟨_, Heap.get?_push_size _ rfl, rfl, rfl⟩, (hl1.push _)⟩ (Nat.le_refl _) (fun j => by simp) (fresh_at (Heap.get?_push_of_some _ hS)) (fun s' l' hm hm' hS' => ?_)
  obtain ⟨h', g2, d', tk', os'⟩ := s'
  have eg : g2 = s.gens := hm.gens
  have ed : d' = s.drawn := hm.drawn
  have eo : os' = s.os := hm.os
  subst eg; subst ed; subst eo
  show wpAny _ _ _ _ _ _
  refine wpAny_pure ?_
  show wpAny _ _ (ret Value.none) _ _ _
  refine wpAny_pure (h h' tk' l' ⟨hS', hm', fun b o e => ?_⟩)
  have hb0 : b < s.heap.objs.size := Heap.lt_size e
  refine hm.heap b o ?_ (Heap.get?_push_of_some _ (Heap.get?_push_of_some _ e))
  rw [hsz]
  simp only [List.mem_cons, List.not_mem_nil, or_false, not_or]
  exact ⟨Nat.ne_of_lt hb0, Nat.ne_of_lt (Nat.lt_succ_of_lt hb0)⟩
theorem call_set_strs {l : Addr} {items : Array Value} {xs : List Str} (hh : A.handled = none) (hl : s.heap.IsList l items) (hi : StrsAre items.toList xs) (hb : xs.length + 1 < scanBound) {Q : Value → Shared → Prop}
    (h : ∀ h' tk l', Got P w s xs h' l' → Q (.ref s.heap.objs.size) { s with heap := h', toks := tk }) : wpAny (model P w) A (call (.type "set") [.ref l]) Q E s := by
  obtain ⟨c, tl, hmro⟩ := PySem.F.called_set.mro
  have hmade := PySem.F.called_set.made
  have hsub := PySem.F.called_set.sub
  refine wpAny_call (codeAny_of_tree ?_)
  show wpAny _ _ (callAny (.type "set") _) _ _ _
  refine wpAny_pure ⟨Code.quiet_builtin _ (by decide +kernel), codeAny_builtin PySem.F.entry_type_call ?_⟩
  rw [Around.under_plain (weight_type_call_type "set" [.ref l] []) rfl]
  have h1 := PySem.F.called_set.notType
  have h2 := PySem.F.called_set.canCreate
  have hct := PySem.F.typeCall_set_1 (.ref l)
  repeat (any_goals (first | assumption | wp_step))
  refine codeAny_mono (code_set_led1 (.ref l) (E := E) (Q₁ := fun obj s₁ => obj = .ref s.heap.objs.size ∧ s₁ = { s with heap := s.heap.push (set0 w) }) ⟨rfl, rfl⟩) fun r s₁ hr => ?_
  cases r with
  | error e => exact hr
  | ok fl =>
    cases fl with
    | ret obj =>
      obtain ⟨rfl, rfl⟩ := hr
      have hS : (s.heap.push (set0 w)).get? s.heap.objs.size = some (set0 w) := Heap.get?_push_size _ rfl
      have hT : Shared.TypeIs { s with heap := s.heap.push (set0 w) } (.ref s.heap.objs.size) "set" := ⟨_, hS, rfl⟩
      have hli := PySem.F.called_set.init.lookup
      have hbi := PySem.F.called_set.init.bind (.ref s.heap.objs.size)
      repeat (any_goals (first | assumption | wp_step))
      refine codeAny_mono (codeAny_call_builtin (R := wants (fun r s₂ => r = .none ∧ ∃ h' tk l', s₂ = { s with heap := h', toks := tk } ∧ Got P w s xs h' l') E) PySem.F.called_set.init.plain PySem.F.entry_set_init (check_set_init_1 hT ?_)) fun r₂ s₂ hr₂ => ?_
      · exact init_strs (E := E) (Q := fun r s₂ => r = .none ∧ ∃ h' tk l', s₂ = { s with heap := h', toks := tk } ∧ Got P w s xs h' l') hh hl hi hb fun h' tk l' g => ⟨rfl, h', tk, l', rfl, g⟩
      · cases r₂ with
        | error e => exact hr₂
        | ok fl₂ =>
          cases fl₂ with
          | ret r =>
            obtain ⟨rfl, h', tk, l', rfl, g⟩ := hr₂
            repeat (any_goals (first | assumption | wp_step))
            exact h _ _ _ g
          | _ => exact hr₂.elim
    | _ => exact hr.elim
/-! ### sorted -/
theorem strs_of : ∀ (l : List Value), (∀ v ∈ l, ∃ k tk, v = Value.str k tk) → StrsAre l (l.map strOf)
  | [], _ => .nil
  | v :: l, h => by
    obtain ⟨k, tk, rfl⟩ := h v List.mem_cons_self
    exact .cons k tk (strs_of l fun u hu => h u (List.mem_cons_of_mem _ hu))
theorem sorted_setX {a : Addr} {l : List Str} {Q : Value → Shared → Prop} (R : SetX P w s.heap a l) (hh : A.handled = none) (hb : l.length < 1000)
    (hQ : ∀ s' p (out : Array Value) (c : Nat) (ys : List Str), (∀ b o, s.heap.get? b = some o → s'.heap.get? b = some o) → s'.gens = s.gens → s'.os = s.os → s.heap.objs.size ≤ p →
      s'.heap.get? p = some (seqObj "list" out c) → StrsAre out.toList ys → ys.Perm l → sortedS ys = true → Q (.ref p) s') :
    wpAny (model P w) A (call (.builtin "sorted") [.ref a]) Q E s := by
  obtain ⟨D, ho, F, nd⟩ := R
  obtain ⟨es, ep, t⟩ := D
  have hsz : es.size = l.length := F.tx.sz
  have hsb : scanBound ≥ 2000 := by decide
  have hes : es.size < scanBound := by omega
  refine Calls.call_function_entry kind_sorted plain_sorted entry_sorted (args_sorted1 _) ?_
  unfold Builtin.«sorted»
  refine wpAny_bind (m := checkCount "sorted" 1 1 _) (wpAny_pure ?_)
  refine wpAny_bind (collect_set (A := A.in1) hh ⟨_, ho, rfl, rfl⟩ F.tx.fit hes F.ris F.led fun s1 vs k1 hz g1 o1 pm => ?_)
  have hvl : vs.length = l.length := by rw [pm.length_eq, List.length_map, Array.length_toList]; exact hsz
  have hI : StrsAre vs (vs.map strOf) := strs_of vs fun v hv => by
    obtain ⟨e, he, q⟩ := List.mem_map.mp (pm.mem_iff.mp hv)
    obtain ⟨k, tk, h1⟩ := F.vls e he
    exact ⟨k, tk, by rw [← q]; exact h1⟩
  have pk : (vs.map strOf).Perm l := by
    have q := pm.map strOf
    rw [List.map_map] at q
    exact q.trans F.pm
  have hL : vs.length ≤ sizeLine := by
    rw [hvl, sizeLine_eq]
    omega
  refine wpAny_bind (wpAny_newList ?_ hL)
  have hoL : (s1.heap.push (seqObj "list" vs.toArray 0)).get? s1.heap.objs.size = some (seqObj "list" vs.toArray 0) := Heap.get?_push_size _ rfl
  refine wpAny_bind (wpAny_holding (wpAny_call_entry slot_list_sort ⟨_, hoL, rfl⟩ entry_list_sort (list_sort_treeKAny strKind_oneLt hoL hI.keysOf (fun v₁ v₂ rest e => keyKind_strs (by rw [← e]; exact hI)) hL fun st' hp hs => ⟨_, rfl, ?_⟩) (args_list_sort _)))
  obtain ⟨ys, a1, a2, a3⟩ := sorted_out_str hI hp hs
  obtain ⟨c, hc⟩ := sortedHeap_at (vs := vs) (out := (arrOf st').map (·.2)) hoL
  refine wpAny_pure ⟨_, rfl, hQ _ s1.heap.objs.size _ c ys (fun b u e => ?_) g1 o1 hz hc a1 (a2.trans pk) a3⟩
  have q := k1 b u e
  have hlt := Heap.lt_size q
  show (sortedHeap (s1.heap.push (seqObj "list" vs.toArray 0)) s1.heap.objs.size vs _).get? b = some u
  rw [sortedHeap_old (Nat.ne_of_lt hlt) (by rw [PyProof.Rows.size_push']; exact Nat.lt_succ_of_lt hlt)]
  exact Heap.get?_push_of_some _ q
end
end Hst
namespace Hk
open PySem PySem.Spec PyProof.Rows L2 Hst
/-- the set of texts at a -/
def SetXO (P : Program) (w : World) (a : Addr) (l : List Str) : HO := .ext fun h => SetX P w h a l
theorem setXO_new {P : Program} {w : World} {H : Hp} {h : Heap} {a : Addr} {l : List Str} (R : SetX P w h a l) : ObjOk P w H h a (SetXO P w a l) := by
  obtain ⟨D, ho, r⟩ := id R
  refine ⟨R, ⟨_, ho⟩, fun h1 h2 p k => ?_⟩
  obtain ⟨D', ho', r'⟩ := id (show SetX P w h1 a l from p)
  exact ⟨D', k _ ho', r'⟩
/-- set(xs) of a list of texts; sorted(set) -/
def rSetOfS (K : Fr) (P : Program) (w : World) : List V → Hp → VK → Prop := fun xs H Q => ∃ (l : Addr) (ys : List Str), xs = [V.ref l] ∧ SqL K H l (ys.map V.str) ∧ ys.length < 1000 ∧ ∀ a zs, H a = none → zs.Nodup → (∀ j, j ∈ zs ↔ j ∈ ys) → Q (.ref a) (upd H a (SetXO P w a zs))
def rSortedX (P : Program) (w : World) : List V → Hp → VK → Prop := fun xs H Q => ∃ (a : Addr) (l : List Str), xs = [V.ref a] ∧ H a = some (SetXO P w a l) ∧ l.length < 1000 ∧ ∀ p ys, H p = none → ys.Perm l → sortedS ys = true → Q (.ref p) (upd H p (.lst (ys.map V.str)))
section
variable {X : Cx}
theorem cr_setOfS (hc : X.calm = true) : CallR X (.type "set") (rSetOfS X.K X.prog X.w) := by
  intro pins s σ H xs us Q I r h
  obtain ⟨l, ys, rfl, hl, hf, q⟩ := h
  rw [Vals.ref1 r]
  obtain ⟨its, rv, pl, hz⟩ := I.list hl
  have hn : H s.heap.objs.size = none := I.hok.fresh (Nat.le_refl _)
  have hsb : scanBound ≥ 2000 := by decide
  refine call_set_strs (P := X.prog) (w := X.w) (xs := ys) (I.ok.hd hc) pl.isList (strsAre_of rv) (by omega) fun h' tk l' g => ?_
  have hnd : l'.Nodup := by
    obtain ⟨D, _, _, nd⟩ := g.1
    exact nd
  exact ⟨.ref s.heap.objs.size, upd H s.heap.objs.size (SetXO X.prog X.w s.heap.objs.size l'), I.laid (t' := tk) g.2.2 (Nat.le_refl _) (setXO_new g.1), rfl, q _ l' hn hnd g.2.1⟩
theorem cr_sortedX (hc : X.calm = true) : CallR X (.builtin "sorted") (rSortedX X.prog X.w) := by
  intro pins s σ H vs us Q I r h
  obtain ⟨a, l, rfl, ha, hl, q⟩ := h
  have R : SetX X.prog X.w s.heap a l := (I.hok a _ ha).1
  rw [Vals.ref1 r]
  have hsb : scanBound ≥ 2000 := by decide
  refine sorted_setX R (I.ok.hd hc) hl fun s' p out c ys k g o hp hg hout pm so => ?_
  have hn : H p = none := I.hok.fresh hp
  have hv : Vals (ys.map V.str) out.toList := by
    clear hg pm so q
    generalize out.toList = os at hout
    induction hout with
    | nil => exact .nil
    | cons n t hr ih => exact .cons ⟨t, rfl⟩ ih
  have hlen : (ys.map V.str).length ≤ sizeLine := by
    rw [List.length_map, pm.length_eq, sizeLine_eq]
    omega
  have J : Inv X pins σ (upd H p (.lst (ys.map V.str))) { s with heap := s'.heap, gens := s'.gens, drawn := s'.drawn, toks := s'.toks } :=
    I.call (ch := []) (Un.laid k hp hn) (I.hok.laid k hp ⟨hlen, out.toList, c, hv, hg⟩) (by rw [g]; exact I.bare) (fun _ z => nomatch z)
  have e : s' = { s with heap := s'.heap, gens := s'.gens, drawn := s'.drawn, toks := s'.toks } := by
    cases s'
    cases s
    cases o
    rfl
  rw [e]
  exact ⟨.ref p, _, J, rfl, q p ys hn pm so⟩
end
end Hk

/-! max(xs, default=d) of a list of ints, empty or not. -/
namespace Hmx
open PySem PySem.Spec PyProof.Rows
section
variable {prog : Program} {w : World} {A : Around} {R : Result → Shared → Prop} {I : Addr} {fp wr : List Addr} {n : Nat} {P : Nat → Value → Prop} {St : Nat → Heap → Prop}
/-- the greatest of the first j -/
def Bst (P : Nat → Value → Prop) (val : Nat → Int) (j : Nat) (v : Value) : Prop := ∃ i, i < j ∧ P i v ∧ ∀ m, m < j → val m ≤ val i
def OldOk (P : Nat → Value → Prop) (val : Nat → Int) (j : Nat) : Option Value → Prop
  | none => j = 0
  | some v => Bst P val j v
def oldA : Option Value → Array Value
  | none => #[]
  | some v => #[v, v]
abbrev bestObj (old : Option Value) (c : Nat) : Obj := { cls := .type "list", dict := none, data := .seq (oldA old) c, slots := #[] }
theorem loopD (W : Walks prog w A.in1 I fp wr n P St) (val : Nat → Int) (hval : ∀ i v, P i v → ∃ t, v = .int (val i) t) (S : Addr) (hSf : S ∉ fp) (d : Value) :
    ∀ (k j : Nat) (s : Shared) (old : Option Value) (c : Nat), n - j = k → j ≤ n → St j s.heap → OldOk P val j old → s.heap.get? S = some (bestObj old c) →
    (∀ v h' tk, ((n = 0 ∧ v = d) ∨ Bst P val n v) → (∀ b o, b ∉ wr → b ≠ S → s.heap.get? b = some o → h'.get? b = some o) → R (.ok (.ret v)) { s with heap := h', toks := tk }) →
    codeAny (model prog w) A (.builtin "max.loop" ⟨[.ref I, .none, .ref S], [("default", d)]⟩) R s := by
  have hSw : S ∉ wr := fun h => hSf (W.sub _ h)
  have hname : (toString "max" ++ toString ".loop" : String) = "max.loop" := by decide
  intro k
  induction k with
  | zero =>
    intro j s old c hk hj hst hold hS hR
    have hin : j = n := by omega
    refine codeAny_builtin PySem.F.entry_max_loop ?_
    rw [Around.under_plainId PySem.F.plain_max_loop _]
    show wpAny _ A.in1 (seqItems? (.ref S) >>= _) _ _ s
    have h2 : (oldA old).size ≤ sizeLine := by
      cases old with
      | none => exact (show (0 : Nat) ≤ sizeLine by decide)
      | some vb => exact (show (2 : Nat) ≤ sizeLine by decide)
    refine wpAny_bind (wpAny_seqItems hS rfl ?_)
    show wpAny _ A.in1 (tryCatch (pyNext (.ref I)) _ >>= _) _ _ s
    refine wpAny_bind (wpAny_tryCatch (W.done s _ _ (hin ▸ hst) fun h' tk hk' => ?_))
    cases old with
    | none =>
      refine wpAny_bind (wpAny_rule ?_)
      exact wpAny_pure (hR d h' tk (.inl ⟨by have : j = 0 := hold; omega, rfl⟩) fun b o hbw _ e => hk' b o hbw e)
    | some vb =>
      have hS' := hk' S _ hSw hS
      show wpAny _ A.in1 (updateSeq S (fun _ => #[]) >>= _) _ _ _
      refine wpAny_bind ?_
      refine wpAny_updateSeq (hz := h2) hS' rfl (wpAny_bind (wpAny_letGo (wpAny_pure ?_)))
      refine hR vb _ tk (.inr (hin ▸ hold)) fun b o hbw hbS e => (Heap.get?_update_other _ _ (Ne.symm hbS)).trans (hk' b o hbw e)
  | succ k ih =>
    intro j s old c hk hj hst hold hS hR
    have hlt : j < n := by omega
    refine codeAny_builtin PySem.F.entry_max_loop ?_
    rw [Around.under_plainId PySem.F.plain_max_loop _]
    show wpAny _ A.in1 (seqItems? (.ref S) >>= _) _ _ s
    have h2 : (oldA old).size ≤ sizeLine := by
      cases old with
      | none => exact (show (0 : Nat) ≤ sizeLine by decide)
      | some vb => exact (show (2 : Nat) ≤ sizeLine by decide)
    refine wpAny_bind (wpAny_seqItems hS rfl ?_)
    show wpAny _ A.in1 (tryCatch (pyNext (.ref I)) _ >>= _) _ _ s
    refine wpAny_bind (wpAny_tryCatch (W.item j s _ _ hlt hst fun v h' tk hP hst' hk' => ?_))
    have hS' := hk' S _ hSw hS
    cases old with
    | none =>
      have j0 : j = 0 := hold
      subst j0
      show wpAny _ A.in1 (updateSeq S (fun _ => #[v, v]) >>= _) _ _ _
      refine wpAny_bind ?_
      refine wpAny_updateSeq hS' rfl ?_
      rw [hname]
      refine wpAny_pure ⟨plainId_quiet PySem.F.plain_max_loop _, ih 1 _ (some v) _ (by omega) (by omega) (W.frame _ _ _ hst' fun b hbf o e => ?_) ⟨0, by omega, hP, fun m hm => ?_⟩ (Heap.get?_update_self _ hS' rfl) fun v' h'' tk'' hP' hk'' => ?_⟩
      · exact (Heap.get?_update_other _ _ (fun h : S = b => hSf (by rw [h]; exact hbf))).trans e
      · have : m = 0 := by omega
        subst this
        exact Int.le_refl _
      · exact hR v' h'' tk'' hP' fun b o hbw hbS e => hk'' b o hbw hbS ((Heap.get?_update_other _ _ (Ne.symm hbS)).trans (hk' b o hbw e))
    | some vb =>
      obtain ⟨i, hi, hPi, hmax⟩ := (show Bst P val j vb from hold)
      show wpAny _ A.in1 (tryCatch (holding [v, v] (richCompare .Gt v vb >>= _)) _ >>= _) _ _ _
      refine wpAny_bind (wpAny_tryCatch (wpAny_holding (wpAny_bind (CmpOf.ints_gt val hval j i v vb _ _ _ hP hPi ?_))))
      refine wpAny_bind (wpAny_holding (wpAny_truthy_bool ?_))
      refine wpAny_bind (wpAny_letGo (wpAny_pure ?_))
      by_cases hb : val j > val i
      · simp only [decide_eq_true hb, if_true]
        refine wpAny_bind ?_
        refine wpAny_updateSeq (hz := h2) hS' rfl (wpAny_bind (wpAny_letGo ?_))
        rw [hname]
        refine wpAny_pure ⟨plainId_quiet PySem.F.plain_max_loop _, ih (j + 1) _ (some v) _ (by omega) hlt (W.frame _ _ _ hst' fun b hbf o e => ?_) ⟨j, by omega, hP, fun m hm => ?_⟩ (Heap.get?_update_self _ hS' rfl) fun v' h'' tk'' hP' hk'' => ?_⟩
        · exact (Heap.get?_update_other _ _ (fun h : S = b => hSf (by rw [h]; exact hbf))).trans e
        · rcases Nat.lt_or_ge m j with q | q
          · have := hmax m q
            omega
          · have : m = j := by omega
            subst this
            exact Int.le_refl _
        · exact hR v' h'' tk'' hP' fun b o hbw hbS e => hk'' b o hbw hbS ((Heap.get?_update_other _ _ (Ne.symm hbS)).trans (hk' b o hbw e))
      · simp only [decide_eq_false hb, Bool.false_eq_true, if_false]
        refine wpAny_bind (wpAny_letGo ?_)
        rw [hname]
        refine wpAny_pure ⟨plainId_quiet PySem.F.plain_max_loop _, ih (j + 1) _ (some vb) c (by omega) hlt hst' ⟨i, by omega, hPi, fun m hm => ?_⟩ hS' fun v' h'' tk'' hP' hk'' => ?_⟩
        · rcases Nat.lt_or_ge m j with q | q
          · exact hmax m q
          · have : m = j := by omega
            subst this
            omega
        · exact hR v' h'' tk'' hP' fun b o hbw hbS e => hk'' b o hbw hbS (hk' b o hbw e)
end
section
variable {prog : Program} {w : World} {A : Around} {E : Value → Shared → Prop} {s : Shared} {l : Addr} {xs : Array (Int × Tok)}
theorem args_maxd (a d : Value) : argsOk "max" ⟨[a], [("default", d)]⟩ := by unfold argsOk; kernel_rfl
theorem call_maxD {d : Value} {Q : Value → Shared → Prop} (hh : A.handled = none) (hl : s.heap.IsList l (intItems xs))
    (h : ∀ v h' tk, ((xs.size = 0 ∧ v = d) ∨ ∃ i, i < xs.size ∧ (intItems xs)[i]? = some v ∧ ∀ m, m < xs.size → numAt xs m ≤ numAt xs i) → (∀ b o, s.heap.get? b = some o → h'.get? b = some o) → Q v { s with heap := h', toks := tk }) :
    wpAny (model prog w) A (call (.builtin "max") [.ref l] [("default", d)]) Q E s := by
  have hname : (toString "max" ++ toString ".loop" : String) = "max.loop" := by decide
  have fin : wpAny (model prog w) A.in1 (Builtin.«max» ⟨[.ref l], [("default", d)]⟩) (fun fin s' => match fin with
      | .done f => (match (Except.ok f : Result) with | .ok (.ret v) => Q v s' | .ok _ => False | .error e => E e s')
      | .again c' => c'.quiet = true ∧ codeAny (model prog w) A c' (fun r s' => match r with | .ok (.ret v) => Q v s' | .ok _ => False | .error e => E e s') s') E s := by
    show wpAny _ A.in1 (Builtin.Builtins.bindParams "max" ["key", "default"] 0 ⟨[], [("default", d)]⟩ >>= _) _ _ s
    refine wpAny_bind (wpAny_of_eq (show Builtin.Builtins.bindParams "max" ["key", "default"] 0 ⟨[], [("default", d)]⟩ = pure [none, some d] from rfl) ?_)
    refine wpAny_bind (wpAny_pure ?_)
    refine wpAny_bind (iter_intList hl fun s₂ e st hfp hlI => ?_)
    subst e
    refine wpAny_bind (wpAny_newObj_type ?_)
    rw [hname]
    have W := Walks.list (prog := prog) (w := w) (A := A.in1) hh s.heap.objs.size l hlI (intItems xs)
    have hSf : (s.heap.push { cls := .type "list_iterator", data := .fields #[.ref l, .int 0 0] }).objs.size ∉ [s.heap.objs.size, l] := fun hm => Nat.lt_irrefl _ (hfp _ hm)
    have hsz : (intItems xs).size = xs.size := by simp [intItems]
    refine wpAny_pure ⟨plainId_quiet PySem.F.plain_max_loop _, loopD W (numAt xs) (fun _ _ => intItems_at) _ hSf d _ 0 _ none _ rfl (Nat.zero_le _) (W.frame _ _ _ st fun b _ o e => Heap.get?_push_of_some _ e) rfl (Heap.get?_push_size _ rfl) fun v h' tk hP hk => ?_⟩
    refine h v h' tk ?_ (old_kept fun b o hbw e => hk b o hbw (Nat.ne_of_lt (Heap.lt_size e)) (Heap.get?_push_of_some _ e))
    rw [hsz] at hP
    rcases hP with hP | ⟨i, hi, hPi, hm⟩
    · exact .inl hP
    · exact .inr ⟨i, hi, hPi, hm⟩
  refine wpAny_call (codeAny_call_builtin PySem.F.plain_max PySem.F.entry_max ?_)
  simp only [checkBuiltinCall, PySem.F.kind_max]
  cases hsig : Manifest.signature? "max" with
  | none => exact wpAny_pure fin
  | some sig =>
    have ha' : Bind.checkArgs "max" sig ⟨[.ref l], [("default", d)]⟩ = pure () := by simpa only [argsOk, hsig] using args_maxd (.ref l) d
    simp only [ha']
    exact wpAny_pure fin
end
end Hmx
namespace Hk
open PySem PySem.Spec PyProof.Rows L2
/-- max(xs, default=d) -/
def rMaxD (K : Fr) : List V → List V → Hp → VK → Prop := fun vs zs H Q => ∃ (a : Addr) (ns : List Int) (d : Int), vs = [.ref a] ∧ zs = [.int d] ∧ SqL K H a (ns.map V.int) ∧ ∀ m, ((ns = [] ∧ m = d) ∨ (m ∈ ns ∧ ∀ y, y ∈ ns → y ≤ m)) → Q (.int m) H
theorem cr_maxD {X : Cx} (hc : X.calm = true) : CallRK X (.builtin "max") ["default"] (rMaxD X.K) := by
  intro pins s σ H xs zs us ws Q I r rz h
  obtain ⟨a, ns, d, rfl, rfl, hs, q0⟩ := h
  obtain ⟨its, rv, hl, _⟩ := I.list hs
  rw [Vals.ref1 r]
  obtain ⟨w0, rfl, rw0⟩ := rz.one
  obtain ⟨t, rfl⟩ := rw0
  have hli := hl.isList
  obtain ⟨ys, e⟩ := rv.ints.allInts.items
  have hn : numsOf (intItems ys).toList = ns := by rw [← e]; exact rv.ints.numsOf
  rw [nums_intItems] at hn
  subst hn
  rw [e] at hli
  refine Hmx.call_maxD (I.ok.hd hc) hli fun v h' tk hv hk => ?_
  rcases hv with ⟨h0, rfl⟩ | ⟨i, hi, hvi, hm⟩
  · refine ⟨.int d, H, I.kept hk, ⟨_, rfl⟩, q0 d (.inl ⟨?_, rfl⟩)⟩
    have : ys.toList = [] := by
      cases q : ys.toList with
      | nil => rfl
      | cons a r =>
        have := congrArg List.length q
        rw [Array.length_toList] at this
        simp at this
        omega
    rw [this]
    rfl
  · obtain ⟨t2, rfl⟩ := intItems_at hvi
    refine ⟨.int _, H, I.kept hk, ⟨_, rfl⟩, q0 _ (.inr ⟨?_, fun y hy => ?_⟩)⟩
    · rw [numAt_eq]
      exact PySem.getD_mem (by rw [List.length_map, Array.length_toList]; omega)
    · obtain ⟨j, hj, rfl⟩ := mem_getD hy
      rw [List.length_map, Array.length_toList] at hj
      rw [← numAt_eq]
      exact hm j hj
end Hk

namespace K11
open PySem PySem.Spec PyProof.Rows L2 Hk NumM NumT SX
/-- the class of an expression, its word -/
def clsOf (w : Nat) : Str := if w = 0 then "Every" else if w = 1 then "Spread" else "Late"
def Tree.cls : Tree → Str
  | .name _ => "Name"
  | .sum _ => "Sum"
  | .times _ _ _ => "Times"
  | .pair w _ _ => clsOf w
def Tree.word : Tree → Str
  | .name _ => "name"
  | .sum _ => "sum"
  | .times _ _ _ => "times"
  | .pair w _ _ => wordOf w
abbrev FL : List Str := ["_text", "_inside", "_amount", "_parts", "_depth"]
abbrev PL : List Str := ["names", "parts", "depth"]
abbrev ML : List Str := ["__str__", "__repr__", "__eq__"]
abbrev CT (K : Fr) (t : Tree) : Addr := He.ga K t.cls
/-- the fields -/
def sgF (t : Tree) (tp : Addr) (am : V) : List (Str × V) := [("_text", .str t.tell), ("_inside", .ref tp), ("_amount", am), ("_parts", .int t.parts), ("_depth", .int t.deep)]
/-- at x: the object of the expression t -/
inductive SigAt (K : Fr) (H : Hp) : Nat → Tree → Addr → Prop
  | mk {d : Nat} {t : Tree} {x dx tp : Addr} {am : V} {xs : List Addr} (h : H x = some (.ins (CT K t) dx (sgF t tp am))) (ht : H tp = some (.tup (xs.map V.ref))) (hl : xs.length = t.kids.length) (n5 : t.kids.length ≤ 5)
      (ne : t.kids = [] → ∃ l, t = .name l) (tl : t.tell.length ≤ 1000000) (hk : ∀ (i : Nat) (y : Addr) (c : Tree), xs[i]? = some y → t.kids[i]? = some c → SigAt K H d c y) : SigAt K H (d + 1) t x
theorem SigAt.kp {K : Fr} {H H' : Hp} {d : Nat} {t : Tree} {x : Addr} (I : SigAt K H d t x) (k : ∀ b o, H b = some o → (∀ xs, o ≠ .lst xs) → (∀ C dx, o ≠ .ins C dx []) → H' b = some o) : SigAt K H' d t x := by
  induction I with
  | mk h ht hl n5 ne tl hk ih => exact .mk (k _ _ h (fun xs z => nomatch z) (fun C dx z => by cases z)) (k _ _ ht (fun xs z => nomatch z) (fun C dx z => nomatch z)) hl n5 ne tl ih
theorem SigAt.same {K : Fr} {H H' : Hp} {d : Nat} {t : Tree} {x : Addr} (I : SigAt K H d t x) (s : Same H H') : SigAt K H' d t x := I.kp fun b o h _ _ => s b o h
theorem SigAt.old {K : Fr} {H H' : Hp} {a : Addr} {n d : Nat} {t : Tree} {x : Addr} (I : SigAt K H d t x) (s : SrcAt a n H) (o : Old a H H') : SigAt K H' d t x := I.kp fun b u h nl _ => o _ _ h (fun z => by
  subst z
  obtain ⟨d, e, c, h1, _⟩ := s
  rw [h] at h1
  exact nl _ (Option.some.inj h1))
theorem SigAt.put {K : Fr} {H : Hp} {l : Addr} {xs : List V} {o : HO} {d : Nat} {t : Tree} {x : Addr} (I : SigAt K H d t x) (hl : H l = some (.lst xs)) : SigAt K (upd H l o) d t x := I.kp fun b u h nl _ => by
  rw [upd_ne (fun z => by
    subst z
    rw [h] at hl
    exact nl _ (Option.some.inj hl))]
  exact h
theorem SigAt.up {K : Fr} {H : Hp} {d : Nat} {t : Tree} {x : Addr} (I : SigAt K H d t x) : SigAt K H (d + 1) t x := by
  induction I with
  | mk h ht hl n5 ne tl hk ih => exact .mk h ht hl n5 ne tl ih
section
variable {P : Program} {w : World} {K : Fr} {mg : Str → Option Value} {base : Heap}
theorem sub_of (T : Tx K mg) (t : Tree) : tSub t.cls "Signal" t.word FL PL ML K = true := by
  cases t with
  | name l => exact f_sub_Name T.c
  | sum ts => exact f_sub_Sum T.c
  | times t b x => exact f_sub_Times T.c
  | pair w x n =>
    show tSub (clsOf w) "Signal" (wordOf w) FL PL ML K = true
    unfold clsOf wordOf
    by_cases h0 : w = 0
    · rw [if_pos h0, if_pos h0]
      exact f_sub_Every T.c
    · rw [if_neg h0, if_neg h0]
      by_cases h1 : w = 1
      · rw [if_pos h1, if_pos h1]
        exact f_sub_Spread T.c
      · rw [if_neg h1, if_neg h1]
        exact f_sub_Late T.c
theorem cl_of (T : Tx K mg) (t : Tree) : Cls K (CT K t) := sub_cls (sub_of T t)
theorem na_of (T : Tx K mg) (t : Tree) {f : Str} (h : f ∈ FL) : NoAttr K (CT K t) f := sub_noat (sub_of T t) h
/-- a getter of a signal -/
def spSg (K : Fr) (f : Tree → V) : Sp := fun vs H Q _ => ∃ (d : Nat) (t : Tree) (x : Addr), vs = [.ref x] ∧ SigAt K H d t x ∧ Q (f t) H
theorem f_sgparts (T : Tx K mg) : ∃ fd, DAt K d_Signal_parts fd ∧ FnOk P w K mg base CX0 1 (d_Signal_parts.ad K) fd ["self"] (spSg K fun t => .int t.parts) := by
  obtain ⟨fd, D⟩ := a_Signal_parts T.c
  refine ⟨fd, D, ok_of (N := ["self"]) D sc_Signal_parts (fun vs H Q E h => ?_) (fun cdv A outer s H vs Q E hr h => ?_)⟩
  · obtain ⟨d, t, x, rfl, _⟩ := h
    rfl
  · obtain ⟨d, t, x, rfl, I, k⟩ := h
    cases I with
    | mk h ht hl n5 ne tl hk => exact ⟨_, pss_one (ps_ret (pe_fld (pv 0) rfl)), _, rfl, x, _, _, _, _, rfl, h, cl_of T t, na_of T t (by simp), rfl, k⟩
theorem f_sgdepth (T : Tx K mg) : ∃ fd, DAt K d_Signal_depth fd ∧ FnOk P w K mg base CX0 1 (d_Signal_depth.ad K) fd ["self"] (spSg K fun t => .int t.deep) := by
  obtain ⟨fd, D⟩ := a_Signal_depth T.c
  refine ⟨fd, D, ok_of (N := ["self"]) D sc_Signal_depth (fun vs H Q E h => ?_) (fun cdv A outer s H vs Q E hr h => ?_)⟩
  · obtain ⟨d, t, x, rfl, _⟩ := h
    rfl
  · obtain ⟨d, t, x, rfl, I, k⟩ := h
    cases I with
    | mk h ht hl n5 ne tl hk => exact ⟨_, pss_one (ps_ret (pe_fld (pv 0) rfl)), _, rfl, x, _, _, _, _, rfl, h, cl_of T t, na_of T t (by simp), rfl, k⟩
theorem f_sgstr (T : Tx K mg) : ∃ fd, DAt K d_Signal_str fd ∧ FnOk P w K mg base CX0 1 (d_Signal_str.ad K) fd ["self"] (spSg K fun t => .str t.tell) := by
  obtain ⟨fd, D⟩ := a_Signal_str T.c
  refine ⟨fd, D, ok_of (N := ["self"]) D sc_Signal_str (fun vs H Q E h => ?_) (fun cdv A outer s H vs Q E hr h => ?_)⟩
  · obtain ⟨d, t, x, rfl, _⟩ := h
    rfl
  · obtain ⟨d, t, x, rfl, I, k⟩ := h
    cases I with
    | mk h ht hl n5 ne tl hk =>
      refine ⟨_, pss_one (ps_ret (pe_callTy SkE.call_str_str (by rfl) (n_str T) bo_str (pa_cons (pe_fld (pv 0) rfl) pa_nil))), ?_⟩
      exact ⟨_, rfl, x, _, _, _, _, rfl, h, cl_of T t, na_of T t (by simp), rfl, _, rfl, k⟩
end
end K11

namespace K11
open PySem PySem.Spec PyProof.Rows L2 Hk NumM NumT SX
def Tree.shown (t : Tree) : Str := ("Signal(" : Str) ++ t.tell ++ (")" : Str)
theorem empty_app (x : Str) : Str.empty ++ x = x := by
  rw [← S_tl x]
  show S [] ++ S _ = _
  rw [S_cat]
  rfl
theorem big6 {n : Nat} (h : n ≤ 2000000) : n ≤ sizeLine := by
  rw [sizeLine_eq]
  omega
section
variable {P : Program} {w : World} {K : Fr} {mg : Str → Option Value} {base : Heap}
theorem f_sgrepr (T : Tx K mg) : ∃ fd, DAt K d_Signal_repr fd ∧ FnOk P w K mg base CX0 1 (d_Signal_repr.ad K) fd ["self"] (spSg K fun t => .str t.shown) := by
  obtain ⟨fd, D⟩ := a_Signal_repr T.c
  refine ⟨fd, D, ok_of (N := ["self"]) D sc_Signal_repr (fun vs H Q E h => ?_) (fun cdv A outer s H vs Q E hr h => ?_)⟩
  · obtain ⟨d, t, x, rfl, _⟩ := h
    rfl
  · obtain ⟨d, t, x, rfl, I, k⟩ := h
    cases I with
    | mk h ht hl n5 ne tl hk =>
      refine ⟨_, pss_one (ps_ret (pe_joined (.cons pe_str (.cons (pe_fmt (pe_fld (pv 0) rfl)) (.cons pe_str .nil))))), ?_⟩
      have l1 : ("Signal(" : Str).length = 7 := rfl
      have l2 : (")" : Str).length = 1 := rfl
      refine ⟨_, rfl, ?_, _, rfl, x, _, _, _, _, rfl, h, cl_of T t, na_of T t (by simp), rfl, .inl ⟨_, rfl, big6 (by omega), _, rfl, ?_, _, rfl, ?_, ?_⟩⟩
      · rw [empty_app]
        exact big6 (by omega)
      · rw [empty_app, str_len]
        exact big6 (by omega)
      · rw [empty_app, str_len, str_len]
        exact big6 (by omega)
      · rw [empty_app]
        exact k
theorem kit_sig (T : Tx K mg) (t : Tree) : PySem.W.kitOne K (.ref (CT K t)) (.ref (He.ga K "Signal")) = some true := by
  cases t with
  | name l => exact kitsO_ok (f_kits_Name T.c) (by simp)
  | sum ts => exact kitsO_ok (f_kits_Sum T.c) (by simp)
  | times t b x => exact kitsO_ok (f_kits_Times T.c) (by simp)
  | pair w x n =>
    show PySem.W.kitOne K (.ref (He.ga K (clsOf w))) (.ref (He.ga K "Signal")) = some true
    unfold clsOf
    split
    · exact kitsO_ok (f_kits_Every T.c) (by simp)
    · split
      · exact kitsO_ok (f_kits_Spread T.c) (by simp)
      · exact kitsO_ok (f_kits_Late T.c) (by simp)
theorem ty_sig (T : Tx K mg) {H : Hp} {d : Nat} {t : Tree} {x : Addr} (I : SigAt K H d t x) : TyOf K H (.ref x) (.ref (CT K t)) := by
  cases I with
  | mk h ht hl n5 ne tl hk => exact ins_ok (sub_ins (sub_of T t)) h (cl_of T t)
/-- == with a signal, with another thing -/
def spSgEq (K : Fr) : Sp := fun vs H Q _ => ∃ (d : Nat) (t : Tree) (x : Addr) (y : V), vs = [.ref x, y] ∧ SigAt K H d t x ∧
  ((∃ (e : Nat) (u : Tree) (z : Addr), y = .ref z ∧ SigAt K H e u z ∧ Q (.bl (decide (t.tell = u.tell))) H) ∨ (∃ ty, TyX K H y ty ∧ PySem.W.kitOne K ty (.ref (He.ga K "Signal")) = some false ∧ Q (.bl false) H))
theorem f_sgeq (T : Tx K mg) : ∃ fd, DAt K d_Signal_eq fd ∧ FnOk P w K mg base CX0 1 (d_Signal_eq.ad K) fd ["self", "other"] (spSgEq K) := by
  obtain ⟨fd, D⟩ := a_Signal_eq T.c
  refine ⟨fd, D, ok_of (N := ["self", "other"]) D sc_Signal_eq (fun vs H Q E h => ?_) (fun cdv A outer s H vs Q E hr h => ?_)⟩
  · obtain ⟨d, t, x, y, rfl, _⟩ := h
    rfl
  · obtain ⟨d, t, x, y, rfl, I, k⟩ := h
    refine ⟨_, (pss_one (ps_ret (pe_and (pe_callB call_isi (by rfl) (n_isinstance T) bo_isinstance (pa_cons (pv 1) (pa_cons (pe_glob (v := .ref (gAd "Signal" K)) rfl (g_Signal T) rfl) pa_nil))) (pe_one (pe_cmpR op_eq (pe_fld (pv 0) rfl) (pe_fld (pv 1) rfl) (nomark _)))))), ?_⟩
    rcases k with ⟨e, u, z, rfl, J, k⟩ | ⟨ty, hty, hkit, k⟩
    · refine ⟨_, rfl, _, _, _, _, true, rfl, .own _, .base (ty_sig T J), kit_sig T u, true, rfl, iteT ?_⟩
      cases I with
      | mk h ht hl n5 ne tl hk =>
        cases J with
        | mk h' ht' hl' n5' ne' tl' hk' =>
          refine ⟨_, rfl, x, _, _, _, _, rfl, h, cl_of T t, na_of T t (by simp), rfl, _, rfl, z, _, _, _, _, rfl, h', cl_of T u, na_of T u (by simp), rfl, rfl, ?_⟩
          have e1 : decide (V.str t.tell = V.str u.tell) = decide (t.tell = u.tell) := by
            by_cases q : t.tell = u.tell
            · rw [q]
              simp
            · rw [decide_eq_false q, decide_eq_false fun w => q (V.str.inj w)]
          rw [e1] at *
          exact k
    · exact ⟨_, rfl, _, _, _, _, false, rfl, .own _, hty, hkit, false, rfl, iteF k⟩
end
end K11

/-! [y for x in t for y in e(x)]: t a tuple, each e(x) a tuple. -/
namespace Hk
open PySem PySem.Spec PyProof.Rows L2
theorem Same.tupT {K : Fr} {H H' : Hp} {a : Addr} {xs : List V} (e : Same H H') (h : SqT K H a xs) : SqT K H' a xs := by
  rcases h with (h | ⟨o, h⟩) | h
  · exact .inl (.inl (e _ _ h))
  · exact .inl (.inr ⟨o, e _ _ h⟩)
  · exact .inr h
theorem lc2_tt {K : Fr} {a : Addr} {xs : List V} {i j : Nat} {ti : TE} {σ : L2.St} {H1 : Hp} {D : Addr} {Qd : Hp → Prop} (Pk : Nat → Prop) (yss : List (List V)) (hij : i ≠ j) (hj : j < σ.length) (hlen : xs.length = yss.length) (nD : H1 D = none) (hl : SqT K H1 a xs) (hz : yss.flatten.length ≤ 100000)
    (hs : ∀ (k : Nat) (x : V) (ys : List V), xs[k]? = some x → yss[k]? = some ys → ∀ (H : Hp) (R : VK), Same H1 H → (∀ q H', Same H H' → H' q = some (.tup ys) → Pk k → R (.ref q) H') → ti ((wipe σ [i, j]).set i (some x)) H R)
    (hd : ∀ H, Same H1 H → H D = some (.lst yss.flatten) → (∀ k, k < xs.length → Pk k) → Qd H) :
    ∃ W : Nat → Nat → Hp → Prop, (∃ m, W 0 m (upd H1 D (.lst []))) ∧ ∀ k m H, W k m H →
      ((Itt K a).stop k H ∧ Qd H) ∨ ((Itt K a).go k H ∧ ∃ Nx : Hp → Prop, (∀ H', Nx H' → ∃ m', m' < m ∧ W (k + 1) m' H') ∧ ∀ x H', (Itt K a).yld k H x H' → gName i x (wipe σ [i, j]) H' fun σ2 H2 => wipe σ2 [i, j] = wipe σ [i, j] ∧ tYes σ2 H2 fun b H3 =>
        if b = true then iTup K ti σ2 H3 fun J1 H4 => ∃ W1 : Nat → Nat → Hp → Prop, (∃ m, W1 0 m H4) ∧ ∀ k2 m2 H, W1 k2 m2 H →
          (J1.stop k2 H ∧ Nx H) ∨ (J1.go k2 H ∧ ∃ Nx1 : Hp → Prop, (∀ H', Nx1 H' → ∃ k', k' < m2 ∧ W1 (k2 + 1) k' H') ∧ ∀ x H', J1.yld k2 H x H' → gName j x (wipe σ2 [j]) H' fun σ3 H5 => wipe σ3 [j] = wipe σ2 [j] ∧ tYes σ3 H5 fun b H6 =>
            if b = true then tVar j σ3 H6 fun y H7 => ∃ acc, H7 D = some (.lst acc) ∧ acc.length < sizeLine ∧ Nx1 (upd H7 D (.lst (acc ++ [y]))) else Nx1 H6)
        else Nx H3) := by
  have fl : ∀ n, (yss.take n).flatten.length ≤ yss.flatten.length := fun n => by
    have e : yss.flatten = (yss.take n).flatten ++ (yss.drop n).flatten := by rw [← List.flatten_append, List.take_append_drop]
    rw [e, List.length_append]
    omega
  have big : (100000 : Nat) < sizeLine := by decide
  let Pv : Nat → Hp → Prop := fun n H => (Same H1 H ∧ H D = some (.lst (yss.take n).flatten)) ∧ ∀ k, k < n → Pk k
  refine ⟨fun k m H => m = xs.length - k ∧ k ≤ xs.length ∧ Pv k H, ⟨xs.length, by simp, Nat.zero_le _, ⟨same_upd nD, upd_same⟩, fun k hk => absurd hk (Nat.not_lt_zero _)⟩, ?_⟩
  rintro k m H ⟨rfl, hk, ⟨s1, hD⟩, hP⟩
  have hq : SqT K H a xs := Same.tupT s1 hl
  by_cases hlt : k < xs.length
  · refine .inr ⟨⟨xs, xs[k], hq, by simp [hlt]⟩, Pv (k + 1), fun H' p' => ⟨xs.length - (k + 1), by omega, rfl, hlt, p'⟩, fun x H' y => ?_⟩
    obtain ⟨e, y⟩ := y
    subst e
    have hx := y xs hq
    have hy : yss[k]? = some (yss[k]'(by omega)) := List.getElem?_eq_getElem _
    generalize yss[k]'(by omega) = ys at hy
    have tk : (yss.take (k + 1)).flatten = (yss.take k).flatten ++ ys := by
      rw [List.take_add_one, hy, List.flatten_append]
      simp
    have hl1 : (yss.take k).flatten.length + ys.length ≤ 100000 := by
      have := fl (k + 1)
      rw [tk, List.length_append] at this
      omega
    refine ⟨?_, ?_⟩
    · show (((((σ.set j none).set i none).set i (some x)).set j none).set i none) = ((σ.set j none).set i none)
      rw [List.set_set, List.set_comm _ _ hij, List.set_set, List.set_set]
    unfold tYes
    dsimp only
    rw [if_pos rfl]
    refine hs k x ys hx hy H' _ s1 fun q H2 s2 hq2 hPk => ⟨q, rfl, ⟨ys, .inl (.inl hq2)⟩, ?_⟩
    have hD2 : H2 D = some (.lst (yss.take k).flatten) := s2 _ _ hD
    refine ⟨fun k2 m2 H3 => m2 = ys.length - k2 ∧ k2 ≤ ys.length ∧ Same H1 H3 ∧ H3 q = some (.tup ys) ∧ H3 D = some (.lst ((yss.take k).flatten ++ ys.take k2)), ⟨ys.length, by simp, Nat.zero_le _, s1.trans s2, hq2, by simpa using hD2⟩, ?_⟩
    rintro k2 m2 H3 ⟨rfl, hk2, s3, hq3, hD3⟩
    by_cases hlt2 : k2 < ys.length
    · refine .inr ⟨⟨ys, ys[k2], .inl (.inl hq3), by simp [hlt2]⟩, fun H4 => Same H1 H4 ∧ H4 q = some (.tup ys) ∧ H4 D = some (.lst ((yss.take k).flatten ++ ys.take (k2 + 1))), fun H4 p' => ⟨ys.length - (k2 + 1), by omega, rfl, hlt2, p'⟩, fun z H4 y2 => ?_⟩
      obtain ⟨e, y2⟩ := y2
      subst e
      have hz2 := y2 ys (.inl (.inl hq3))
      refine ⟨?_, ?_⟩
      · show (((((wipe σ [i, j]).set i (some x)).set j none).set j (some z)).set j none) = (((wipe σ [i, j]).set i (some x)).set j none)
        rw [List.set_set, List.set_set]
      rw [if_pos rfl]
      refine ⟨z, ?_, _, hD3, ?_, same_upd' s3 nD, ?_, ?_⟩
      · refine List.getElem?_set_self ?_
        rw [wipe_length, List.length_set, wipe_length]
        exact hj
      · rw [List.length_append, List.length_take]
        omega
      · rw [upd_ne (ne_of hq3 hD3 (by intro z; exact nomatch z))]
        exact hq3
      · rw [upd_same, List.take_add_one, hz2, List.append_assoc]
        rfl
    · have e : k2 = ys.length := by omega
      subst e
      refine .inl ⟨⟨ys, .inl (.inl hq3), Nat.le_refl _⟩, ⟨s3, by
        rw [tk]
        rw [List.take_length] at hD3
        exact hD3⟩, fun z hz => ?_⟩
      rcases Nat.lt_or_ge z k with q1 | q1
      · exact hP z q1
      · have e : z = k := by omega
        subst e
        exact hPk
  · have e : k = xs.length := by omega
    subst e
    refine .inl ⟨⟨xs, hq, Nat.le_refl _⟩, hd H s1 ?_ hP⟩
    rw [hlen, List.take_length] at hD
    exact hD
end Hk

namespace K11
open PySem PySem.Spec PyProof.Rows L2 Hk NumM NumT SX
abbrev leS (a b : Str) : Prop := a.cps.toList ≤ b.cps.toList
theorem rising_pw : ∀ (l : List Str) (p : Str), risingS p l = true → (p :: l).Pairwise leS
  | [], p, _ => List.pairwise_singleton _ _
  | x :: r, p, h => by
    have h2 : (!ltCps x.cps.toList p.cps.toList && risingS x r) = true := h
    rw [Bool.and_eq_true, Bool.not_eq_true'] at h2
    have h3 := rising_pw r x h2.2
    have e : leS p x := by
      have := h2.1
      rw [ltCps_eq] at this
      exact List.not_lt.mp (of_decide_eq_false this)
    refine List.pairwise_cons.mpr ⟨fun y hy => ?_, h3⟩
    rcases List.mem_cons.mp hy with rfl | hy
    · exact e
    · exact List.le_trans e ((List.pairwise_cons.mp h3).1 y hy)
theorem sorted_pw {l : List Str} (h : sortedS l = true) : l.Pairwise leS := by
  cases l with
  | nil => exact List.Pairwise.nil
  | cons x r => exact rising_pw r x h
/-- the names of an expression, ascending, each once -/
def IsNm (t : Tree) (ys : List Str) : Prop := sortedS ys = true ∧ ys.Nodup ∧ ∀ j, j ∈ ys ↔ j ∈ t.leaves.map S
theorem IsNm.uniq {t : Tree} {ys zs : List Str} (h : IsNm t ys) (k : IsNm t zs) : ys = zs := by
  have pm : ys.Perm zs := (List.perm_ext_iff_of_nodup h.2.1 k.2.1).mpr fun j => (h.2.2 j).trans (k.2.2 j).symm
  refine List.Perm.eq_of_pairwise (le := leS) (fun a b _ _ h1 h2 => ?_) (sorted_pw h.1) (sorted_pw k.1) pm
  have e := List.le_antisymm h1 h2
  rw [← S_tl a, ← S_tl b]
  show S a.cps.toList = S b.cps.toList
  rw [e]
theorem nd_len : ∀ {ys zs : List Str}, ys.Nodup → (∀ j ∈ ys, j ∈ zs) → ys.length ≤ zs.length
  | [], _, _, _ => Nat.zero_le _
  | y :: r, zs, h, k => by
    obtain ⟨h1, h2⟩ := List.nodup_cons.mp h
    have my := k y List.mem_cons_self
    have ih := nd_len (zs := zs.erase y) h2 fun j hj => (List.mem_erase_of_ne (by intro e; subst e; exact h1 hj)).mpr (k j (List.mem_cons_of_mem _ hj))
    rw [List.length_erase_of_mem my] at ih
    have := List.length_pos_of_mem my
    rw [List.length_cons]
    omega
theorem IsNm.len {t : Tree} {ys : List Str} (h : IsNm t ys) : ys.length ≤ t.leaves.length := by
  have := nd_len h.2.1 fun j hj => (h.2.2 j).mp hj
  rwa [List.length_map] at this
open Classical in
noncomputable def nmOf (t : Tree) : List Str := if h : ∃ ys, IsNm t ys then Classical.choose h else []
theorem IsNm.eq {t : Tree} {ys : List Str} (h : IsNm t ys) : ys = nmOf t := by
  have e : ∃ ys, IsNm t ys := ⟨ys, h⟩
  unfold nmOf
  rw [dif_pos e]
  exact h.uniq (Classical.choose_spec e)
theorem nmOf_len (t : Tree) : (nmOf t).length ≤ t.leaves.length := by
  unfold nmOf
  split
  · rename_i h
    exact (Classical.choose_spec h).len
  · exact Nat.zero_le _
theorem sum_le_mem {l : List Nat} {x : Nat} (h : x ∈ l) : x ≤ l.sum := by
  induction l with
  | nil => exact nomatch h
  | cons a r ih =>
    rw [List.sum_cons]
    rcases List.mem_cons.mp h with rfl | h
    · omega
    · have := ih h
      omega
theorem kid_parts {t c : Tree} (h : c ∈ t.kids) : c.parts + 1 ≤ t.parts := by
  have := sum_le_mem (List.mem_map.mpr ⟨c, h, rfl⟩ : c.parts ∈ t.kids.map Tree.parts)
  rw [parts_eq t]
  omega
theorem sum_map_le {α : Type} {f g : α → Nat} {l : List α} (h : ∀ c ∈ l, f c ≤ g c) : (l.map f).sum ≤ (l.map g).sum := by
  induction l with
  | nil => exact Nat.le_refl _
  | cons a r ih =>
    rw [List.map_cons, List.map_cons, List.sum_cons, List.sum_cons]
    have := h a List.mem_cons_self
    have := ih fun c hc => h c (List.mem_cons_of_mem _ hc)
    omega
theorem leaves_parts {K : Fr} {H : Hp} {d : Nat} : ∀ {t : Tree} {x : Addr}, SigAt K H d t x → t.leaves.length ≤ t.parts := by
  induction d with
  | zero => intro t x I; exact nomatch I
  | succ d ih =>
    intro t x I
    cases I with
    | @mk _ _ _ dx tp am xs h ht hl n5 ne tl hk =>
      by_cases hn : ∃ l, t = .name l
      · obtain ⟨l, rfl⟩ := hn
        simp [Tree.leaves, Tree.parts]
      · rw [leaves_eq (fun l e => hn ⟨l, e⟩), parts_eq, List.length_flatten, List.map_map]
        have := sum_map_le (f := List.length ∘ Tree.leaves) (g := Tree.parts) (l := t.kids) fun c hc => by
          obtain ⟨i, hi, e⟩ := List.getElem_of_mem hc
          exact ih (hk i (xs[i]'(by omega)) c (List.getElem?_eq_getElem _) (by rw [← e]; exact List.getElem?_eq_getElem hi))
        omega
theorem bo_set : bootBuiltins "set" = some (.type "set") := by decide +kernel
theorem bo_sorted : bootBuiltins "sorted" = some (.builtin "sorted") := by decide +kernel
theorem nm_of_set {t : Tree} {zs ys : List Str} (nd : zs.Nodup) (hm : ∀ j, j ∈ zs ↔ j ∈ t.leaves.map S) (pm : ys.Perm zs) (so : sortedS ys = true) : IsNm t ys := ⟨so, pm.nodup_iff.mpr nd, fun j => pm.mem_iff.trans (hm j)⟩
section
variable {P : Program} {w : World} {K : Fr} {mg : Str → Option Value} {base : Heap}
def spNm (K : Fr) (d : Nat) : Sp := fun vs H Q _ => ∃ (t : Tree) (x : Addr), vs = [.ref x] ∧ SigAt K H d t x ∧ t.parts ≤ 12 ∧ ∀ (q : Addr) (H' : Hp), Same H H' → H' q = some (.tup ((nmOf t).map V.str)) → IsNm t (nmOf t) → Q (.ref q) H'
theorem iteE {b : Bool} {A B : Prop} (hb : b = false) (h : B) : if b = true then A else B := by
  rw [hb]
  exact iteF h
abbrev tNm (K : Fr) (d : Nat) : TE := tPropA K (He.ma K (He.ga K "Signal") "names") (d_Signal_names.ad K) "names" (spNm K d) (tVar 1)
theorem f_sgnames (T : Tx K mg) : ∀ d : Nat, ∃ fd, DAt K d_Signal_names fd ∧ FnOk P w K mg base CX0 (2 * d + 1) (d_Signal_names.ad K) fd ["self"] (spNm K d) := by
  intro d
  induction d with
  | zero =>
    obtain ⟨fd, D⟩ := a_Signal_names T.c
    refine ⟨fd, D, ok_of (N := ["self", "signal", "name"]) D sc_Signal_names (fun vs H Q E h => ?_) (fun cdv A outer s H vs Q E hr h => ?_)⟩
    · obtain ⟨t, x, rfl, _⟩ := h
      rfl
    · obtain ⟨t, x, rfl, I, _⟩ := h
      exact nomatch I
  | succ d ih =>
    obtain ⟨fd, D⟩ := a_Signal_names T.c
    obtain ⟨fn, Dn, Fn⟩ := ih
    have bn : Binds K fn ["self"] [] := FunD.bindsN Dn fun _ _ _ _ _ _ us hl => match us, hl with | [_], _ => rfl
    refine ⟨fd, D, ok_of (k := 2 * d + 2) (N := ["self", "signal", "name"]) D sc_Signal_names (fun vs H Q E h => ?_) (fun cdv A outer s H vs Q E hr h => ?_)⟩
    · obtain ⟨t, x, rfl, _⟩ := h
      rfl
    · obtain ⟨t, x, rfl, I, hp, k⟩ := h
      refine ⟨_, (pss_cons (ps_if (pt_not (pt_truth (pe_fld (pv 0) rfl) (by intro _; rfl)))
 (pss_one (ps_ret (pe_tup (pa_cons (pe_fld (pv 0) rfl) pa_nil))))
 pss_nil)
 (pss_one (ps_ret (pe_callTy call_tuple_of (by rfl) (n_tuple T) bo_tuple (pa_cons (pe_callB (cr_sortedX rfl) (by rfl) (n_sorted T) bo_sorted (pa_cons (pe_callTy (cr_setOfS rfl) (by rfl) (n_set T) bo_set (pa_cons (pe_lc2 (own := [("signal", 1), ("name", 2)]) (vs1 := [2]) (g := gName 1) (tt := tYes) (g1 := gName 2) (tt1 := tYes) (wi1 := iTup K (tNm K d)) (te := tVar 2) rfl sc_Signal_names.nd (pi_tup (pe_fld (pv 0) rfl)) (blkOk_by (N := ["self", "signal", "name"]) (sc := defScope s_Signal_names) (by decide +kernel)) (by decide) (fun _ _ _ _ _ => pg_name (i := 1) sc_Signal_names.nd rfl (.inl rfl)) (fun _ _ _ _ _ => pts_nil) (fun _ _ _ _ _ => pi_tup (tl := tNm K d) (pe_propA (pv 1) Fn hr bn)) (fun _ _ _ _ _ => pg_name (i := 2) sc_Signal_names.nd rfl (.inl rfl)) (fun _ _ _ _ _ => pts_nil) (fun _ _ _ _ _ => (pv 2))) pa_nil)) pa_nil)) pa_nil))))), ?_⟩
      have I0 := I
      cases I with
      | @mk _ _ _ dx tp am xs h ht hl n5 ne tl hk =>
        refine ⟨_, rfl, x, _, _, _, _, rfl, h, cl_of T t, na_of T t (by simp), rfl, !(xs.map V.ref).isEmpty, .inr (.inl ⟨_, .inl (.inl ht), rfl⟩), ?_⟩
        cases hx : xs with
        | nil =>
          subst hx
          have hk0 : t.kids = [] := List.length_eq_zero_iff.mp hl.symm
          obtain ⟨l, rfl⟩ := ne hk0
          have nm : IsNm (.name l) [S l] := ⟨rfl, List.pairwise_singleton _ _, fun j => by simp [Tree.leaves]⟩
          refine iteT ?_
          refine ⟨_, rfl, x, _, _, _, _, rfl, h, cl_of T _, na_of T _ (by simp), rfl, (by show 1 ≤ sizeLine; decide), fun q nq => ?_⟩
          refine k q _ (same_upd nq) ?_ (nm.eq ▸ nm)
          rw [upd_same, ← nm.eq, Tree.tell]
          rfl
        | cons y0 r0 =>
          have nn : ∀ l, t ≠ .name l := fun l e => by
            subst e
            rw [hx] at hl
            simp [Tree.kids] at hl
          rw [← hx]
          refine iteE (by rw [hx]; rfl) ?_
          refine ⟨_, rfl, x, _, _, _, _, rfl, h, cl_of T t, na_of T t (by simp), rfl, tp, rfl, ⟨_, .inl (.inl ht)⟩, fun D nD => ?_⟩
          have fl : (t.kids.map fun c => (nmOf c).map V.str).flatten = ((t.kids.map nmOf).flatten).map V.str := by
            rw [List.map_flatten, List.map_map]
            rfl
          have hlen : ((t.kids.map nmOf).flatten).length ≤ 12 := by
            rw [List.length_flatten, List.map_map]
            have := sum_map_le (f := List.length ∘ nmOf) (g := Tree.parts) (l := t.kids) fun c hc => by
              obtain ⟨i, hi, e⟩ := List.getElem_of_mem hc
              exact Nat.le_trans (nmOf_len c) (leaves_parts (hk i (xs[i]'(by omega)) c (List.getElem?_eq_getElem _) (by rw [← e]; exact List.getElem?_eq_getElem hi)))
            have := parts_eq t
            omega
          refine lc2_tt (fun m => ∀ c, t.kids[m]? = some c → IsNm c (nmOf c)) (t.kids.map fun c => (nmOf c).map V.str) (by decide) (show (2 : Nat) < 3 by decide) (by rw [List.length_map, List.length_map]; exact hl) nD (.inl (.inl ht)) (by rw [fl, List.length_map]; omega) (fun m y ys hy hys H2 R s2 q => ?_) (fun H2 s2 hD hP => ?_)
          · rw [List.getElem?_map] at hy hys
            obtain ⟨y', h1, rfl⟩ := Option.map_eq_some_iff.mp hy
            obtain ⟨c, h2, rfl⟩ := Option.map_eq_some_iff.mp hys
            have J := (hk m y' c h1 h2).same s2
            have J0 := J
            have hc : c ∈ t.kids := List.mem_of_getElem? h2
            cases J with
            | mk jh jt jl j5 jne jtl jk =>
              exact ⟨_, rfl, CT K c, y', _, _, rfl, jh, cl_of T c, sub_prop (sub_of T c) (by simp), c, y', rfl, J0, by have := kid_parts hc; omega, fun q2 H' s hq nm => q q2 H' s hq fun c' e => by
                rw [h2] at e
                cases e
                exact nm⟩
          · rw [fl] at hD
            refine ⟨D, (t.kids.map nmOf).flatten, rfl, .inl (.inl hD), by omega, fun a zs na nd hm => ?_⟩
            have hz : zs.length ≤ 12 := Nat.le_trans (nd_len nd fun j hj => (hm j).mp hj) hlen
            have hmm : ∀ j, j ∈ zs ↔ j ∈ t.leaves.map S := fun j => by
              rw [hm j, leaves_eq nn, List.map_flatten, List.map_map, List.mem_flatten, List.mem_flatten]
              constructor
              · rintro ⟨l, hl1, hj⟩
                obtain ⟨c, hc, rfl⟩ := List.mem_map.mp hl1
                obtain ⟨i, hi, e⟩ := List.getElem_of_mem hc
                have N := hP i (by rw [List.length_map]; omega) c (by rw [← e]; exact List.getElem?_eq_getElem hi)
                exact ⟨_, List.mem_map.mpr ⟨c, hc, rfl⟩, (N.2.2 j).mp hj⟩
              · rintro ⟨l, hl1, hj⟩
                obtain ⟨c, hc, rfl⟩ := List.mem_map.mp hl1
                obtain ⟨i, hi, e⟩ := List.getElem_of_mem hc
                have N := hP i (by rw [List.length_map]; omega) c (by rw [← e]; exact List.getElem?_eq_getElem hi)
                exact ⟨_, List.mem_map.mpr ⟨c, hc, rfl⟩, (N.2.2 j).mpr hj⟩
            refine ⟨a, zs, rfl, upd_same, by omega, fun p ys np pm so => ?_⟩
            have nm := nm_of_set nd hmm pm so
            refine ⟨p, _, rfl, .inl ⟨.inl (.inl upd_same), fun l nl => ?_⟩⟩
            refine k l _ (((s2.trans (same_upd na)).trans (same_upd np)).trans (same_upd nl)) ?_ (nm.eq ▸ nm)
            rw [upd_same, ← nm.eq]
end
end K11

namespace K11
open PySem PySem.Spec PyProof.Rows L2 Hk NumM NumT SX
section
variable {P : Program} {w : World} {K : Fr} {mg : Str → Option Value} {base : Heap}
/-- the objects of these expressions -/
def SigsAt (K : Fr) (H : Hp) (d : Nat) (cs : List Tree) (xs : List Addr) : Prop := xs.length = cs.length ∧ ∀ (i : Nat) (y : Addr) (c : Tree), xs[i]? = some y → cs[i]? = some c → SigAt K H d c y
theorem SigsAt.same {H H' : Hp} {d : Nat} {cs : List Tree} {xs : List Addr} (h : SigsAt K H d cs xs) (s : Same H H') : SigsAt K H' d cs xs := ⟨h.1, fun i y c h1 h2 => (h.2 i y c h1 h2).same s⟩
def sgI (txt : Str) (tp : Addr) (am : V) (cs : List Tree) : List (Str × V) := [("_text", .str txt), ("_inside", .ref tp), ("_amount", am), ("_parts", .int (1 + (cs.map Tree.parts).sum : Nat)), ("_depth", .int (1 + maxL (cs.map Tree.deep) : Nat))]
/-- Signal.__init__ on a bare object -/
def spSgI (K : Fr) : Sp := fun vs H Q _ => ∃ (d : Nat) (x dx tp C : Addr) (txt : Str) (am : V) (cs : List Tree) (xs : List Addr), vs = [.ref x, .str txt, .ref tp, am] ∧ H x = some (.ins C dx []) ∧ Cls K C ∧ (∀ f ∈ FL, NoAttr K C f) ∧ H tp = some (.tup (xs.map V.ref)) ∧
  SigsAt K H d cs xs ∧ cs.length ≤ 5 ∧ 1 + (cs.map Tree.parts).sum ≤ 12 ∧ 1 + maxL (cs.map Tree.deep) ≤ 5 ∧ ∀ H', Same H H' → Q .non (upd H' x (.ins C dx (sgI txt tp am cs)))
abbrev tPt (K : Fr) (f : Str) (g : Fr → Addr) (F : Tree → V) : TE := tPropA K (He.ma K (He.ga K "Signal") f) (g K) f (spSg K F) (tVar 5)
theorem f_sginit (T : Tx K mg) : ∃ fd, DAt K d_Signal_init fd ∧ FnOk P w K mg base CX0 3 (d_Signal_init.ad K) fd ["self", "text", "inside", "amount"] (spSgI K) := by
  obtain ⟨fd, D⟩ := a_Signal_init T.c
  obtain ⟨fp, Dp, Fp⟩ := f_sgparts (P := P) (w := w) (base := base) T
  obtain ⟨fe, De, Fe⟩ := f_sgdepth (P := P) (w := w) (base := base) T
  have bp : Binds K fp ["self"] [] := FunD.bindsN Dp fun _ _ _ _ _ _ us hl => match us, hl with | [_], _ => rfl
  have be : Binds K fe ["self"] [] := FunD.bindsN De fun _ _ _ _ _ _ us hl => match us, hl with | [_], _ => rfl
  obtain ⟨kP, iP⟩ := i_MAX_PARTS T
  obtain ⟨kD, iD⟩ := i_MAX_DEPTH T
  refine ⟨fd, D, ok_of (k := 2) (N := ["self", "text", "inside", "amount", "parts", "signal", "depth"]) D sc_Signal_init (fun vs H Q E h => ?_) (fun cdv A outer s H vs Q E hr h => ?_)⟩
  · obtain ⟨d, x, dx, tp, C, txt, am, cs, xs, rfl, _⟩ := h
    rfl
  · obtain ⟨d, x, dx, tp, C, txt, am, cs, xs, rfl, hx, hC, hN, ht, sg, n5, p12, d5, k⟩ := h
    refine ⟨_, (pss_cons (ps_set (i := 4) sc_Signal_init.nd rfl (.inl rfl) (pe_op op_add pe_int (pe_callB (cr_sum rfl) (by rfl) (n_sum T) bo_sum (pa_cons (pe_lc (own := [("signal", 5)]) (g := gName 5) (tt := tYes) (te := tPt K "parts" d_Signal_parts.ad fun t => .int t.parts) rfl sc_Signal_init.nd (pi_tup (pv 2)) (blkOk_by (N := ["self", "text", "inside", "amount", "parts", "signal", "depth"]) (sc := defScope s_Signal_init) (by decide +kernel)) (fun _ _ _ _ _ => pg_name (i := 5) sc_Signal_init.nd rfl (.inl rfl)) (fun _ _ _ _ _ => pts_nil) (fun _ _ _ _ _ => (pe_propA (pv 5) Fp hr bp))) pa_nil))))
 (pss_cons (ps_set (i := 6) sc_Signal_init.nd rfl (.inl rfl) (pe_op op_add pe_int (pe_callBK (cr_maxD rfl) (by rfl) (n_max T) bo_max (pa_cons (pe_lc (own := [("signal", 5)]) (g := gName 5) (tt := tYes) (te := tPt K "depth" d_Signal_depth.ad fun t => .int t.deep) rfl sc_Signal_init.nd (pi_tup (pv 2)) (blkOk_by (N := ["self", "text", "inside", "amount", "parts", "signal", "depth"]) (sc := defScope s_Signal_init) (by decide +kernel)) (fun _ _ _ _ _ => pg_name (i := 5) sc_Signal_init.nd rfl (.inl rfl)) (fun _ _ _ _ _ => pts_nil) (fun _ _ _ _ _ => (pe_propA (pv 5) Fe hr be))) pa_nil) (pk_cons pe_int pk_nil))))
 (pss_cons (ps_if (pt_cmpR op_gt (pv 4) (pe_glob (v := .int 12) rfl iP ⟨_, rfl⟩) (nomark _))
 (pss_one ps_never)
 pss_nil)
 (pss_cons (ps_if (pt_cmpR op_gt (pv 6) (pe_glob (v := .int 5) rfl iD ⟨_, rfl⟩) (nomark _))
 (pss_one ps_never)
 pss_nil)
 (pss_cons (ps_fld (pv 0) (pv 1) rfl)
 (pss_cons (ps_fld (pv 0) (pv 2) rfl)
 (pss_cons (ps_fld (pv 0) (pv 3) rfl)
 (pss_cons (ps_fld (pv 0) (pv 4) rfl)
 (pss_one (ps_fld (pv 0) (pv 6) rfl)))))))))), ?_⟩
    have sq : SqT K H tp (xs.map V.ref) := .inl (.inl ht)
    have hlen : ∀ F : Tree → Nat, (xs.map V.ref).length = (cs.map fun c => V.int (F c : Nat)).length := fun F => by
      rw [List.length_map, List.length_map]
      exact sg.1
    have hz : (xs.map V.ref).length ≤ 100000 := by
      rw [List.length_map, sg.1]
      omega
    refine ⟨_, rfl, tp, rfl, ⟨_, sq⟩, fun D nD => ?_⟩
    refine lc_idxT (cs.map fun c => V.int (c.parts : Nat)) (hlen Tree.parts) nD sq hz (fun j v y hv hy H2 R s2 q => ?_) (fun H2 s2 hD => ?_)
    · rw [List.getElem?_map] at hv hy
      obtain ⟨y', h1, rfl⟩ := Option.map_eq_some_iff.mp hv
      obtain ⟨c, h2, rfl⟩ := Option.map_eq_some_iff.mp hy
      have J := (sg.2 j y' c h1 h2).same s2
      have J0 := J
      cases J with
      | mk jh jt jl j5 jne jtl jk => exact ⟨_, rfl, CT K c, y', _, _, rfl, jh, cl_of T c, sub_prop (sub_of T c) (by simp), _, c, y', rfl, J0, q _ (Same.refl _)⟩
    have e1 : (1 : Int) + (cs.map fun c => (c.parts : Int)).sum = ((1 + (cs.map Tree.parts).sum : Nat) : Int) := by
      rw [sum_cast]
      omega
    refine ⟨D, cs.map fun c => (c.parts : Int), rfl, .inl (.inl ?_), _, _, rfl, rfl, ?_⟩
    · rw [hD, List.map_map]
      rfl
    have sq2 : SqT K H2 tp (xs.map V.ref) := .inl (.inl (s2 _ _ ht))
    refine ⟨_, rfl, tp, rfl, ⟨_, sq2⟩, fun D2 nD2 => ?_⟩
    refine lc_idxT (cs.map fun c => V.int (c.deep : Nat)) (hlen Tree.deep) nD2 sq2 hz (fun j v y hv hy H3 R s3 q => ?_) (fun H3 s3 hD3 => ?_)
    · rw [List.getElem?_map] at hv hy
      obtain ⟨y', h1, rfl⟩ := Option.map_eq_some_iff.mp hv
      obtain ⟨c, h2, rfl⟩ := Option.map_eq_some_iff.mp hy
      have J := (sg.2 j y' c h1 h2).same (s2.trans s3)
      have J0 := J
      cases J with
      | mk jh jt jl j5 jne jtl jk => exact ⟨_, rfl, CT K c, y', _, _, rfl, jh, cl_of T c, sub_prop (sub_of T c) (by simp), _, c, y', rfl, J0, q _ (Same.refl _)⟩
    have key : ∀ m : Int, (((cs.map fun c => (c.deep : Int)) = [] ∧ m = 0) ∨ (m ∈ (cs.map fun c => (c.deep : Int)) ∧ ∀ y, y ∈ (cs.map fun c => (c.deep : Int)) → y ≤ m)) → m = ((maxL (cs.map Tree.deep) : Nat) : Int) := by
      rintro m (⟨h0, rfl⟩ | ⟨hm, hx⟩)
      · have : cs = [] := List.map_eq_nil_iff.mp h0
        rw [this]
        rfl
      · refine max_is (List.mem_cons_of_mem _ hm) fun y hy => ?_
        rcases List.mem_cons.mp hy with rfl | hy
        · obtain ⟨c, _, rfl⟩ := List.mem_map.mp hm
          omega
        · exact hx y hy
    refine ⟨D2, cs.map fun c => (c.deep : Int), 0, rfl, rfl, .inl (.inl ?_), fun m hm => ?_⟩
    · rw [hD3, List.map_map]
      rfl
    have em := key m hm
    have e2 : (1 : Int) + m = ((1 + maxL (cs.map Tree.deep) : Nat) : Int) := by omega
    refine ⟨_, _, rfl, rfl, ?_⟩
    refine ⟨_, rfl, _, _, rfl, rfl, _, rfl, ?_⟩
    refine ite2 (fun z => absurd (of_decide_eq_true z) (by rw [e1]; omega)) (fun _ => ?_)
    refine ⟨_, rfl, _, _, rfl, rfl, _, rfl, ?_⟩
    refine ite2 (fun z => absurd (of_decide_eq_true z) (by rw [e2]; omega)) (fun _ => ?_)
    have hx3 : H3 x = some (.ins C dx []) := s3 _ _ (s2 _ _ hx)
    refine ⟨_, rfl, _, rfl, x, C, dx, _, rfl, hx3, hC, hN _ (by simp), (by show 0 < 1000; decide), ?_⟩
    refine ⟨_, rfl, _, rfl, x, C, dx, _, rfl, upd_same, hC, hN _ (by simp), (by show 1 < 1000; decide), ?_⟩
    refine ⟨_, rfl, _, rfl, x, C, dx, _, rfl, upd_same, hC, hN _ (by simp), (by show 2 < 1000; decide), ?_⟩
    refine ⟨_, rfl, _, rfl, x, C, dx, _, rfl, upd_same, hC, hN _ (by simp), (by show 3 < 1000; decide), ?_⟩
    refine ⟨_, rfl, _, rfl, x, C, dx, _, rfl, upd_same, hC, hN _ (by simp), (by show 4 < 1000; decide), ?_⟩
    show Q .non _
    rw [upd_upd, upd_upd, upd_upd, upd_upd]
    have k' := k H3 (s2.trans s3)
    unfold sgI at k'
    rw [← e1, ← e2] at k'
    exact k'
end
end K11

namespace K11
open PySem PySem.Spec PyProof.Rows L2 Hk NumM NumT SX
/-- what str says of an argument -/
inductive ArgT (K : Fr) (H : Hp) : V → Str → Prop
  | sig {d : Nat} {t : Tree} {x : Addr} (h : SigAt K H d t x) : ArgT K H (.ref x) t.tell
  | num {p : Addr} {t b : Int} (h : NumAt (CN K) H p t b) (st : Sz t) (sb : Sz b) : ArgT K H (.ref p) (S (fL t b))
  | int {n : Int} (h : Sz n) : ArgT K H (.int n) (S (iL n))
theorem ArgT.same {K : Fr} {H H' : Hp} {v : V} {s : Str} (a : ArgT K H v s) (e : Same H H') : ArgT K H' v s := by
  cases a with
  | sig h => exact .sig (h.same e)
  | num h st sb => exact .num (h.same e) st sb
  | int h => exact .int h
def wrS (w : Str) (ss : List Str) : Str := w ++ ("(" : Str) ++ Str.join (", " : Str) ss ++ (")" : Str)
section
variable {P : Program} {w : World} {K : Fr} {mg : Str → Option Value} {base : Heap}
def rArg (K : Fr) : List V → Hp → VK → Prop := fun xs H Q => rTextA K "__str__" (d_Signal_str.ad K) (spSg K fun t => .str t.tell) xs H Q ∨ (rText (CN K) (spGet (CN K) fun t b => .str (S (fL t b))) xs H Q ∨ ∃ i : Int, xs = [.int i] ∧ i.natAbs.log2 < 1920 ∧ Q (.str (toString i)) H)
theorem call_arg {X : Cx} {fs fn : FuncData} (O : Own X.K (CN X.K) "__str__" (d_Number_str.ad X.K)) (Fs : FnOk X.prog X.w X.K X.mg X.base CX0 1 (d_Signal_str.ad X.K) fs ["self"] (spSg X.K fun t => .str t.tell)) (bs : Binds X.K fs ["self"] [])
    (Fn : FnOk X.prog X.w X.K X.mg X.base CX0 1 (d_Number_str.ad X.K) fn ["self"] (spGet (CN X.K) fun t b => .str (S (fL t b)))) (bn : Binds X.K fn ["self"] []) (hr : Room 3 X.A) : CallR X (.type "str") (rArg X.K) :=
  callr_or (call_strA Fs bs hr) (callr_or (call_strO O Fn bn hr) call_str_int)
def spW (K : Fr) : Sp := fun vs H Q _ => ∃ (wd : Str) (tp : Addr) (xs : List V) (ss : List Str), vs = [.str wd, .ref tp] ∧ H tp = some (.tup xs) ∧ xs.length = ss.length ∧ ss.length ≤ 5 ∧ (∀ (i : Nat) (v : V) (s : Str), xs[i]? = some v → ss[i]? = some s → ArgT K H v s) ∧
  (wrS wd ss).length ≤ 1000000 ∧ ∀ H', Same H H' → Q (.str (wrS wd ss)) H'
theorem c_wr (T : Tx K mg) : Cal P w K mg base 4 "_written" (gAd "_written" K) ["word", "arguments"] (spW K) := by
  obtain ⟨fs, Ds, Fs⟩ := f_sgstr (P := P) (w := w) (base := base) T
  obtain ⟨fn, Dn, Fn⟩ := f_str (P := P) (w := w) (base := base) T
  have bs : Binds K fs ["self"] [] := FunD.bindsN Ds fun _ _ _ _ _ _ us hl => match us, hl with | [_], _ => rfl
  have bn : Binds K fn ["self"] [] := FunD.bindsN Dn fun _ _ _ _ _ _ us hl => match us, hl with | [_], _ => rfl
  refine cal_of (d := d_written) (N := ["word", "arguments", "between", "argument"]) (a_written T.c) rfl sc_written (g_written T) (fun _ _ _ _ _ _ us hl => match us, hl with | [_, _], _ => rfl) (fun vs H Q E h => ?_) (fun cdv A outer s H vs Q E hr h => ?_)
  · obtain ⟨wd, tp, xs, ss, rfl, _⟩ := h
    rfl
  · obtain ⟨wd, tp, xs, ss, rfl, ht, hl, n5, ha, hz, k⟩ := h
    refine ⟨_, (pss_cons (ps_set (i := 2) sc_written.nd rfl (.inl rfl) (pe_join pe_str (pe_lc (own := [("argument", 3)]) (g := gName 3) (tt := tYes) rfl sc_written.nd (pi_tup (pv 1)) (blkOk_by (N := ["word", "arguments", "between", "argument"]) (sc := defScope s_written) (by decide +kernel)) (fun _ _ _ _ _ => pg_name (i := 3) sc_written.nd rfl (.inl rfl)) (fun _ _ _ _ _ => pts_nil) (fun _ _ _ _ _ => (pe_callTy (call_arg (own_ok (f_meth_str T.c)) Fs bs Fn bn hr : CallR _ _ (rArg K)) (by rfl) (n_str T) bo_str (pa_cons (pv 3) pa_nil))))))
 (pss_one (ps_ret (pe_joined (.cons (pe_fmt (pv 0)) (.cons pe_str (.cons (pe_fmt (pv 2)) (.cons pe_str .nil)))))))), ?_⟩
    have l1 : ("(" : Str).length = 1 := rfl
    have l2 : (")" : Str).length = 1 := rfl
    have l3 : (", " : Str).length = 2 := rfl
    refine ⟨⟨_, rfl⟩, _, rfl, tp, rfl, ⟨_, .inl (.inl ht)⟩, fun D nD => ?_⟩
    refine lc_idxT (ss.map V.str) (by rw [List.length_map]; exact hl) nD (.inl (.inl ht)) (by omega) (fun j v y hv hy H2 R s2 q => ?_) (fun H2 s2 hD => ?_)
    · rw [List.getElem?_map] at hy
      obtain ⟨s, h1, rfl⟩ := Option.map_eq_some_iff.mp hy
      cases (ha j v s hv h1).same s2 with
      | @sig d t x h =>
        have J0 := h
        cases h with
        | mk jh jt jl j5 jne jtl jk => exact ⟨_, rfl, .inl ⟨CT K t, sub_own (sub_of T t) (by simp), x, _, _, rfl, jh, _, t, x, rfl, J0, _, rfl, q _ (Same.refl _)⟩⟩
      | @num p t b h st sb =>
        obtain ⟨dx, hp⟩ := id h.at_
        exact ⟨_, rfl, .inr (.inl ⟨p, dx, _, rfl, hp, p, t, b, rfl, h, st, sb, _, rfl, q _ (Same.refl _)⟩)⟩
      | @int n h =>
        refine ⟨_, rfl, .inr (.inr ⟨n, rfl, Hk.log2_small h, ?_⟩)⟩
        rw [toS]
        exact q _ (Same.refl _)
    · have hT : (Txt.join (", " : Str) ss) = Str.join (", " : Str) ss := StrLaws.glued_eq_join _ _
      have hs := len_join_ge_sum (", " : Str) ss
      rw [hT] at hs
      have hw : wd.length + 1 + (Str.join (", " : Str) ss).length + 1 ≤ 1000000 := by
        have := hz
        unfold wrS at this
        rw [str_len, str_len, str_len, l1, l2] at this
        exact this
      refine ⟨", ", D, ss, rfl, rfl, .inl (.inl (.inl hD)), ?_, ?_⟩
      · rw [l3]
        exact big6 (by omega)
      · rw [hT]
        refine ⟨_, rfl, .inl ⟨_, rfl, big6 (by omega), _, rfl, ?_, _, rfl, ?_, _, rfl, .inl ⟨_, rfl, big6 (by omega), _, rfl, ?_, _, rfl, ?_, ?_⟩⟩⟩
        · rw [empty_app]
          exact big6 (by omega)
        · rw [empty_app, str_len]
          exact big6 (by omega)
        · rw [empty_app, str_len, str_len]
          exact big6 (by omega)
        · rw [empty_app, str_len, str_len, str_len]
          exact big6 (by omega)
        · rw [empty_app]
          exact k _ s2
end
end K11

namespace K11
open PySem PySem.Spec PyProof.Rows L2 Hk NumM NumT SX
theorem letters : ("abcdefghijklmnopqrstuvwxyz" : Str).cps.toList = signsL.take 26 := by decide +kernel
theorem nsigns : ("abcdefghijklmnopqrstuvwxyz0123456789" : Str).cps.toList = signsL := by decide +kernel
section
variable {P : Program} {w : World} {K : Fr} {mg : Str → Option Value} {base : Heap}
theorem s_LETTERS (T : Tx K mg) : ∃ t, mg "LETTERS" = some (.str "abcdefghijklmnopqrstuvwxyz" t) := by
  obtain ⟨h, X, G⟩ := T.g
  exact He.str_ok X G (f_str_LETTERS T.c)
theorem s_NAME_SIGNS (T : Tx K mg) : ∃ t, mg "NAME_SIGNS" = some (.str "abcdefghijklmnopqrstuvwxyz0123456789" t) := by
  obtain ⟨h, X, G⟩ := T.g
  exact He.str_ok X G (f_str_NAME_SIGNS T.c)
def spBetween : Sp := fun vs H Q _ => ∃ i a b : Int, vs = [.int i, .int a, .int b] ∧ a ≤ i ∧ i ≤ b ∧ Q (.bl true) H
theorem c_between (T : Tx K mg) : Cal P w K mg base 2 "_is_between" (gAd "_is_between" K) ["value", "least", "greatest"] spBetween := by
  have C_is_integer := c_isint (P := P) (w := w) (base := base) T
  refine cal_of (d := d_is_between) (N := ["value", "least", "greatest"]) (a_is_between T.c) rfl sc_is_between (g_is_between T) (fun _ _ _ _ _ _ us hl => match us, hl with | [_, _, _], _ => rfl) (fun vs H Q E h => ?_) (fun cdv A outer s H vs Q E hr h => ?_)
  · obtain ⟨i, a, b, rfl, _⟩ := h
    rfl
  · obtain ⟨i, a, b, rfl, h1, h2, k⟩ := h
    refine ⟨_, (pss_one (ps_ret (pe_and (pe_c C_is_integer hr (pa_cons (pv 0) pa_nil)) (pe_one (pe_chain op_le op_le (pv 1) (pv 0) (pv 2)))))), ?_⟩
    refine ⟨_, rfl, i, rfl, true, rfl, iteT ?_⟩
    refine ⟨_, rfl, _, rfl, a, i, rfl, rfl, _, rfl, iteTd h1 ?_⟩
    refine ⟨_, rfl, i, b, rfl, rfl, ?_⟩
    show Q (.bl (decide (i ≤ b))) H
    rw [decide_eq_true h2]
    exact k
def spIsNumber (K : Fr) : Sp := fun vs H Q _ => ∃ (y : V) (u c : Int), vs = [y] ∧ Opd (CN K) H y u c ∧ Q (.bl true) H
theorem c_isnum (T : Tx K mg) : Cal P w K mg base 2 "is_number" (gAd "is_number" K) ["value"] (spIsNumber K) := by
  have C_is_integer := c_isint (P := P) (w := w) (base := base) T
  refine cal_of (d := d_is_number) (N := ["value"]) (a_is_number T.c) rfl sc_is_number (g_is_number T) (fun _ _ _ _ _ _ us hl => match us, hl with | [_], _ => rfl) (fun vs H Q E h => ?_) (fun cdv A outer s H vs Q E hr h => ?_)
  · obtain ⟨y, u, c, rfl, _⟩ := h
    rfl
  · obtain ⟨y, u, c, rfl, o, k⟩ := h
    refine ⟨_, (pss_one (ps_ret (pe_or (pe_callB call_isi (by rfl) (n_isinstance T) bo_isinstance (pa_cons (pv 0) (pa_cons (pe_glob (v := .ref (gAd "Number" K)) rfl (g_Number T) rfl) pa_nil))) (pe_one (pe_c C_is_integer hr (pa_cons (pv 0) pa_nil)))))), ?_⟩
    rcases o with ⟨q, rfl, N⟩ | ⟨rfl, rfl⟩
    · obtain ⟨dx, hp⟩ := id N.at_
      refine ⟨_, rfl, _, _, _, _, true, rfl, .own _, .base (ins_ok (f_ins T.c) hp (cl T)), of_decide_eq_true (f_kitO T.c), true, rfl, iteT k⟩
    · refine ⟨_, rfl, _, _, _, _, false, rfl, .own _, .base (.int _), of_decide_eq_true (f_kit_int T.c), false, rfl, iteF ?_⟩
      exact ⟨_, rfl, u, rfl, k⟩
def spIsName : Sp := fun vs H Q _ => ∃ l : List Nat, vs = [.str (S l)] ∧ Nm l ∧ ∀ H', Same H H' → Q (.bl true) H'
theorem c_isname (T : Tx K mg) : Cal P w K mg base 1 "is_name" (gAd "is_name" K) ["value"] spIsName := by
  obtain ⟨k1, i1⟩ := i_MAX_NAME T
  obtain ⟨k2, i2⟩ := s_LETTERS T
  obtain ⟨k3, i3⟩ := s_NAME_SIGNS T
  refine cal_of (d := d_is_name) (N := ["value", "sign"]) (a_is_name T.c) rfl sc_is_name (g_is_name T) (fun _ _ _ _ _ _ us hl => match us, hl with | [_], _ => rfl) (fun vs H Q E h => ?_) (fun cdv A outer s H vs Q E hr h => ?_)
  · obtain ⟨l, rfl, _⟩ := h
    rfl
  · obtain ⟨l, rfl, nm, k⟩ := h
    refine ⟨_, (pss_cons (ps_if (PW.pt (pw_or (pt_not (pt_val (pe_callB call_isi (by rfl) (n_isinstance T) bo_isinstance (pa_cons (pv 0) (pa_cons (pe_bltn (v := .ty "str") (by rfl) (n_str T) (by decide +kernel) rfl) pa_nil))))) (pw_or1 (pt_not (pt_chain op_le op_le pe_int (pe_callB call_len_str (by rfl) (n_len T) bo_len (pa_cons (pv 0) pa_nil)) (pe_glob (v := .int 8) rfl i1 ⟨_, rfl⟩))))))
 (pss_one (ps_ret pe_bl))
 pss_nil)
 (pss_one (ps_ret (pe_and (pe_cmpR op_in_sign (pe_ix ix_str (pv 0) pe_int (fun _ _ => rfl)) (pe_glob (v := .str "abcdefghijklmnopqrstuvwxyz") rfl i2 ⟨_, rfl⟩) (by rfl)) (pe_one (pe_callB (cr_all rfl) (by rfl) (n_all T) bo_all (pa_cons (pe_lc (own := [("sign", 1)]) (g := gName 1) (tt := tYes) rfl sc_is_name.nd (pi_str (pv 0)) (blkOk_by (N := ["value", "sign"]) (sc := defScope s_is_name) (by decide +kernel)) (fun _ _ _ _ _ => pg_name (i := 1) sc_is_name.nd rfl (.inl rfl)) (fun _ _ _ _ _ => pts_nil) (fun _ _ _ _ _ => (pe_cmpR op_in_sign (pv 1) (pe_glob (v := .str "abcdefghijklmnopqrstuvwxyz0123456789") rfl i3 ⟨_, rfl⟩) (by rfl)))) pa_nil))))))), ?_⟩
    have lo := nm.lo
    have hi := nm.hi
    refine ⟨_, rfl, _, _, .type "str", .type "str", true, rfl, .ty _, .base (.str _), kit_ty (by decide +kernel), true, rfl, iteF ?_⟩
    refine ⟨_, rfl, _, rfl, by rw [S_len]; exact big6 (by omega), 1, _, rfl, rfl, _, rfl, iteTd (by rw [S_len]; omega) ?_⟩
    refine ⟨_, _, rfl, rfl, _, rfl, ?_⟩
    rw [decide_eq_true (by rw [S_len]; omega)]
    refine iteF ?_
    obtain ⟨c, r, rfl⟩ : ∃ c r, l = c :: r := by
      cases l with
      | nil => simp at lo
      | cons c r => exact ⟨c, r, rfl⟩
    have hc : c ∈ ("abcdefghijklmnopqrstuvwxyz" : Str).cps.toList := by
      rw [letters]
      exact nm.hd c rfl
    refine ⟨_, rfl, _, 0, c, rfl, rfl, by rw [S_len]; exact big6 (by omega), atI_nat (j := 0) rfl, c, _, rfl, rfl, _, rfl, iteTd hc ?_⟩
    refine ⟨_, rfl, _, rfl, fun D nD => ?_⟩
    refine lc_fnS (z := S (c :: r)) (fun c => .bl (decide (c ∈ signsL))) nD (by show (c :: r).length ≤ _; omega) (fun d hd H2 R s2 q => ⟨_, rfl, d, _, rfl, rfl, ?_⟩) (fun H2 s2 hD => ?_)
    · have e := q H2 (Same.refl H2)
      rw [← nsigns] at e
      exact e
    · refine ⟨D, (c :: r).map fun c => decide (c ∈ signsL), rfl, .inl (.inl ?_), ?_⟩
      · rw [hD, List.map_map]
        rfl
      · have e : ((c :: r).map fun c => decide (c ∈ signsL)).all id = true := by
          rw [List.all_map]
          exact List.all_eq_true.mpr fun x hx => decide_eq_true (nm.al x hx)
        show Q (.bl _) H2
        rw [e]
        exact k H2 s2
end
end K11

namespace K11
open PySem PySem.Spec PyProof.Rows L2 Hk NumM NumT SX
section
variable {P : Program} {w : World} {K : Fr} {mg : Str → Option Value} {base : Heap}
theorem gain_sz {t b : Int} (g : GainOk t b) : Sz t ∧ Sz b := ⟨Nat.lt_of_le_of_lt g.t1 (by decide +kernel), Nat.lt_of_le_of_lt g.b1 (by decide +kernel)⟩
def spIsGain (K : Fr) : Sp := fun vs H Q _ => ∃ (y : V) (u c : Int), vs = [y] ∧ Opd (CN K) H y u c ∧ GainOk u c ∧ ∀ H', Same H H' → Q (.bl true) H'
theorem c_isgain (T : Tx K mg) : Cal P w K mg base 5 "_is_gain" (gAd "_is_gain" K) ["value"] (spIsGain K) := by
  have C_is_number := c_isnum (P := P) (w := w) (base := base) T
  have C_as_number := c_asnum (P := P) (w := w) (base := base) T
  obtain ⟨ft, Dt, Ft⟩ := f_top (P := P) (w := w) (base := base) T
  obtain ⟨fb, Db, Fb⟩ := f_bottom (P := P) (w := w) (base := base) T
  have bt : Binds K ft ["self"] [] := FunD.bindsN Dt fun _ _ _ _ _ _ us hl => match us, hl with | [_], _ => rfl
  have bb : Binds K fb ["self"] [] := FunD.bindsN Db fun _ _ _ _ _ _ us hl => match us, hl with | [_], _ => rfl
  obtain ⟨k1, i1⟩ := i_MAX_GAIN T
  refine cal_of (d := d_is_gain) (N := ["value", "number"]) (a_is_gain T.c) rfl sc_is_gain (g_is_gain T) (fun _ _ _ _ _ _ us hl => match us, hl with | [_], _ => rfl) (fun vs H Q E h => ?_) (fun cdv A outer s H vs Q E hr h => ?_)
  · obtain ⟨y, u, c, rfl, _⟩ := h
    rfl
  · obtain ⟨y, u, c, rfl, o, g, k⟩ := h
    have hr2 : Room 2 _ := hr.mono (by decide)
    refine ⟨_, (pss_cons (ps_if (pt_not (pt_val (pe_c C_is_number hr2 (pa_cons (pv 0) pa_nil))))
 (pss_one (ps_ret pe_bl))
 pss_nil)
 (pss_cons (ps_set (i := 1) sc_is_gain.nd rfl (.inl rfl) (pe_c C_as_number hr (pa_cons (pv 0) pa_nil)))
 (pss_one (ps_ret (pe_and (pe_cmpR op_le (pe_callB call_abs (by rfl) (n_abs T) bo_abs (pa_cons (pe_prop (pv 1) (cl T) (prop_ok (f_prop_top T.c)) Ft hr2 bt .nil pass0 rfl) pa_nil)) (pe_glob (v := .int 99) rfl i1 ⟨_, rfl⟩) (nomark _)) (pe_one (pe_cmpR op_le (pe_prop (pv 1) (cl T) (prop_ok (f_prop_bottom T.c)) Fb hr2 bb .nil pass0 rfl) (pe_glob (v := .int 99) rfl i1 ⟨_, rfl⟩) (nomark _)))))))), ?_⟩
    have sz := gain_sz g
    refine ⟨_, rfl, y, u, c, rfl, o, true, rfl, iteF ?_⟩
    refine ⟨_, rfl, y, u, c, rfl, o, sz.1, fun H1 q s1 N => ?_⟩
    obtain ⟨dx, hq⟩ := id N.at_
    refine ⟨_, rfl, q, dx, _, rfl, hq, q, u, c, rfl, N, sz.1, sz.2, u, rfl, _, _, rfl, rfl, _, rfl, iteTd ?_ ?_⟩
    · have := g.t1
      split <;> omega
    · refine ⟨_, rfl, q, dx, _, rfl, hq, q, u, c, rfl, N, sz.1, sz.2, _, _, rfl, rfl, ?_⟩
      show Q (.bl (decide (c ≤ 99))) H1
      rw [decide_eq_true (by have := g.b1; have := g.pos; omega)]
      exact k _ s1
end
end K11

/-! for i, x in enumerate(t), t a tuple. -/
namespace Hen
open PySem PySem.Spec PyProof.Rows L2
open AutoSeq1 (wpAny_loadPart')
theorem meets_newT (l : Addr) (items : Array Value) (n : Nat) (dct : Option Addr) (sl : Array (Option Value)) :
    Meets (Builtin.«enumerate.__new__» ⟨[.type "enumerate", .ref l], []⟩) (fun _ R s => s.heap.get? l = some { cls := .type "tuple", dict := dct, data := .seq items n, slots := sl } ∧
      R (.ok (.ret (.ref (s.heap.push { cls := .type "tuple_iterator", data := .fields #[.ref l, .int 0 0] }).objs.size)))
        { s with heap := (s.heap.push { cls := .type "tuple_iterator", data := .fields #[.ref l, .int 0 0] }).push { cls := .type "enumerate", data := .fields #[.none, .bool false, .ref s.heap.objs.size, rawInt 0, .none, .none] } }) :=
  .of_wp fun prog w A R s h => by
    obtain ⟨hp, g, d, tk, os⟩ := s
    obtain ⟨hl, h⟩ := h
    have hsub := sub_enumerate
    have hL : Heap.IsTuple (Shared.heap ⟨hp, g, d, tk, os⟩) l items := ⟨_, hl, rfl, n, rfl⟩
    wp_walk using wpAny_loadPart' hl
    refine wpAny_stack_any fun st => wpAny_pure ?_
    split
    · rename_i c _ _ _ _ _
      cases (c == Value.type "enumerate")
      · wp_walk using wpAny_loadPart' hl, wpAny_pyIter_tuple hL
        exact ⟨_, rfl, h⟩
      · wp_walk using wpAny_loadPart' hl, wpAny_pyIter_tuple hL
        exact ⟨_, rfl, h⟩
    · wp_walk using wpAny_loadPart' hl, wpAny_pyIter_tuple hL
      exact ⟨_, rfl, h⟩
theorem call_enumT {prog : Program} {w : World} {A : Around} {E : Value → Shared → Prop} {s : Shared} {l : Addr} {items : Array Value} {Q : Value → Shared → Prop} (hL : s.heap.IsTuple l items)
    (h : ∀ h', IsEnum h' (s.heap.objs.size + 1) s.heap.objs.size 0 .none → h'.IsTupleIter s.heap.objs.size l 0 → (∀ b o, s.heap.get? b = some o → h'.get? b = some o) → Q (.ref (s.heap.objs.size + 1)) { s with heap := h' }) :
    wpAny (model prog w) A (call (.type "enumerate") [.ref l]) Q E s := by
  obtain ⟨⟨c, dct, dt, sl⟩, hl, hc, n, hd⟩ := hL
  replace hc : c = .type "tuple" := hc
  replace hd : dt = .seq items n := hd
  subst hc hd
  refine callType_new PySem.F.called_enumerate (by decide) (PySem.F.typeCall_enumerate_1 _) (PySem.F.newCall_enumerate_1 _) (fun obj => PySem.F.args_object_init_2 obj _) PySem.F.entry_enumerate_new (meets_newT l items n dct sl) ⟨hl, ?_⟩
  have hz : (s.heap.push { cls := .type "tuple_iterator", data := .fields #[.ref l, .int 0 0] }).objs.size = s.heap.objs.size + 1 := Heap.size_push ..
  show _ ∧ _
  rw [hz]
  have he := Heap.get?_push_size (s.heap.push { cls := .type "tuple_iterator", data := .fields #[.ref l, .int 0 0] }) (o := { cls := .type "enumerate", data := .fields #[.none, .bool false, .ref s.heap.objs.size, rawInt 0, .none, .none] }) rfl
  rw [hz] at he
  exact ⟨⟨_, he, rfl⟩, h _ he ⟨_, Heap.get?_push_of_some _ (Heap.get?_push_size _ rfl), rfl, rfl⟩ fun b o x => Heap.get?_push_of_some _ (Heap.get?_push_of_some _ x)⟩
/-- the items of the tuple at a, each in a new pair with its index -/
def IteT (K : PySem.W.Frag) (a : Addr) : It :=
  ⟨fun i H => ∃ (xs : List V) (x : V), SqT K H a xs ∧ xs[i]? = some x, fun i H v H' => ∃ T x, v = .ref T ∧ H T = none ∧ H' = upd H T (.tup [.int (i : Nat), x]) ∧ ∀ xs, SqT K H a xs → xs[i]? = some x, fun i H => ∃ xs : List V, SqT K H a xs ∧ xs.length = i⟩
theorem turn_enumT {P : Program} {w : World} {K : PySem.W.Frag} {elts : List Expr} {kk : Nat} {tpos : Pos} (a e it : Addr) :
    Turn P w K (.Tuple elts kk tpos) (IteT K a) [e, it] e (fun i h => (∃ old, IsEnum h e it ((i : Nat) : Int) old) ∧ h.IsTupleIter it a i ∧ e ≠ it) where
  mem := by simp
  obj := fun i h st b hb => by
    obtain ⟨⟨old, he⟩, ⟨o, ho, hc, hd⟩, _⟩ := st
    have e' : b = e ∨ b = it := by simpa using hb
    rcases e' with z | z
    · rw [z]; exact ⟨_, he, fun v q => nomatch q⟩
    · rw [z]; exact ⟨o, ho, fun v q => by rw [hd] at q; cases q⟩
  keep := fun i h h' st k => let ⟨⟨old, he⟩, hi, hne⟩ := st; ⟨⟨old, k e (by simp) _ he⟩, hi.at fun o q => k it (by simp) o q, hne⟩
  item := by
    intro X hP hw hK hc i pins s σ H E I hf st hg
    subst hP hw hK
    obtain ⟨⟨old, he⟩, hit, hne⟩ := st
    obtain ⟨xs, x, hq, hx⟩ := hg
    obtain ⟨its, rv, p, hz⟩ := I.tuple hq
    obtain ⟨u, hu, ru⟩ := rv.get hx
    have hel : e < s.heap.objs.size := Heap.lt_size he
    have hil : it < s.heap.objs.size := by obtain ⟨_, q, _⟩ := hit; exact Heap.lt_size q
    have hae : e ≠ a := by
      rintro rfl
      obtain ⟨o, ho, hc, _⟩ := p
      rw [he] at ho
      rw [← Option.some.inj ho] at hc
      have z : Value.type "enumerate" = Value.type "tuple" := hc
      injection z with z
      exact absurd z (by decide)
    have hai : a ≠ it := by
      rintro rfl
      obtain ⟨o, ho, hc, _⟩ := p
      obtain ⟨o2, ho2, hc2, _⟩ := hit
      rw [ho] at ho2
      rw [Option.some.inj ho2, hc2] at hc
      injection hc with z
      exact absurd z (by decide)
    have hlt : i < its.toArray.size := by
      have := (List.getElem?_eq_some_iff.mp hu).1
      simpa using this
    refine wpAny_pyNext_enum_itemD (Draws.tuple (A := X.A.in1) (I.ok.hd hc) it a hai its.toArray) he ⟨hit, p⟩ hlt hne (by simp [hne, hae]) fun v h' tk hv ho hst hT hsz hk => ?_
    have ev : v = u := by
      have : its[i]? = some v := by simpa using hv
      rw [hu] at this
      exact (Option.some.inj this).symm
    subst ev
    refine ⟨_, rfl, wpAny_letOwnedTupleGo_enum (s := { s with heap := h', toks := tk + 1 }) ho fun h'' he' sb => ?_⟩
    have hT2 : h''.get? s.heap.objs.size = some { cls := .type "tuple", data := .seq #[.int i tk, v] } := (sb.2 _ (Nat.ne_of_gt hel)).trans hT
    have new : ObjOk X.prog X.w (upd H s.heap.objs.size (.tup [.int (i : Nat), x])) h'' s.heap.objs.size (.tup [.int (i : Nat), x]) :=
      ⟨by show 2 ≤ sizeLine; decide, [.int i tk, v], .cons ⟨_, rfl⟩ (.cons ru .nil), ⟨_, hT2, rfl, _, rfl⟩⟩
    have I1 : Inv X pins σ (upd H s.heap.objs.size (.tup [.int (i : Nat), x])) { s with heap := h'', toks := tk + 1 } :=
      I.turnedNew (ch := [e, it]) (fun b ob hb q => (sb.2 b (fun z => hb (by simp [z]))).trans (hk b ob (fun z => hb (by simp [z])) (fun z => hb (by simp [z])) q)) hf (Nat.le_refl _) new
    refine ⟨.ref s.heap.objs.size, _, I1, rfl, ⟨_, x, rfl, I.hok.fresh (Nat.le_refl _), rfl, fun ys hy => by rw [I.tuple_inj hy hq]; exact hx⟩, ⟨⟨v, ?_⟩, hst.1.at fun o q => (sb.2 it (Ne.symm hne)).trans q, hne⟩, fun b hb => ?_⟩
    · have e1 : ((i + 1 : Nat) : Int) = (i : Int) + 1 := by omega
      rw [e1]; exact he'
    · have hb' : b < s.heap.objs.size := by
        have e' : b = e ∨ b = it := by simpa using hb
        rcases e' with z | z
        · rw [z]; exact hel
        · rw [z]; exact hil
      rw [upd_ne (Nat.ne_of_lt hb')]
      exact (hf b hb).1
  done := by
    intro X hP hw hK hc i pins s σ H E I hf st hg
    subst hP hw hK
    obtain ⟨⟨old, he⟩, hit, hne⟩ := st
    obtain ⟨xs, hq, hx⟩ := hg
    obtain ⟨its, rv, p, hz⟩ := I.tuple hq
    obtain ⟨f0, f1, f2, f3, f4, f5⟩ := hf it (by simp)
    have hl := rv.length
    have hai : a ≠ it := by
      rintro rfl
      obtain ⟨o, ho, hc, _⟩ := p
      obtain ⟨o2, ho2, hc2, _⟩ := hit
      rw [ho] at ho2
      rw [Option.some.inj ho2, hc2] at hc
      injection hc with z
      exact absurd z (by decide)
    have hin : i = its.toArray.size := by
      rw [List.size_toArray, ← hl]
      exact hx.symm
    subst hin
    exact wpAny_pyNext_enum_endD (Draws.tuple (A := X.A.in1) (I.ok.hd hc) it a hai its.toArray) he ⟨hit, p⟩ fun h' eb => ⟨rfl, I.turned (t' := s.toks) (fun b o hb q => eb b o hb q) f0 f1 f3 f4 f5⟩
  self := fun A i s Q E st h => let ⟨⟨_, he⟩, _⟩ := st; wpAny_pyIter_enum he h
end Hen
namespace Hk
open PySem PySem.Spec PyProof.Rows L2 Hen
def iEnumT (K : Fr) (ta : TA) : TI := fun σ H R => ta σ H fun vs H1 => ∃ a xs, vs = [.ref a] ∧ SqT K H1 a xs ∧ R (IteT K a) H1
theorem pi_enumT {X : Cx} {e : Expr} {ta : TA} {p pos tpos : Pos} {elts : List Expr} {kk : Nat} (hg : Gl X "enumerate") (hm : X.mg "enumerate" = none) (ha : PA X [e] ta) (hs : starEach [e] X.env = [(false, eval e X.env)] := by rfl) :
    PI X (.Tuple elts kk tpos) (.Call (.Name "enumerate" p) [e] [] pos) (iEnumT X.K ta) := by
  refine ⟨fun pins s σ H R I h => ?_⟩
  refine Call_ (ld_blt I hg hm boot_enumerate (PyProof.Rows.callWith_type1 (thn (ha.run pos pins s σ H _ I h) fun us s1 ⟨vs, H1, I1, r1, q1⟩ => ?_) hs rfl))
  obtain ⟨a, xs, ex, hq, q⟩ := q1
  subst ex
  rw [Vals.ref1 r1]
  obtain ⟨its, rv, p', hz⟩ := I1.tuple hq
  refine call_enumT (show s1.heap.IsTuple a its.toArray from p') fun h' he hit hk => wpAny_pyIter_enum he ?_
  have I2 : Inv X pins σ H1 { s1 with heap := h' } := I1.kept (t' := s1.toks) hk
  refine ⟨s1.heap.objs.size + 1, [s1.heap.objs.size + 1, s1.heap.objs.size], _, _, H1, rfl, I2, turn_enumT a (s1.heap.objs.size + 1) s1.heap.objs.size, ⟨⟨.none, he⟩, hit, Nat.succ_ne_self _⟩, fun b hb => ?_, q⟩
  have e' : b = s1.heap.objs.size + 1 ∨ b = s1.heap.objs.size := by simpa using hb
  have hle : s1.heap.objs.size ≤ b := by
    rcases e' with z | z
    · rw [z]; exact Nat.le_add_right _ _
    · rw [z]; exact Nat.le_refl _
  exact I1.fpOk hle (I1.hok.fresh hle)
end Hk

namespace K11
open PySem PySem.Spec PyProof.Rows L2 Hk NumM NumT SX
theorem str_assoc (x y z : Str) : x ++ y ++ z = x ++ (y ++ z) := by
  rw [← S_tl x, ← S_tl y, ← S_tl z]
  show S _ ++ S _ ++ S _ = S _ ++ (S _ ++ S _)
  rw [S_cat, S_cat, S_cat, S_cat, List.append_assoc]
theorem join2 (a b : Str) : Str.join (", " : Str) [a, b] = a ++ (", " : Str) ++ b := by
  show a ++ (", " : Str) ++ b = _
  rfl
theorem tell_times (t b : Int) (x : Tree) : wrS "times" [S (fL t b), x.tell] = (Tree.times t b x).tell := by
  unfold wrS
  rw [join2, Tree.tell]
  have e : ("times" : Str) ++ ("(" : Str) = ("times(" : Str) := by decide +kernel
  rw [e]
  simp only [str_assoc]
theorem tell_pair (w : Nat) (x : Tree) (n : Int) : wrS (wordOf w) [x.tell, S (iL n)] = (Tree.pair w x n).tell := by
  unfold wrS
  rw [join2, Tree.tell]
  simp only [str_assoc]
theorem tell_sums (ts : List Tree) : wrS "sum" (ts.map Tree.tell) = (Tree.sum ts).tell := by
  unfold wrS
  rw [tell_sum]
  have e : ("sum" : Str) ++ ("(" : Str) = ("sum(" : Str) := by decide +kernel
  rw [e]
section
variable {P : Program} {w : World} {K : Fr} {mg : Str → Option Value} {base : Heap}
theorem sg_eq (t : Tree) (tp : Addr) (am : V) : sgI t.tell tp am t.kids = sgF t tp am := by
  unfold sgI sgF
  rw [← parts_eq, ← deep_eq]
theorem sig_made {H H' : Hp} {d : Nat} {t : Tree} {x dx tp : Addr} {am : V} {xs : List Addr} (hx : H x = some (.ins (CT K t) dx [])) (ht : H tp = some (.tup (xs.map V.ref))) (sg : SigsAt K H d t.kids xs) (n5 : t.kids.length ≤ 5) (ne : t.kids = [] → ∃ l, t = .name l) (tl : t.tell.length ≤ 1000000) (s : Same H H') :
    SigAt K (upd H' x (.ins (CT K t) dx (sgI t.tell tp am t.kids))) (d + 1) t x := by
  have hx' := s _ _ hx
  have ht' := s _ _ ht
  refine .mk (dx := dx) (tp := tp) (am := am) (xs := xs) (by rw [upd_same, sg_eq]) ?_ sg.1 n5 ne tl fun i y c h1 h2 => ?_
  · rw [upd_ne (ne_of ht' hx' (by intro z; exact nomatch z))]
    exact ht'
  · refine ((sg.2 i y c h1 h2).same s).kp fun b o h _ ni => ?_
    rw [upd_ne (fun z => by
      subst z
      rw [hx'] at h
      exact ni _ _ (Option.some.inj h).symm)]
    exact h
theorem old_made {H H' : Hp} {x : Addr} {o : HO} (s : Same H H') : Old x H (upd H' x o) := fun b u h n => by
  rw [upd_ne n]
  exact s _ _ h
def spNmI (K : Fr) : Sp := fun vs H Q _ => ∃ (x dx : Addr) (l : List Nat), vs = [.ref x, .str (S l)] ∧ H x = some (.ins (He.ga K "Name") dx []) ∧ Nm l ∧ ∀ H', Old x H H' → (∀ d, SigAt K H' (d + 1) (.name l) x) → Q .non H'
theorem f_nminit (T : Tx K mg) : ∃ fd, DAt K d_Name_init fd ∧ FnOk P w K mg base CX0 4 (d_Name_init.ad K) fd ["self", "name"] (spNmI K) := by
  obtain ⟨fd, D⟩ := a_Name_init T.c
  have C_is_name := c_isname (P := P) (w := w) (base := base) T
  obtain ⟨fi, Di, Fi⟩ := f_sginit (P := P) (w := w) (base := base) T
  have bi : Binds K fi ["self", "text", "inside", "amount"] [] := FunD.bindsN Di fun _ _ _ _ _ _ us hl => match us, hl with | [_, _, _, _], _ => rfl
  refine ⟨fd, D, ok_of (k := 3) (N := ["self", "name"]) D sc_Name_init (fun vs H Q E h => ?_) (fun cdv A outer s H vs Q E hr h => ?_)⟩
  · obtain ⟨x, dx, l, rfl, _⟩ := h
    rfl
  · obtain ⟨x, dx, l, rfl, hx, nm, k⟩ := h
    refine ⟨_, (pss_cons (ps_if (pt_not (pt_val (pe_c C_is_name (hr.mono (by decide)) (pa_cons (pv 1) pa_nil))))
 (pss_one ps_never)
 pss_nil)
 (pss_one (ps_expr (pe_unb (pe_glob (v := .ref (gAd "Signal" K)) rfl (g_Signal T) rfl) (unb_ok (f_unb T.c)) Fi bi hr (pa_cons (pv 0) (pa_cons (pv 1) (pa_cons (pe_tup pa_nil) (pa_cons pe_non pa_nil)))))))), ?_⟩
    have hi := nm.hi
    refine ⟨_, rfl, l, rfl, nm, fun H1 s1 => ⟨true, rfl, iteF ?_⟩⟩
    refine ⟨rfl, _, rfl, _, rfl, (by show 0 ≤ sizeLine; decide), fun tp ntp => ?_⟩
    have hx1 : (upd H1 tp (.tup [])) x = some (.ins (He.ga K "Name") dx []) := same_upd ntp _ _ (s1 _ _ hx)
    have tl : (Tree.name l).tell.length ≤ 1000000 := by
      rw [Tree.tell, S_len]
      omega
    refine ⟨0, x, dx, tp, _, S l, .non, [], [], rfl, hx1, cl_of T (.name l), fun f hf => na_of T (.name l) hf, upd_same, ⟨rfl, fun i y c h => by simp at h⟩, by decide, by decide, by decide, fun H2 s2 => ?_⟩
    refine k _ (fun b u h n => ?_) fun d => ?_
    · rw [upd_ne n]
      exact s2 _ _ (same_upd ntp _ _ (s1 _ _ h))
    · have e : (Tree.name l).tell = S l := by rw [Tree.tell]
      have z := sig_made (K := K) (d := d) (t := .name l) (x := x) (dx := dx) (tp := tp) (am := .non) (xs := []) hx1 upd_same ⟨rfl, fun i y c h => by simp at h⟩ (by show (0 : Nat) ≤ 5; decide) (fun _ => ⟨l, rfl⟩) tl s2
      rw [e] at z
      exact z
end
end K11

namespace K11
open PySem PySem.Spec PyProof.Rows L2 Hk NumM NumT SX
section
variable {P : Program} {w : World} {K : Fr} {mg : Str → Option Value} {base : Heap}
theorem ga_times (t b : Int) (c : Tree) : CT K (.times t b c) = He.ga K "Times" := rfl
/-- the classes with a signal and a number (w: which) -/
def spPrI (K : Fr) (w : Nat) (y : Str) : Sp := fun vs H Q _ => ∃ (d : Nat) (x dx c : Addr) (t : Tree) (n : Int), vs = [.ref x, .ref c, .int n] ∧ H x = some (.ins (He.ga K y) dx []) ∧ SigAt K H d t c ∧ 0 ≤ n ∧ n ≤ 6 ∧ (w < 2 → 1 ≤ n) ∧
  t.parts ≤ 11 ∧ t.deep ≤ 4 ∧ (Tree.pair w t n).tell.length ≤ 1000000 ∧ ∀ H', Old x H H' → SigAt K H' (d + 1) (.pair w t n) x → Q .non H'
theorem one_sum {t : Tree} (h : t.parts ≤ 11) : 1 + (([t] : List Tree).map Tree.parts).sum ≤ 12 := by
  simp
  omega
theorem one_max {t : Tree} (h : t.deep ≤ 4) : 1 + maxL (([t] : List Tree).map Tree.deep) ≤ 5 := by
  simp [maxL]
  omega
theorem sigs_one {H : Hp} {d : Nat} {t : Tree} {c : Addr} (h : SigAt K H d t c) : SigsAt K H d [t] [c] := ⟨rfl, fun i y u h1 h2 => by
  cases i with
  | zero =>
    cases h1
    cases h2
    exact h
  | succ i => simp at h1⟩
theorem f_ltinit (T : Tx K mg) : ∃ fd, DAt K d_Late_init fd ∧ FnOk P w K mg base CX0 5 (d_Late_init.ad K) fd ["self", "signal", "count"] (spPrI K 2 "Late") := by
  obtain ⟨fd, D⟩ := a_Late_init T.c
  have C_is_between := c_between (P := P) (w := w) (base := base) T
  have C_written := c_wr (P := P) (w := w) (base := base) T
  obtain ⟨fi, Di, Fi⟩ := f_sginit (P := P) (w := w) (base := base) T
  have bi : Binds K fi ["self", "text", "inside", "amount"] [] := FunD.bindsN Di fun _ _ _ _ _ _ us hl => match us, hl with | [_, _, _, _], _ => rfl
  obtain ⟨kL, iL⟩ := i_MAX_DELAY T
  refine ⟨fd, D, ok_of (k := 4) (N := ["self", "signal", "count"]) D sc_Late_init (fun vs H Q E h => ?_) (fun cdv A outer s H vs Q E hr h => ?_)⟩
  · obtain ⟨d, x, dx, c, t, n, rfl, _⟩ := h
    rfl
  · obtain ⟨d, x, dx, c, t, n, rfl, hx, sg, n0, n6, n1, p11, d4, tl, k⟩ := h
    have hr2 : Room 2 _ := hr.mono (by decide)
    have hr3 : Room 3 _ := hr.mono (by decide)
    refine ⟨_, (pss_cons (ps_if (pt_not (pt_val (pe_callB call_isi (by rfl) (n_isinstance T) bo_isinstance (pa_cons (pv 1) (pa_cons (pe_glob (v := .ref (gAd "Signal" K)) rfl (g_Signal T) rfl) pa_nil)))))
 (pss_one ps_never)
 pss_nil)
 (pss_cons (ps_if (pt_not (pt_val (pe_c C_is_between hr2 (pa_cons (pv 2) (pa_cons pe_int (pa_cons (pe_glob (v := .int 6) rfl iL ⟨_, rfl⟩) pa_nil))))))
 (pss_one ps_never)
 pss_nil)
 (pss_one (ps_expr (pe_unb (pe_glob (v := .ref (gAd "Signal" K)) rfl (g_Signal T) rfl) (unb_ok (f_unb T.c)) Fi bi hr3 (pa_cons (pv 0) (pa_cons (pe_c C_written hr (pa_cons (pe_icon (pv 0)) (pa_cons (pe_tup (pa_cons (pv 1) (pa_cons (pv 2) pa_nil))) pa_nil))) (pa_cons (pe_tup (pa_cons (pv 1) pa_nil)) (pa_cons (pv 2) pa_nil))))))))), ?_⟩
    refine ⟨_, rfl, _, _, _, _, true, rfl, .own _, .base (ty_sig T sg), kit_sig T t, true, rfl, iteF ?_⟩
    refine ⟨_, rfl, n, _, 6, rfl, n0, n6, true, rfl, iteF ?_⟩
    have cx : Cls K (He.ga K "Late") := cl_of T (.pair 2 t n)
    refine ⟨rfl, _, rfl, _, rfl, _, x, dx, [], _, rfl, hx, rfl, cx, sub_icon (sub_of T (.pair 2 t n)), _, rfl, _, rfl, (by show 2 ≤ sizeLine; decide), fun q nq => ?_⟩
    have s1 : Same H (upd H q (.tup [.ref c, .int n])) := same_upd nq
    have sn : Sz n := Nat.lt_of_le_of_lt (show n.natAbs ≤ 6 by omega) (by decide +kernel)
    have tw : wrS (wordOf 2) [t.tell, S (NumT.iL n)] = (Tree.pair 2 t n).tell := tell_pair 2 t n
    refine ⟨wordOf 2, q, [.ref c, .int n], [t.tell, S (NumT.iL n)], rfl, upd_same, rfl, by show (2 : Nat) ≤ 5; decide, fun i v s h1 h2 => ?_, by rw [tw]; exact tl, fun H2 s2 => ?_⟩
    · match i, h1, h2 with
      | 0, h1, h2 =>
        cases h1
        cases h2
        exact .sig (sg.same s1)
      | 1, h1, h2 =>
        cases h1
        cases h2
        exact .int sn
      | i + 2, h1, h2 => simp at h1
    · refine ⟨_, rfl, (by show 1 ≤ sizeLine; decide), fun tp ntp => ?_⟩
      have s3 : Same H (upd H2 tp (.tup [.ref c])) := (s1.trans s2).trans (same_upd ntp)
      rw [tw]
      refine ⟨_, rfl, d, x, dx, tp, _, _, _, [t], [c], rfl, s3 _ _ hx, cx, fun f hf => na_of T (.pair 2 t n) hf, upd_same, sigs_one (sg.same s3), by show (1 : Nat) ≤ 5; decide, one_sum p11, one_max d4, fun H3 s4 => ?_⟩
      refine k _ (fun b u h m => ?_) ?_
      · rw [upd_ne m]
        exact s4 _ _ (s3 _ _ h)
      · exact sig_made (K := K) (d := d) (t := .pair 2 t n) (x := x) (dx := dx) (tp := tp) (am := .int n) (xs := [c]) (s3 _ _ hx) upd_same (sigs_one (sg.same s3)) (by show (1 : Nat) ≤ 5; decide) (fun z => by simp [Tree.kids] at z) tl s4
theorem f_evinit (T : Tx K mg) : ∃ fd, DAt K d_Every_init fd ∧ FnOk P w K mg base CX0 5 (d_Every_init.ad K) fd ["self", "signal", "step"] (spPrI K 0 "Every") := by
  obtain ⟨fd, D⟩ := a_Every_init T.c
  have C_is_between := c_between (P := P) (w := w) (base := base) T
  have C_written := c_wr (P := P) (w := w) (base := base) T
  obtain ⟨fi, Di, Fi⟩ := f_sginit (P := P) (w := w) (base := base) T
  have bi : Binds K fi ["self", "text", "inside", "amount"] [] := FunD.bindsN Di fun _ _ _ _ _ _ us hl => match us, hl with | [_, _, _, _], _ => rfl
  obtain ⟨kL, iL⟩ := i_MAX_STEP T
  refine ⟨fd, D, ok_of (k := 4) (N := ["self", "signal", "step"]) D sc_Every_init (fun vs H Q E h => ?_) (fun cdv A outer s H vs Q E hr h => ?_)⟩
  · obtain ⟨d, x, dx, c, t, n, rfl, _⟩ := h
    rfl
  · obtain ⟨d, x, dx, c, t, n, rfl, hx, sg, n0, n6, n1, p11, d4, tl, k⟩ := h
    have hr2 : Room 2 _ := hr.mono (by decide)
    have hr3 : Room 3 _ := hr.mono (by decide)
    refine ⟨_, (pss_cons (ps_if (pt_not (pt_val (pe_callB call_isi (by rfl) (n_isinstance T) bo_isinstance (pa_cons (pv 1) (pa_cons (pe_glob (v := .ref (gAd "Signal" K)) rfl (g_Signal T) rfl) pa_nil)))))
 (pss_one ps_never)
 pss_nil)
 (pss_cons (ps_if (pt_not (pt_val (pe_c C_is_between hr2 (pa_cons (pv 2) (pa_cons pe_int (pa_cons (pe_glob (v := .int 6) rfl iL ⟨_, rfl⟩) pa_nil))))))
 (pss_one ps_never)
 pss_nil)
 (pss_one (ps_expr (pe_unb (pe_glob (v := .ref (gAd "Signal" K)) rfl (g_Signal T) rfl) (unb_ok (f_unb T.c)) Fi bi hr3 (pa_cons (pv 0) (pa_cons (pe_c C_written hr (pa_cons (pe_icon (pv 0)) (pa_cons (pe_tup (pa_cons (pv 1) (pa_cons (pv 2) pa_nil))) pa_nil))) (pa_cons (pe_tup (pa_cons (pv 1) pa_nil)) (pa_cons (pv 2) pa_nil))))))))), ?_⟩
    refine ⟨_, rfl, _, _, _, _, true, rfl, .own _, .base (ty_sig T sg), kit_sig T t, true, rfl, iteF ?_⟩
    refine ⟨_, rfl, n, _, 6, rfl, n1 (by decide), n6, true, rfl, iteF ?_⟩
    have cx : Cls K (He.ga K "Every") := cl_of T (.pair 0 t n)
    refine ⟨rfl, _, rfl, _, rfl, _, x, dx, [], _, rfl, hx, rfl, cx, sub_icon (sub_of T (.pair 0 t n)), _, rfl, _, rfl, (by show 2 ≤ sizeLine; decide), fun q nq => ?_⟩
    have s1 : Same H (upd H q (.tup [.ref c, .int n])) := same_upd nq
    have sn : Sz n := Nat.lt_of_le_of_lt (show n.natAbs ≤ 6 by omega) (by decide +kernel)
    have tw : wrS (wordOf 0) [t.tell, S (NumT.iL n)] = (Tree.pair 0 t n).tell := tell_pair 0 t n
    refine ⟨wordOf 0, q, [.ref c, .int n], [t.tell, S (NumT.iL n)], rfl, upd_same, rfl, by show (2 : Nat) ≤ 5; decide, fun i v s h1 h2 => ?_, by rw [tw]; exact tl, fun H2 s2 => ?_⟩
    · match i, h1, h2 with
      | 0, h1, h2 =>
        cases h1
        cases h2
        exact .sig (sg.same s1)
      | 1, h1, h2 =>
        cases h1
        cases h2
        exact .int sn
      | i + 2, h1, h2 => simp at h1
    · refine ⟨_, rfl, (by show 1 ≤ sizeLine; decide), fun tp ntp => ?_⟩
      have s3 : Same H (upd H2 tp (.tup [.ref c])) := (s1.trans s2).trans (same_upd ntp)
      rw [tw]
      refine ⟨_, rfl, d, x, dx, tp, _, _, _, [t], [c], rfl, s3 _ _ hx, cx, fun f hf => na_of T (.pair 0 t n) hf, upd_same, sigs_one (sg.same s3), by show (1 : Nat) ≤ 5; decide, one_sum p11, one_max d4, fun H3 s4 => ?_⟩
      refine k _ (fun b u h m => ?_) ?_
      · rw [upd_ne m]
        exact s4 _ _ (s3 _ _ h)
      · exact sig_made (K := K) (d := d) (t := .pair 0 t n) (x := x) (dx := dx) (tp := tp) (am := .int n) (xs := [c]) (s3 _ _ hx) upd_same (sigs_one (sg.same s3)) (by show (1 : Nat) ≤ 5; decide) (fun z => by simp [Tree.kids] at z) tl s4
theorem f_spinit (T : Tx K mg) : ∃ fd, DAt K d_Spread_init fd ∧ FnOk P w K mg base CX0 5 (d_Spread_init.ad K) fd ["self", "signal", "step"] (spPrI K 1 "Spread") := by
  obtain ⟨fd, D⟩ := a_Spread_init T.c
  have C_is_between := c_between (P := P) (w := w) (base := base) T
  have C_written := c_wr (P := P) (w := w) (base := base) T
  obtain ⟨fi, Di, Fi⟩ := f_sginit (P := P) (w := w) (base := base) T
  have bi : Binds K fi ["self", "text", "inside", "amount"] [] := FunD.bindsN Di fun _ _ _ _ _ _ us hl => match us, hl with | [_, _, _, _], _ => rfl
  obtain ⟨kL, iL⟩ := i_MAX_STEP T
  refine ⟨fd, D, ok_of (k := 4) (N := ["self", "signal", "step"]) D sc_Spread_init (fun vs H Q E h => ?_) (fun cdv A outer s H vs Q E hr h => ?_)⟩
  · obtain ⟨d, x, dx, c, t, n, rfl, _⟩ := h
    rfl
  · obtain ⟨d, x, dx, c, t, n, rfl, hx, sg, n0, n6, n1, p11, d4, tl, k⟩ := h
    have hr2 : Room 2 _ := hr.mono (by decide)
    have hr3 : Room 3 _ := hr.mono (by decide)
    refine ⟨_, (pss_cons (ps_if (pt_not (pt_val (pe_callB call_isi (by rfl) (n_isinstance T) bo_isinstance (pa_cons (pv 1) (pa_cons (pe_glob (v := .ref (gAd "Signal" K)) rfl (g_Signal T) rfl) pa_nil)))))
 (pss_one ps_never)
 pss_nil)
 (pss_cons (ps_if (pt_not (pt_val (pe_c C_is_between hr2 (pa_cons (pv 2) (pa_cons pe_int (pa_cons (pe_glob (v := .int 6) rfl iL ⟨_, rfl⟩) pa_nil))))))
 (pss_one ps_never)
 pss_nil)
 (pss_one (ps_expr (pe_unb (pe_glob (v := .ref (gAd "Signal" K)) rfl (g_Signal T) rfl) (unb_ok (f_unb T.c)) Fi bi hr3 (pa_cons (pv 0) (pa_cons (pe_c C_written hr (pa_cons (pe_icon (pv 0)) (pa_cons (pe_tup (pa_cons (pv 1) (pa_cons (pv 2) pa_nil))) pa_nil))) (pa_cons (pe_tup (pa_cons (pv 1) pa_nil)) (pa_cons (pv 2) pa_nil))))))))), ?_⟩
    refine ⟨_, rfl, _, _, _, _, true, rfl, .own _, .base (ty_sig T sg), kit_sig T t, true, rfl, iteF ?_⟩
    refine ⟨_, rfl, n, _, 6, rfl, n1 (by decide), n6, true, rfl, iteF ?_⟩
    have cx : Cls K (He.ga K "Spread") := cl_of T (.pair 1 t n)
    refine ⟨rfl, _, rfl, _, rfl, _, x, dx, [], _, rfl, hx, rfl, cx, sub_icon (sub_of T (.pair 1 t n)), _, rfl, _, rfl, (by show 2 ≤ sizeLine; decide), fun q nq => ?_⟩
    have s1 : Same H (upd H q (.tup [.ref c, .int n])) := same_upd nq
    have sn : Sz n := Nat.lt_of_le_of_lt (show n.natAbs ≤ 6 by omega) (by decide +kernel)
    have tw : wrS (wordOf 1) [t.tell, S (NumT.iL n)] = (Tree.pair 1 t n).tell := tell_pair 1 t n
    refine ⟨wordOf 1, q, [.ref c, .int n], [t.tell, S (NumT.iL n)], rfl, upd_same, rfl, by show (2 : Nat) ≤ 5; decide, fun i v s h1 h2 => ?_, by rw [tw]; exact tl, fun H2 s2 => ?_⟩
    · match i, h1, h2 with
      | 0, h1, h2 =>
        cases h1
        cases h2
        exact .sig (sg.same s1)
      | 1, h1, h2 =>
        cases h1
        cases h2
        exact .int sn
      | i + 2, h1, h2 => simp at h1
    · refine ⟨_, rfl, (by show 1 ≤ sizeLine; decide), fun tp ntp => ?_⟩
      have s3 : Same H (upd H2 tp (.tup [.ref c])) := (s1.trans s2).trans (same_upd ntp)
      rw [tw]
      refine ⟨_, rfl, d, x, dx, tp, _, _, _, [t], [c], rfl, s3 _ _ hx, cx, fun f hf => na_of T (.pair 1 t n) hf, upd_same, sigs_one (sg.same s3), by show (1 : Nat) ≤ 5; decide, one_sum p11, one_max d4, fun H3 s4 => ?_⟩
      refine k _ (fun b u h m => ?_) ?_
      · rw [upd_ne m]
        exact s4 _ _ (s3 _ _ h)
      · exact sig_made (K := K) (d := d) (t := .pair 1 t n) (x := x) (dx := dx) (tp := tp) (am := .int n) (xs := [c]) (s3 _ _ hx) upd_same (sigs_one (sg.same s3)) (by show (1 : Nat) ≤ 5; decide) (fun z => by simp [Tree.kids] at z) tl s4
end
end K11

namespace K11
open PySem PySem.Spec PyProof.Rows L2 Hk NumM NumT SX
section
variable {P : Program} {w : World} {K : Fr} {mg : Str → Option Value} {base : Heap}
def spTmI (K : Fr) : Sp := fun vs H Q _ => ∃ (d : Nat) (x dx c : Addr) (t : Tree) (y : V) (u b : Int), vs = [.ref x, y, .ref c] ∧ H x = some (.ins (He.ga K "Times") dx []) ∧ Opd (CN K) H y u b ∧ GainOk u b ∧ SigAt K H d t c ∧
  t.parts ≤ 11 ∧ t.deep ≤ 4 ∧ (Tree.times u b t).tell.length ≤ 1000000 ∧ ∀ H', Old x H H' → SigAt K H' (d + 1) (.times u b t) x → Q .non H'
theorem f_tminit (T : Tx K mg) : ∃ fd, DAt K d_Times_init fd ∧ FnOk P w K mg base CX0 6 (d_Times_init.ad K) fd ["self", "number", "signal"] (spTmI K) := by
  obtain ⟨fd, D⟩ := a_Times_init T.c
  have C_is_gain := c_isgain (P := P) (w := w) (base := base) T
  have C_as_number := c_asnum (P := P) (w := w) (base := base) T
  have C_written := c_wr (P := P) (w := w) (base := base) T
  obtain ⟨fi, Di, Fi⟩ := f_sginit (P := P) (w := w) (base := base) T
  have bi : Binds K fi ["self", "text", "inside", "amount"] [] := FunD.bindsN Di fun _ _ _ _ _ _ us hl => match us, hl with | [_, _, _, _], _ => rfl
  refine ⟨fd, D, ok_of (k := 5) (N := ["self", "number", "signal", "gain"]) D sc_Times_init (fun vs H Q E h => ?_) (fun cdv A outer s H vs Q E hr h => ?_)⟩
  · obtain ⟨d, x, dx, c, t, y, u, b, rfl, _⟩ := h
    rfl
  · obtain ⟨d, x, dx, c, t, y, u, b, rfl, hx, o, g, sg, p11, d4, tl, k⟩ := h
    have hr4 : Room 4 _ := hr.mono (by decide)
    have hr3 : Room 3 _ := hr.mono (by decide)
    refine ⟨_, (pss_cons (ps_if (pt_not (pt_val (pe_c C_is_gain hr (pa_cons (pv 1) pa_nil))))
 (pss_one ps_never)
 pss_nil)
 (pss_cons (ps_if (pt_not (pt_val (pe_callB call_isi (by rfl) (n_isinstance T) bo_isinstance (pa_cons (pv 2) (pa_cons (pe_glob (v := .ref (gAd "Signal" K)) rfl (g_Signal T) rfl) pa_nil)))))
 (pss_one ps_never)
 pss_nil)
 (pss_cons (ps_set (i := 3) sc_Times_init.nd rfl (.inl rfl) (pe_c C_as_number hr4 (pa_cons (pv 1) pa_nil)))
 (pss_one (ps_expr (pe_unb (pe_glob (v := .ref (gAd "Signal" K)) rfl (g_Signal T) rfl) (unb_ok (f_unb T.c)) Fi bi hr3 (pa_cons (pv 0) (pa_cons (pe_c C_written hr4 (pa_cons (pe_icon (pv 0)) (pa_cons (pe_tup (pa_cons (pv 3) (pa_cons (pv 2) pa_nil))) pa_nil))) (pa_cons (pe_tup (pa_cons (pv 2) pa_nil)) (pa_cons (pv 3) pa_nil)))))))))), ?_⟩
    have sz := gain_sz g
    refine ⟨_, rfl, y, u, b, rfl, o, g, fun H1 s1 => ⟨true, rfl, iteF ?_⟩⟩
    refine ⟨_, rfl, _, _, _, _, true, rfl, .own _, .base (ty_sig T (sg.same s1)), kit_sig T t, true, rfl, iteF ?_⟩
    refine ⟨_, rfl, y, u, b, rfl, o.same s1, sz.1, fun H2 gp s2 N => ?_⟩
    have s12 := s1.trans s2
    have cx : Cls K (He.ga K "Times") := cl_of T (.times u b t)
    refine ⟨rfl, _, rfl, _, rfl, _, x, dx, [], _, rfl, s12 _ _ hx, rfl, cx, sub_icon (sub_of T (.times u b t)), _, rfl, _, rfl, (by show 2 ≤ sizeLine; decide), fun q nq => ?_⟩
    have s3 : Same H (upd H2 q (.tup [.ref gp, .ref c])) := s12.trans (same_upd nq)
    have tw : wrS "times" [S (fL u b), t.tell] = (Tree.times u b t).tell := tell_times u b t
    refine ⟨"times", q, [.ref gp, .ref c], [S (fL u b), t.tell], rfl, upd_same, rfl, by show (2 : Nat) ≤ 5; decide, fun i v s h1 h2 => ?_, by rw [tw]; exact tl, fun H3 s4 => ?_⟩
    · match i, h1, h2 with
      | 0, h1, h2 =>
        cases h1
        cases h2
        exact .num (N.same (same_upd nq)) sz.1 sz.2
      | 1, h1, h2 =>
        cases h1
        cases h2
        exact .sig (sg.same s3)
      | i + 2, h1, h2 => simp at h1
    · refine ⟨_, rfl, (by show 1 ≤ sizeLine; decide), fun tp ntp => ?_⟩
      have s5 : Same H (upd H3 tp (.tup [.ref c])) := (s3.trans s4).trans (same_upd ntp)
      rw [tw]
      refine ⟨_, rfl, d, x, dx, tp, _, _, _, [t], [c], rfl, s5 _ _ hx, cx, fun f hf => na_of T (.times u b t) hf, upd_same, sigs_one (sg.same s5), by show (1 : Nat) ≤ 5; decide, one_sum p11, one_max d4, fun H4 s6 => ?_⟩
      refine k _ (fun b' u' h m => ?_) ?_
      · rw [upd_ne m]
        exact s6 _ _ (s5 _ _ h)
      · exact sig_made (K := K) (d := d) (t := .times u b t) (x := x) (dx := dx) (tp := tp) (am := .ref gp) (xs := [c]) (s5 _ _ hx) upd_same (sigs_one (sg.same s5)) (by show (1 : Nat) ≤ 5; decide) (fun z => by simp [Tree.kids] at z) tl s6
end
end K11

namespace Hen
open PySem PySem.Spec PyProof.Rows L2
theorem walk_enumT {K : PySem.W.Frag} {a : Addr} {xs : List V} : Walk (IteT K a) xs.length (fun H => SqT K H a xs) (YPair (fun i => some (.int (i : Nat))) (fun i => xs[i]?)) := by
  refine ⟨fun i _ hi q => ⟨xs, xs[i], q, by simp [hi]⟩, fun _ q => ⟨xs, q, rfl⟩, fun i H v H' _ q y => ?_⟩
  obtain ⟨T, x, h1, h2, h3, h4⟩ := y
  exact ⟨T, .int (i : Nat), x, h1, h2, h3, rfl, h4 xs q⟩
end Hen
namespace K11
open PySem PySem.Spec PyProof.Rows L2 Hk NumM NumT SX
section
variable {P : Program} {w : World} {K : Fr} {mg : Str → Option Value} {base : Heap}
def spSmI (K : Fr) : Sp := fun vs H Q _ => ∃ (d : Nat) (x dx tp : Addr) (ts : List Tree) (xs : List Addr), vs = [.ref x, .ref tp] ∧ H x = some (.ins (He.ga K "Sum") dx []) ∧ H tp = some (.tup (xs.map V.ref)) ∧ SigsAt K H d ts xs ∧ 1 ≤ ts.length ∧ ts.length ≤ 5 ∧
  1 + (ts.map Tree.parts).sum ≤ 12 ∧ 1 + maxL (ts.map Tree.deep) ≤ 5 ∧ (Tree.sum ts).tell.length ≤ 1000000 ∧ ∀ H', Old x H H' → SigAt K H' (d + 1) (.sum ts) x → Q .non H'
def spSmR (K : Fr) : Sp := fun vs H Q E => ∃ ws rest, vs = ws ++ rest ∧ ws.length = (["self"] : List Str).length ∧ rest.length ≤ sizeLine ∧ ∀ p, H p = Option.none → spSmI K (ws ++ [V.ref p]) (upd H p (.tup rest)) Q E
theorem f_sminit (T : Tx K mg) : FnR P w K mg base CX0 5 (d_Sum_init.ad K) (spSmR K) := by
  obtain ⟨fd, D⟩ := a_Sum_init T.c
  have C_written := c_wr (P := P) (w := w) (base := base) T
  obtain ⟨fi, Di, Fi⟩ := f_sginit (P := P) (w := w) (base := base) T
  have bi : Binds K fi ["self", "text", "inside", "amount"] [] := FunD.bindsN Di fun _ _ _ _ _ _ us hl => match us, hl with | [_, _, _, _], _ => rfl
  obtain ⟨kL, iL⟩ := i_MAX_TERMS T
  obtain ⟨oc, od, dV, kV, doc, pm, an, cdv, ct, osl, rfl, lk, hcd, hD, hK⟩ := D.ex
  rcases hD with ⟨_, rfl⟩ | ⟨e, _⟩
  rotate_left
  · exact absurd rfl e
  refine StX.fn_star (N := ["self", "terms", "index", "term"]) (ps := ["self"]) (pv := "terms") (k := 4) (sp := spSmI K) lk hcd sc_Sum_init StX.cxUp_none (fun us rest hl => match us, rest, hl with | [a], [], _ => rfl | [a], r :: rs, _ => rfl) (fun A outer s H vs Q E hr h => ?_)
  obtain ⟨d, x, dx, tp, ts, xs, rfl, hx, ht, sg, n1, n5, p12, d5, tl, k⟩ := h
  have hr3 : Room 3 _ := hr.mono (by decide)
  refine ⟨_, PSs.nox (pss_cons (ps_if (pt_not (pt_chain op_le op_le pe_int (pe_callB call_len_seq (by rfl) (n_len T) bo_len (pa_cons (pv 1) pa_nil)) (pe_glob (v := .int 5) rfl iL ⟨_, rfl⟩)))
 (pss_one ps_never)
 pss_nil)
 (pss_cons (ps_for PassesOwn.never rfl (pi_enumT rfl (n_enumerate T) (pa_cons (pv 1) pa_nil)) (pg_tup (by rfl) (pgs_cons (pg_name (i := 2) sc_Sum_init.nd rfl (.inl rfl)) (pgs_cons (pg_name (i := 3) sc_Sum_init.nd rfl (.inl rfl)) pgs_nil)))
 (pss_one (ps_if (pt_not (pt_val (pe_callB call_isi (by rfl) (n_isinstance T) bo_isinstance (pa_cons (pv 3) (pa_cons (pe_glob (v := .ref (gAd "Signal" K)) rfl (g_Signal T) rfl) pa_nil)))))
 (pss_one ps_never)
 pss_nil)))
 (pss_one (ps_expr (pe_unb (pe_glob (v := .ref (gAd "Signal" K)) rfl (g_Signal T) rfl) (unb_ok (f_unb T.c)) Fi bi hr3 (pa_cons (pv 0) (pa_cons (pe_c C_written hr (pa_cons (pe_icon (pv 0)) (pa_cons (pv 1) pa_nil))) (pa_cons (pv 1) (pa_cons pe_non pa_nil))))))))), ?_⟩
  have hl : (xs.map V.ref).length = ts.length := by
    rw [List.length_map]
    exact sg.1
  have sq : SqT K H tp (xs.map V.ref) := .inl (.inl ht)
  have cx : Cls K (He.ga K "Sum") := cl_of T (.sum ts)
  refine ⟨_, rfl, tp, _, rfl, .inr sq, 1, _, rfl, rfl, _, rfl, iteTd (by rw [hl]; omega) ?_⟩
  refine ⟨_, _, rfl, rfl, _, rfl, ?_⟩
  rw [decide_eq_true (by rw [hl]; omega)]
  refine iteF ?_
  refine ⟨_, rfl, tp, xs.map V.ref, rfl, sq, ?_⟩
  refine for_it Hen.walk_enumT (fun _ σ' H' => Same H H' ∧ ∃ a b : Option V, σ' = [some (.ref x), some (.ref tp), a, b]) ⟨Same.refl H, _, _, rfl⟩ (fun i σ' H' _ h => Same.tupT h.1 sq) ?_ ?_
  · rintro i v σ' H1 H2 hi ⟨s1, a, b, rfl⟩ ⟨T1, v1, y, rfl, nT, rfl, e1, e2⟩
    cases e1
    have e2 : (xs.map V.ref)[i]? = some y := e2
    rw [List.getElem?_map] at e2
    obtain ⟨y', h1, rfl⟩ := Option.map_eq_some_iff.mp e2
    have hi2 : i < ts.length := by rw [← hl]; exact hi
    have J := ((sg.2 i y' (ts[i]'hi2) h1 (List.getElem?_eq_getElem hi2)).same s1).same (same_upd (o := .tup [.int (i : Nat), .ref y']) nT)
    refine ⟨T1, _, rfl, .inl (.inl upd_same), rfl, _, _, rfl, _, _, rfl, rfl, ?_⟩
    refine ⟨_, rfl, _, _, _, _, true, rfl, .own _, .base (ty_sig T J), kit_sig T _, true, rfl, iteF ?_⟩
    exact ⟨s1.trans (same_upd nT), _, _, rfl⟩
  · rintro σ' H1 ⟨s1, a, b, rfl⟩
    have tw : wrS "sum" (ts.map Tree.tell) = (Tree.sum ts).tell := tell_sums ts
    refine ⟨rfl, _, rfl, _, rfl, _, x, dx, [], _, rfl, s1 _ _ hx, rfl, cx, sub_icon (sub_of T (.sum ts)), _, rfl, ?_⟩
    refine ⟨"sum", tp, xs.map V.ref, ts.map Tree.tell, rfl, s1 _ _ ht, by rw [hl, List.length_map], by rw [List.length_map]; exact n5, fun i v s h1 h2 => ?_, by rw [tw]; exact tl, fun H2 s2 => ?_⟩
    · rw [List.getElem?_map] at h1 h2
      obtain ⟨y', h3, rfl⟩ := Option.map_eq_some_iff.mp h1
      obtain ⟨c, h4, rfl⟩ := Option.map_eq_some_iff.mp h2
      exact .sig ((sg.2 i y' c h3 h4).same s1)
    · have s3 := s1.trans s2
      rw [tw]
      refine ⟨_, rfl, d, x, dx, tp, _, _, _, ts, xs, rfl, s3 _ _ hx, cx, fun f hf => na_of T (.sum ts) hf, s3 _ _ ht, sg.same s3, n5, p12, d5, fun H3 s4 => ?_⟩
      refine k _ (fun b' u' h m => ?_) ?_
      · rw [upd_ne m]
        exact s4 _ _ (s3 _ _ h)
      · exact sig_made (K := K) (d := d) (t := .sum ts) (x := x) (dx := dx) (tp := tp) (am := .non) (xs := xs) (s3 _ _ hx) (s3 _ _ ht) (sg.same s3) n5 (fun z => by
          have z2 : ts = [] := z
          rw [z2] at n1
          simp at n1) tl s4
end
end K11

namespace K11
open PySem PySem.Spec PyProof.Rows L2 Hk NumM NumT SX
theorem same_new {H : Hp} {x dx C : Addr} (nx : H x = none) (nd : H dx = none) : Same H (upd (upd H dx (.own x)) x (.ins C dx [])) := fun b u e => by
  rw [upd_ne (ne_of_none e nx), upd_ne (ne_of_none e nd)]
  exact e
theorem old_same {H H1 H' : Hp} {x : Addr} (nx : H x = none) (s : Same H H1) (o : Old x H1 H') : Same H H' := fun b u e => o b u (s b u e) (ne_of_none e nx)
section
variable {P : Program} {w : World} {K : Fr} {mg : Str → Option Value} {base : Heap}
theorem mkSm (T : Tx K mg) : Mk K (He.ga K "Sum") (d_Sum_init.ad K) := He.mkr_ok (sub_mkr (f_sub_Sum T.c))
/-- a new sum of these -/
theorem make_sum {H : Hp} {Q : VK} {d : Nat} {ts : List Tree} {xs : List Addr} (sg : SigsAt K H d ts xs) (n1 : 1 ≤ ts.length) (n5 : ts.length ≤ 5) (p12 : (Tree.sum ts).parts ≤ 12) (d5 : (Tree.sum ts).deep ≤ 5) (tl : (Tree.sum ts).tell.length ≤ 1000000)
    (k : ∀ p H', Same H H' → SigAt K H' (d + 1) (.sum ts) p → Q (.ref p) H') : ∀ x dx, H x = Option.none → H dx = Option.none → dx ≠ x →
    spSmR K (V.ref x :: xs.map V.ref) (upd (upd H dx (.own x)) x (.ins (He.ga K "Sum") dx [])) (fun v H2 => v = .non ∧ Q (.ref x) H2) E0 := by
  intro x dx nx nd ne
  have s1 := same_new (C := He.ga K "Sum") nx nd
  refine ⟨[.ref x], xs.map V.ref, rfl, rfl, by rw [List.length_map, sg.1]; exact big6 (by omega), fun p np => ?_⟩
  have s2 := s1.trans (same_upd (o := .tup (xs.map V.ref)) np)
  refine ⟨d, x, dx, p, ts, xs, rfl, same_upd np _ _ upd_same, upd_same, sg.same s2, n1, n5, ?_, ?_, tl, fun H' o sx => ⟨rfl, k x H' (old_same nx s2 o) sx⟩⟩
  · rw [parts_eq] at p12
    exact p12
  · rw [deep_eq] at d5
    exact d5
def spTot (K : Fr) : Sp := fun vs H Q _ => ∃ (d : Nat) (l : Addr) (ts : List Tree) (xs : List Addr), vs = [.ref l] ∧ H l = some (.lst (xs.map V.ref)) ∧ SigsAt K H d ts xs ∧ 1 ≤ ts.length ∧ ts.length ≤ 5 ∧ (Tree.sum ts).parts ≤ 12 ∧ (Tree.sum ts).deep ≤ 5 ∧ (Tree.sum ts).tell.length ≤ 1000000 ∧
  ∀ p H', Same H H' → SigAt K H' (d + 1) (.sum ts) p → Q (.ref p) H'
theorem c_total (T : Tx K mg) : Cal P w K mg base 7 "_law_total" (gAd "_law_total" K) ["_law_some"] (spTot K) := by
  have Fs := f_sminit (P := P) (w := w) (base := base) T
  refine cal_of (d := d_l_total) (N := ["_law_some"]) (a_l_total T.c) rfl sc_l_total (g_l_total T) (fun _ _ _ _ _ _ us hl => match us, hl with | [_], _ => rfl) (fun vs H Q E h => ?_) (fun cdv A outer s H vs Q E hr h => ?_)
  · obtain ⟨d, l, ts, xs, rfl, _⟩ := h
    rfl
  · obtain ⟨d, l, ts, xs, rfl, hL, sg, n1, n5, p12, d5, tl, k⟩ := h
    refine ⟨_, (pss_cons (ps_if (pt_cmpR op_eq (pe_callB call_len_seq (by rfl) (n_len T) bo_len (pa_cons (pv 0) pa_nil)) pe_int (nomark _))
 (pss_one (ps_ret (StX.pe_makeR (mkSm T) Fs hr rfl (g_Sum T) pass0 (pa_cons (pe_ix ix_list (pv 0) pe_int (fun _ _ => rfl)) pa_nil))))
 pss_nil)
 (pss_cons (ps_if (pt_cmpR op_eq (pe_callB call_len_seq (by rfl) (n_len T) bo_len (pa_cons (pv 0) pa_nil)) pe_int (nomark _))
 (pss_one (ps_ret (StX.pe_makeR (mkSm T) Fs hr rfl (g_Sum T) pass0 (pa_cons (pe_ix ix_list (pv 0) pe_int (fun _ _ => rfl)) (pa_cons (pe_ix ix_list (pv 0) pe_int (fun _ _ => rfl)) pa_nil)))))
 pss_nil)
 (pss_cons (ps_if (pt_cmpR op_eq (pe_callB call_len_seq (by rfl) (n_len T) bo_len (pa_cons (pv 0) pa_nil)) pe_int (nomark _))
 (pss_one (ps_ret (StX.pe_makeR (mkSm T) Fs hr rfl (g_Sum T) pass0 (pa_cons (pe_ix ix_list (pv 0) pe_int (fun _ _ => rfl)) (pa_cons (pe_ix ix_list (pv 0) pe_int (fun _ _ => rfl)) (pa_cons (pe_ix ix_list (pv 0) pe_int (fun _ _ => rfl)) pa_nil))))))
 pss_nil)
 (pss_cons (ps_if (pt_cmpR op_eq (pe_callB call_len_seq (by rfl) (n_len T) bo_len (pa_cons (pv 0) pa_nil)) pe_int (nomark _))
 (pss_one (ps_ret (StX.pe_makeR (mkSm T) Fs hr rfl (g_Sum T) pass0 (pa_cons (pe_ix ix_list (pv 0) pe_int (fun _ _ => rfl)) (pa_cons (pe_ix ix_list (pv 0) pe_int (fun _ _ => rfl)) (pa_cons (pe_ix ix_list (pv 0) pe_int (fun _ _ => rfl)) (pa_cons (pe_ix ix_list (pv 0) pe_int (fun _ _ => rfl)) pa_nil)))))))
 pss_nil)
 (pss_one (ps_ret (StX.pe_makeR (mkSm T) Fs hr rfl (g_Sum T) pass0 (pa_cons (pe_ix ix_list (pv 0) pe_int (fun _ _ => rfl)) (pa_cons (pe_ix ix_list (pv 0) pe_int (fun _ _ => rfl)) (pa_cons (pe_ix ix_list (pv 0) pe_int (fun _ _ => rfl)) (pa_cons (pe_ix ix_list (pv 0) pe_int (fun _ _ => rfl)) (pa_cons (pe_ix ix_list (pv 0) pe_int (fun _ _ => rfl)) pa_nil)))))))))))), ?_⟩
    have sq : SqL K H l (xs.map V.ref) := .inl (.inl hL)
    have mk := make_sum (Q := Q) sg n1 n5 p12 d5 tl k
    have hl := sg.1
    have len : ∀ m : Nat, (xs.map V.ref).length = m ↔ ts.length = m := fun m => by rw [List.length_map, hl]
    by_cases h1 : ts.length = 1
    · obtain ⟨y0, rfl⟩ : ∃ y0, xs = [y0] := by
        match xs, (show xs.length = 1 by omega) with
        | [y0], _ => exact ⟨y0, rfl⟩
      refine ⟨_, rfl, l, _, rfl, .inl sq, rfl, _, rfl, iteTd rfl ?_⟩
      exact ⟨_, rfl, l, _, 0, _, rfl, rfl, sq, rfl, mk⟩
    by_cases h2 : ts.length = 2
    · obtain ⟨y0, y1, rfl⟩ : ∃ y0 y1, xs = [y0, y1] := by
        match xs, (show xs.length = 2 by omega) with
        | [y0, y1], _ => exact ⟨y0, y1, rfl⟩
      refine ⟨_, rfl, l, _, rfl, .inl sq, rfl, _, rfl, iteFd (by simp) ?_⟩
      refine ⟨_, rfl, l, _, rfl, .inl sq, rfl, _, rfl, iteTd rfl ?_⟩
      exact ⟨_, rfl, l, _, 0, _, rfl, rfl, sq, rfl, _, rfl, l, _, 1, _, rfl, rfl, sq, rfl, mk⟩
    by_cases h3 : ts.length = 3
    · obtain ⟨y0, y1, y2, rfl⟩ : ∃ y0 y1 y2, xs = [y0, y1, y2] := by
        match xs, (show xs.length = 3 by omega) with
        | [y0, y1, y2], _ => exact ⟨y0, y1, y2, rfl⟩
      refine ⟨_, rfl, l, _, rfl, .inl sq, rfl, _, rfl, iteFd (by simp) ?_⟩
      refine ⟨_, rfl, l, _, rfl, .inl sq, rfl, _, rfl, iteFd (by simp) ?_⟩
      refine ⟨_, rfl, l, _, rfl, .inl sq, rfl, _, rfl, iteTd rfl ?_⟩
      exact ⟨_, rfl, l, _, 0, _, rfl, rfl, sq, rfl, _, rfl, l, _, 1, _, rfl, rfl, sq, rfl, _, rfl, l, _, 2, _, rfl, rfl, sq, rfl, mk⟩
    by_cases h4 : ts.length = 4
    · obtain ⟨y0, y1, y2, y3, rfl⟩ : ∃ y0 y1 y2 y3, xs = [y0, y1, y2, y3] := by
        match xs, (show xs.length = 4 by omega) with
        | [y0, y1, y2, y3], _ => exact ⟨y0, y1, y2, y3, rfl⟩
      refine ⟨_, rfl, l, _, rfl, .inl sq, rfl, _, rfl, iteFd (by simp) ?_⟩
      refine ⟨_, rfl, l, _, rfl, .inl sq, rfl, _, rfl, iteFd (by simp) ?_⟩
      refine ⟨_, rfl, l, _, rfl, .inl sq, rfl, _, rfl, iteFd (by simp) ?_⟩
      refine ⟨_, rfl, l, _, rfl, .inl sq, rfl, _, rfl, iteTd rfl ?_⟩
      exact ⟨_, rfl, l, _, 0, _, rfl, rfl, sq, rfl, _, rfl, l, _, 1, _, rfl, rfl, sq, rfl, _, rfl, l, _, 2, _, rfl, rfl, sq, rfl, _, rfl, l, _, 3, _, rfl, rfl, sq, rfl, mk⟩
    by_cases h5 : ts.length = 5
    · obtain ⟨y0, y1, y2, y3, y4, rfl⟩ : ∃ y0 y1 y2 y3 y4, xs = [y0, y1, y2, y3, y4] := by
        match xs, (show xs.length = 5 by omega) with
        | [y0, y1, y2, y3, y4], _ => exact ⟨y0, y1, y2, y3, y4, rfl⟩
      refine ⟨_, rfl, l, _, rfl, .inl sq, rfl, _, rfl, iteFd (by simp) ?_⟩
      refine ⟨_, rfl, l, _, rfl, .inl sq, rfl, _, rfl, iteFd (by simp) ?_⟩
      refine ⟨_, rfl, l, _, rfl, .inl sq, rfl, _, rfl, iteFd (by simp) ?_⟩
      refine ⟨_, rfl, l, _, rfl, .inl sq, rfl, _, rfl, iteFd (by simp) ?_⟩
      exact ⟨_, rfl, l, _, 0, _, rfl, rfl, sq, rfl, _, rfl, l, _, 1, _, rfl, rfl, sq, rfl, _, rfl, l, _, 2, _, rfl, rfl, sq, rfl, _, rfl, l, _, 3, _, rfl, rfl, sq, rfl, _, rfl, l, _, 4, _, rfl, rfl, sq, rfl, mk⟩
    omega
end
end K11

namespace K11
open PySem PySem.Spec PyProof.Rows L2 Hk NumM NumT SX
theorem old_seqL {K : Fr} {H H' : Hp} {a l : Addr} {xs : List V} (o : Old a H H') (ne : l ≠ a) (h : H l = some (.lst xs)) : SqL K H' l xs := .inl (.inl (o _ _ h ne))
theorem SigsAt.snoc {K : Fr} {H : Hp} {d : Nat} {ts : List Tree} {xs : List Addr} {t : Tree} {x : Addr} (h : SigsAt K H d ts xs) (k : SigAt K H d t x) : SigsAt K H d (ts ++ [t]) (xs ++ [x]) := by
  refine ⟨by simp [h.1], fun i y u h1 h2 => ?_⟩
  by_cases hi : i < ts.length
  · rw [List.getElem?_append_left (by rw [h.1]; exact hi)] at h1
    rw [List.getElem?_append_left hi] at h2
    exact h.2 i y u h1 h2
  · rw [List.getElem?_append_right (by have := h.1; omega)] at h1
    rw [List.getElem?_append_right (by omega)] at h2
    have e : i - xs.length = i - ts.length := by rw [h.1]
    rw [e] at h1
    cases q : i - ts.length with
    | zero =>
      rw [q] at h1 h2
      cases h1
      cases h2
      exact k
    | succ j =>
      rw [q] at h1
      simp at h1
theorem SigsAt.mv {K : Fr} {H H' : Hp} {d : Nat} {ts : List Tree} {xs : List Addr} (h : SigsAt K H d ts xs) (k : ∀ t x, SigAt K H d t x → SigAt K H' d t x) : SigsAt K H' d ts xs := ⟨h.1, fun i y u h1 h2 => k u y (h.2 i y u h1 h2)⟩
theorem lc_made {K : Fr} {a l D : Addr} {n d i : Nat} {ts : List Tree} {xs : List V} {te : TE} {σ : L2.St} {H1 : Hp} {Qd : Hp → Prop} (hlen : xs.length = ts.length) (nD : H1 D = none) (hL : H1 l = some (.lst xs)) (al : l ≠ a) (n5 : ts.length ≤ 5) (src : SrcAt a n H1)
    (hs : ∀ (j : Nat) (v : V) (c : Tree), xs[j]? = some v → ts[j]? = some c → ∀ (m : Nat) (H : Hp) (R : VK), Old a H1 H → SrcAt a m H → m + 2 * c.parts ≤ n + 2 * (ts.map Tree.parts).sum → (∀ p H', Old a H H' → SrcAt a (m + 2 * c.parts) H' → SigAt K H' d c p → R (.ref p) H') → te ((σ.set i none).set i (some v)) H R)
    (hd : ∀ H ps, Old a H1 H → SrcAt a (n + 2 * (ts.map Tree.parts).sum) H → H D = some (.lst (ps.map V.ref)) → SigsAt K H d ts ps → Qd H) :
    ∃ W : Nat → Nat → Hp → Prop, (∃ m, W 0 m (upd H1 D (.lst []))) ∧ ∀ j m H, W j m H →
      ((Itl K l).stop j H ∧ Qd H) ∨ ((Itl K l).go j H ∧ ∃ Nx : Hp → Prop, (∀ H', Nx H' → ∃ m', m' < m ∧ W (j + 1) m' H') ∧ ∀ x H', (Itl K l).yld j H x H' → gName i x (wipe σ [i]) H' fun σ2 H2 => wipe σ2 [i] = wipe σ [i] ∧ tYes σ2 H2 fun b H3 =>
        if b = true then te σ2 H3 fun y H4 => ∃ acc, H4 D = some (.lst acc) ∧ acc.length < sizeLine ∧ Nx (upd H4 D (.lst (acc ++ [y]))) else Nx H3) := by
  have ad : a ≠ D := src.ne nD
  have tk : ∀ j, ((ts.take j).map Tree.parts).sum ≤ (ts.map Tree.parts).sum := fun j => by
    have e : ts.map Tree.parts = (ts.take j).map Tree.parts ++ (ts.drop j).map Tree.parts := by rw [← List.map_append, List.take_append_drop]
    rw [e, List.sum_append]
    omega
  have oldD : ∀ {H : Hp} {o : HO}, Old a H1 H → Old a H1 (upd H D o) := fun {H o} s b u e ne => by
    rw [upd_ne (ne_of_none e nD)]
    exact s b u e ne
  refine lc_list (xs := xs) (fun j H => ∃ ps, Old a H1 H ∧ SrcAt a (n + 2 * ((ts.take j).map Tree.parts).sum) H ∧ H D = some (.lst (ps.map V.ref)) ∧ SigsAt K H d (ts.take j) ps) ⟨[], oldD (Old.refl a H1), by simpa using srcAt_put src ad, upd_same, rfl, fun i y c h => by simp at h⟩ (fun j H _ h => ?_) ?_ ?_
  · obtain ⟨ps, o, _⟩ := h
    exact old_seqL o al hL
  · rintro j v H hv ⟨ps, o, s, hD, sg⟩
    have hj := (List.getElem?_eq_some_iff.mp hv).1
    have hc : ts[j]? = some (ts[j]'(by omega)) := List.getElem?_eq_getElem _
    generalize ts[j]'(by omega) = c at hc
    have e1 : ts.take (j + 1) = ts.take j ++ [c] := by
      rw [List.take_add_one, hc]
      rfl
    have e2 : ((ts.take (j + 1)).map Tree.parts).sum = ((ts.take j).map Tree.parts).sum + c.parts := by
      rw [e1, List.map_append, List.sum_append]
      simp
    have := tk (j + 1)
    refine ⟨by show ((σ.set i none).set i (some v)).set i none = σ.set i none; rw [List.set_set, List.set_set], ?_⟩
    unfold tYes
    dsimp only
    rw [if_pos rfl]
    refine hs j v c hv hc _ H _ o s (by omega) fun p H' o2 s2 J => ?_
    have hD' : H' D = some (.lst (ps.map V.ref)) := o2 _ _ hD (Ne.symm ad)
    refine ⟨_, hD', ?_, ps ++ [p], oldD (o.trans o2), ?_, ?_, ?_⟩
    · rw [List.length_map, sg.1, List.length_take]
      exact Nat.lt_of_le_of_lt (show min j ts.length ≤ 5 by omega) (by decide)
    · rw [e2]
      exact srcAt_put (s2.le (by omega)) ad
    · rw [upd_same, List.map_append]
      rfl
    · rw [e1]
      exact (sg.mv fun t x z => (z.old s o2).put hD').snoc (J.put hD')
  · rintro H ⟨ps, o, s, hD, sg⟩
    rw [hlen, List.take_length] at s sg
    exact hd H ps o s hD sg
end K11

namespace K11
open PySem PySem.Spec PyProof.Rows L2 Hk NumM NumT SX
section
variable {P : Program} {w : World} {K : Fr} {mg : Str → Option Value} {base : Heap}
theorem kwRel {vs zs : List V} {us ws : List Value} (rv : Vals vs us) (rz : Vals zs ws) : Vals (kwTurn vs zs) (kwTurn us ws) := by
  cases rz with
  | nil => exact rv
  | cons r1 r =>
    cases r with
    | nil => exact rv
    | cons r2 r =>
      cases r with
      | nil => exact rv.append (.cons r2 (.cons r1 .nil))
      | cons r3 r => exact rv
theorem kb_Times {fd : FuncData} (D : DAt K d_Times_init fd) : KBn K fd ["self", "number", "signal"] 1 ["signal", "number"] (fun us ws => kwTurn us ws) (fun vs zs => kwTurn vs zs) := by
  obtain ⟨oc, od, dV, kV, doc, pm, an, cdv, ct, osl, rfl, lk, hcd, hD, hK⟩ := D.ex
  rcases hD with ⟨_, rfl⟩ | ⟨e, _⟩
  · exact ⟨fun s us ws _ hu hw => match us, ws, hu, hw with | [a], [b, c], _, _ => .of_eq rfl, fun rv rz => kwRel rv rz⟩
  · exact absurd rfl e
theorem b_Times {fd : FuncData} (D : DAt K d_Times_init fd) : Binds K fd ["self", "number", "signal"] [] := FunD.bindsN D fun _ _ _ _ _ _ us hl => match us, hl with | [_, _, _], _ => rfl
theorem mk_Times (T : Tx K mg) : Mk K (He.ga K "Times") (d_Times_init.ad K) := He.mkr_ok (sub_mkr (f_sub_Times T.c))
theorem kb_Late {fd : FuncData} (D : DAt K d_Late_init fd) : KBn K fd ["self", "signal", "count"] 1 ["count", "signal"] (fun us ws => kwTurn us ws) (fun vs zs => kwTurn vs zs) := by
  obtain ⟨oc, od, dV, kV, doc, pm, an, cdv, ct, osl, rfl, lk, hcd, hD, hK⟩ := D.ex
  rcases hD with ⟨_, rfl⟩ | ⟨e, _⟩
  · exact ⟨fun s us ws _ hu hw => match us, ws, hu, hw with | [a], [b, c], _, _ => .of_eq rfl, fun rv rz => kwRel rv rz⟩
  · exact absurd rfl e
theorem b_Late {fd : FuncData} (D : DAt K d_Late_init fd) : Binds K fd ["self", "signal", "count"] [] := FunD.bindsN D fun _ _ _ _ _ _ us hl => match us, hl with | [_, _, _], _ => rfl
theorem mk_Late (T : Tx K mg) : Mk K (He.ga K "Late") (d_Late_init.ad K) := He.mkr_ok (sub_mkr (f_sub_Late T.c))
theorem kb_Every {fd : FuncData} (D : DAt K d_Every_init fd) : KBn K fd ["self", "signal", "step"] 1 ["step", "signal"] (fun us ws => kwTurn us ws) (fun vs zs => kwTurn vs zs) := by
  obtain ⟨oc, od, dV, kV, doc, pm, an, cdv, ct, osl, rfl, lk, hcd, hD, hK⟩ := D.ex
  rcases hD with ⟨_, rfl⟩ | ⟨e, _⟩
  · exact ⟨fun s us ws _ hu hw => match us, ws, hu, hw with | [a], [b, c], _, _ => .of_eq rfl, fun rv rz => kwRel rv rz⟩
  · exact absurd rfl e
theorem b_Every {fd : FuncData} (D : DAt K d_Every_init fd) : Binds K fd ["self", "signal", "step"] [] := FunD.bindsN D fun _ _ _ _ _ _ us hl => match us, hl with | [_, _, _], _ => rfl
theorem mk_Every (T : Tx K mg) : Mk K (He.ga K "Every") (d_Every_init.ad K) := He.mkr_ok (sub_mkr (f_sub_Every T.c))
theorem kb_Spread {fd : FuncData} (D : DAt K d_Spread_init fd) : KBn K fd ["self", "signal", "step"] 1 ["step", "signal"] (fun us ws => kwTurn us ws) (fun vs zs => kwTurn vs zs) := by
  obtain ⟨oc, od, dV, kV, doc, pm, an, cdv, ct, osl, rfl, lk, hcd, hD, hK⟩ := D.ex
  rcases hD with ⟨_, rfl⟩ | ⟨e, _⟩
  · exact ⟨fun s us ws _ hu hw => match us, ws, hu, hw with | [a], [b, c], _, _ => .of_eq rfl, fun rv rz => kwRel rv rz⟩
  · exact absurd rfl e
theorem b_Spread {fd : FuncData} (D : DAt K d_Spread_init fd) : Binds K fd ["self", "signal", "step"] [] := FunD.bindsN D fun _ _ _ _ _ _ us hl => match us, hl with | [_, _, _], _ => rfl
theorem mk_Spread (T : Tx K mg) : Mk K (He.ga K "Spread") (d_Spread_init.ad K) := He.mkr_ok (sub_mkr (f_sub_Spread T.c))
theorem kb_Name {fd : FuncData} (D : DAt K d_Name_init fd) : KBn K fd ["self", "name"] 1 ["name"] (fun us ws => us ++ ws) (fun vs zs => vs ++ zs) := by
  obtain ⟨oc, od, dV, kV, doc, pm, an, cdv, ct, osl, rfl, lk, hcd, hD, hK⟩ := D.ex
  rcases hD with ⟨_, rfl⟩ | ⟨e, _⟩
  · exact ⟨fun s us ws _ hu hw => match us, ws, hu, hw with | [a], [b], _, _ => .of_eq rfl, fun rv rz => rv.append rz⟩
  · exact absurd rfl e
theorem b_Name {fd : FuncData} (D : DAt K d_Name_init fd) : Binds K fd ["self", "name"] [] := FunD.bindsN D fun _ _ _ _ _ _ us hl => match us, hl with | [_, _], _ => rfl
theorem mk_Name (T : Tx K mg) : Mk K (He.ga K "Name") (d_Name_init.ad K) := He.mkr_ok (sub_mkr (f_sub_Name T.c))
abbrev Made (K : Fr) (sp : Sp) (C : Addr) (H : Hp) (Q : VK) (vs : List V) : Prop := ∀ x dx, H x = Option.none → H dx = Option.none → dx ≠ x → sp (V.ref x :: vs) (upd (upd H dx (.own x)) x (.ins C dx [])) (fun v H2 => v = .non ∧ Q (.ref x) H2) E0
theorem make_name {H : Hp} {Q : VK} {l : List Nat} (nm : Nm l) (k : ∀ p H', Same H H' → (∀ d, SigAt K H' (d + 1) (.name l) p) → Q (.ref p) H') : Made K (spNmI K) (He.ga K "Name") H Q [.str (S l)] := by
  intro x dx nx nd ne
  exact ⟨x, dx, l, rfl, upd_same, nm, fun H' o sx => ⟨rfl, k x H' (old_same nx (same_new nx nd) o) sx⟩⟩
theorem make_times {H : Hp} {Q : VK} {d : Nat} {t : Tree} {y : V} {u b : Int} {c : Addr} (o : Opd (CN K) H y u b) (g : GainOk u b) (sg : SigAt K H d t c) (p12 : (Tree.times u b t).parts ≤ 12) (d5 : (Tree.times u b t).deep ≤ 5) (tl : (Tree.times u b t).tell.length ≤ 1000000)
    (k : ∀ p H', Same H H' → SigAt K H' (d + 1) (.times u b t) p → Q (.ref p) H') : Made K (spTmI K) (He.ga K "Times") H Q [y, .ref c] := by
  intro x dx nx nd ne
  have s1 := same_new (C := He.ga K "Times") nx nd
  refine ⟨d, x, dx, c, t, y, u, b, rfl, upd_same, o.same s1, g, sg.same s1, ?_, ?_, tl, fun H' o sx => ⟨rfl, k x H' (old_same nx s1 o) sx⟩⟩
  · rw [parts_eq] at p12
    simp [Tree.kids] at p12
    omega
  · rw [deep_eq] at d5
    simp [Tree.kids, maxL] at d5
    omega
theorem make_pair {H : Hp} {Q : VK} {d w : Nat} {cls : Str} {t : Tree} {n : Int} {c : Addr} (sg : SigAt K H d t c) (n0 : 0 ≤ n) (n6 : n ≤ 6) (n1 : w < 2 → 1 ≤ n) (p12 : (Tree.pair w t n).parts ≤ 12) (d5 : (Tree.pair w t n).deep ≤ 5) (tl : (Tree.pair w t n).tell.length ≤ 1000000)
    (k : ∀ p H', Same H H' → SigAt K H' (d + 1) (.pair w t n) p → Q (.ref p) H') : Made K (spPrI K w cls) (He.ga K cls) H Q [.ref c, .int n] := by
  intro x dx nx nd ne
  have s1 := same_new (C := He.ga K cls) nx nd
  refine ⟨d, x, dx, c, t, n, rfl, upd_same, sg.same s1, n0, n6, n1, ?_, ?_, tl, fun H' o sx => ⟨rfl, k x H' (old_same nx s1 o) sx⟩⟩
  · rw [parts_eq] at p12
    simp [Tree.kids] at p12
    omega
  · rw [deep_eq] at d5
    simp [Tree.kids, maxL] at d5
    omega
end
end K11

/-! The error that a suite holds, handed to a def: the def's promise may speak of it (it is p's object, pinned there too). -/
namespace Hk
open PySem PySem.Spec PyProof.Rows L2 HotX L2H
structure FnP (P : Program) (w : World) (K : Fr) (mg : Str → Option Value) (base : Heap) (k : Nat) (f : Addr) (fd : FuncData) (ps : List Str) (p : Addr × Obj) (sp : Sp) : Prop where
  len : ∀ vs H Q E, sp vs H Q E → vs.length = ps.length
  run : ∀ (A : Around) (out : List Env) (s : Shared) (H : Hp) (args : Args) (us : List Value) (vs : List V) (Q : VK), RoomH k A → Hot1 A p → PinOk out H s p → Env0 P w K mg base A out s H → BindsTo s fd args (ps.zip us) → Vals vs us → sp vs H Q E0 →
    codeAny (model P w) A (.call (.ref f) args) (CR CX0 out P w H s Q E0) s
section
variable {P : Program} {w : World} {K : Fr} {mg : Str → Option Value} {base : Heap} {p : Addr × Obj}
abbrev BodyP (P : Program) (w : World) (K : Fr) (mg : Str → Option Value) (base : Heap) (k : Nat) (d : Dx) (N ps : List Str) (p : Addr × Obj) (sp : Sp) : Prop :=
  ∀ (cdv : Value) (A : Around) (outer : List Env) (s : Shared) (H : Hp) (vs : List V) (Q : VK) (E : XK), Hot1 A p → RoomH k (A.deeper (envOfC d.ql (defScope d.st) s.heap.objs.size (d.ad K) cdv)) → sp vs H Q E →
      ∃ t, PSs (cxH CX0 P w K mg base N d.ql (defScope d.st) (d.ad K) cdv A outer s H E p) (defBody d.st) t ∧ t { nx := fun _ H' => Q .non H', rt := Q } (L2.start N vs) H
theorem okp_of {k : Nat} {d : Dx} {N ps : List Str} {sp : Sp} {fd : FuncData} (D : DAt K d fd) (S : FnScope N ps (defScope d.st)) (len : ∀ vs H Q E, sp vs H Q E → vs.length = ps.length) (hb : BodyP P w K mg base k d N ps p sp) :
    FnP P w K mg base (k + 1) (d.ad K) fd ps p sp := by
  obtain ⟨oc, od, dV, kV, doc, pm, an, cdv, ct, osl, rfl, lk, hcd, _, _⟩ := D.ex
  refine ⟨len, fun A out s H args us vs Q hr hot hpin e0 hbd r hsp => ?_⟩
  have old : ∀ b o, base.get? b = some o → s.heap.get? b = some o := fun b o z => (e0.bs b o z).1
  have KX : K.In s.heap := e0.mod.kin.keeps old
  have kd : ∀ y ∈ ps.zip us, (defScope d.st).names.lookup y.1 = some .local ∨ ((defScope d.st).names.lookup y.1 = some .cell ∧ ((cellsFrom (s.heap.objs.size + 1) (defScope d.st).names []).lookup y.1).isSome = true) := by
    rintro ⟨n, v⟩ hy
    have q := S.par n (List.of_mem_zip hy).1
    exact q.imp id fun q => ⟨q, PySem.W.cellsFrom_some _ _ _ (.inl q)⟩
  refine codeAny_call_function hr.depth (KX _ _ lk) rfl S.co S.gen rfl (PySem.W.codeRec_of KX hcd) (hbd _ _ _ _ ?_)
  refine wpAny_newFunctionEnv_cells S.kind kd fun env he s1 x => ?_
  subst he
  refine ⟨(e0.mod.nolimit.keeps old).keeps x.toInCall.keep, codeAny_func ?_⟩
  obtain ⟨t, ht, hq⟩ := hb cdv A out s H vs Q E0 hot (hr.deeper _) hsp
  have I : Inv (cxH CX0 P w K mg base N d.ql (defScope d.st) (d.ad K) cdv A out s H E0 p) [] (L2.start N vs) H s1 := inv_startH S hpin e0 (len _ _ _ _ hsp) r x
  refine wpAny_mono (ht.run [] s1 (L2.start N vs) H _ I hq) (fun fl s' hs => ?_) fun e s' hs => hs
  cases fl with
  | next =>
    obtain ⟨σ', H', J, q⟩ := hs
    exact ⟨V.non, H', J.os, J.bare, J.base, J.hok, rfl, q⟩
  | ret u =>
    obtain ⟨v, σ', H', J, rv, q⟩ := hs
    exact ⟨v, H', J.os, J.bare, J.base, J.hok, rv, q⟩
  | brk =>
    obtain ⟨σ', H', J, q⟩ := hs
    exact False.elim q
  | cont =>
    obtain ⟨σ', H', J, q⟩ := hs
    exact False.elim q
def CalP (P : Program) (w : World) (K : Fr) (mg : Str → Option Value) (base : Heap) (k : Nat) (x : Str) (ad : Addr) (ps : List Str) (p : Addr × Obj) (sp : Sp) : Prop :=
  ∃ fd : FuncData, FnP P w K mg base k ad fd ps p sp ∧ Binds K fd ps [] ∧ PySem.W.keepIn K (.ref ad) = true ∧ mg x = some (.ref ad)
theorem calp_of {k : Nat} {d : Dx} {N ps : List Str} {sp : Sp} {x : Str} (D : ∃ fd, DAt K d fd) (hv : d.df = []) (S : FnScope N ps (defScope d.st)) (hm : mg x = some (.ref (d.ad K)))
    (hbi : ∀ (kV doc pm : Value) (an : Option Addr) (cdv ct : Value) (us : List Value), us.length = ps.length → bindArgs (PySem.W.fnOf d.nm d.ql (defArgs d.st) (defBody d.st) (defScope d.st) .none kV doc pm an cdv ct) ⟨us, []⟩ = pure (ps.zip us))
    (len : ∀ vs H Q E, sp vs H Q E → vs.length = ps.length) (hb : BodyP P w K mg base k d N ps p sp) : CalP P w K mg base (k + 1) x (d.ad K) ps p sp := by
  obtain ⟨fd, D⟩ := D
  have e : d.vs K = [] := by
    unfold Dx.vs
    rw [hv]
    rfl
  have D' : FunD K d.nm d.ql (defArgs d.st) (defBody d.st) (defScope d.st) [] [] (d.ad K) fd := by
    rw [← e]
    exact D
  exact ⟨fd, okp_of D S len hb, FunD.bindsN D' hbi, D.kp, hm⟩
theorem pe_cp {X : Cx} {k : Nat} {x : Str} {ad : Addr} {ps : List Str} {sp : Sp} {e : Expr} {es : List Expr} {t : TA} {pp pos : Pos} (c : CalP X.prog X.w X.K X.mg X.base k x ad ps p sp) (hr : RoomH k X.A) (hot : Hot1 X.A p) (hp : p ∈ X.pn) (ha : PA X (e :: es) t) (hg : Gl X x := by rfl)
    (hdb : (x == ("__debug__" : Str)) = false := by decide) (he : starEach (e :: es) X.env = (false, eval e X.env) :: starEach es X.env := by rfl) (hpl : (backTo pos (starEach es X.env)).any (·.1) = false := by rfl) :
    PE X (.Call (.Name x pp) (e :: es) [] pos) (tG sp t) := by
  obtain ⟨fd, F, b, kp, m⟩ := c
  refine ⟨fun pins s σ H Q I h => wpAny_Call_Name_kw (ld_glob I hg m ?_ hdb)⟩
  refine PySem.W.callWith_K (h₀ := X.base) I.ok.mod.kin kp (thn (ha.run pos pins s σ H _ I h) fun us s1 ⟨vs, H1, J, r, q⟩ => ⟨J.kIn, ?_⟩) he hpl
  have ln : us.length = ps.length := r.length.symm.trans (F.len _ _ _ _ q)
  have bd : BindsTo s1 fd ⟨us, []⟩ (ps.zip us) := by
    have := b s1 us J.kIn (by rw [List.append_nil]; exact ln)
    rwa [List.append_nil] at this
  obtain ⟨g1, g2, g3, g4, g5⟩ := J.pin p (List.mem_append_left _ hp)
  refine wpAny_call (codeAny_mono (F.run X.A X.stack s1 H1 ⟨us, []⟩ us vs Q hr hot ⟨g1, g2, fun hm => (List.mem_cons.mp (J.stkSub p.1 hm)).elim g3 g4, g5⟩ J.env0 bd r q) fun z s' hq => ?_)
  rcases z with e | fl
  · exact (show False from hq).elim
  · cases fl with
    | ret u => exact J.after hq
    | _ => exact (show False from hq).elim
end
/-! ### what the def asks of it -/
theorem pe_xfP {X : Cx} {a : Addr} {oe : Obj} {cls : Value} {d : Option Addr} {e : Expr} {te : TE} {pos : Pos} {n : Str} (hm : (a, oe) ∈ X.pn) (hz : Zc cls d oe) (hf : ∃ vs, oe.data = .fields vs) (he : PE X e te)
    (hb : attributeBase e n X.env (eval e X.env) = eval e X.env := by rfl) : PE X (.Attribute e n pos) (tXfX X.K a cls d n te) := by
  refine ⟨fun pins s σ H Q I h => attr_of hb (thn (he.run pins s σ H _ I h) fun u s1 ⟨x, H1, I1, rx, hh⟩ => ?_)⟩
  obtain ⟨rfl, C, dd, fs, v, rfl, T, hno, rfl, ea, l, q⟩ := hh
  cases (show u = Value.ref a from rx)
  have g := (I1.pin (a, oe) (List.mem_append_left _ hm)).1
  obtain ⟨vs, hd⟩ := hf
  obtain ⟨mz, ns, rel⟩ : ObjOk X.prog X.w H1 s1.heap dd (.xd fs) := I1.hok dd _ ea
  obtain ⟨od, ho, hl⟩ := lookIn_ns ns
  obtain ⟨val, ev, rv⟩ := RelO.some_of (l ▸ rel n)
  have J : PySem.W.InstAt s1.heap a oe C (some od) := ⟨g, hz.1, by rw [PySem.W.notCls, hd] <;> rfl, by rw [hz.2]; exact ho⟩
  exact HandSPX.exc_get I1.kIn J T.ga T.gg T.exC (PySem.W.findObj_own T.hdC hno rfl ((hl n).trans (congrArg some ev))) (handed_of rv) ⟨v, H1, I1.tok _, rv, q⟩
theorem call_isP {X : Cx} {a : Addr} {cls : Value} {d : Option Addr} {oe : Obj} (hm : (a, oe) ∈ X.pn) (hz : Zc cls d oe) (hf : ∃ vs, oe.data = .fields vs) : CallR X (.builtin "isinstance") (rIsX X.K a cls d) := by
  intro pins s σ H xs us Q I r h
  obtain ⟨D, c, cv, b, rfl, C, hd, rfl, hcv, e, q⟩ := h
  obtain ⟨u1, u2, rfl, r1, r2⟩ : ∃ u1 u2, us = [u1, u2] ∧ RelV (.ref a) u1 ∧ RelV c u2 := by
    cases r with
    | cons r1 r =>
      cases r with
      | cons r2 r =>
        cases r
        exact ⟨_, _, rfl, r1, r2⟩
  cases (show u1 = Value.ref a from r1)
  cases hcv _ r2
  have g := (I.pin (a, oe) (List.mem_append_left _ hm)).1
  obtain ⟨vs, hv⟩ := hf
  obtain ⟨cdD, hcD, _⟩ := PySem.W.any_some C.hd
  have nc : PySem.W.notCls oe = true := by rw [PySem.W.notCls, hv] <;> rfl
  obtain ⟨od, J⟩ : ∃ od, PySem.W.InstAt s.heap a oe D od := by
    rcases hd with rfl | ⟨dd, fs, rfl, ea⟩
    · exact ⟨none, g, hz.1, nc, by rw [hz.2]; trivial⟩
    · obtain ⟨mA, hns, _⟩ : ObjOk X.prog X.w H s.heap dd (.xd fs) := I.hok dd _ ea
      obtain ⟨od, ho, _⟩ := lookIn_ns hns
      exact ⟨some od, g, hz.1, nc, by rw [hz.2]; exact ho⟩
  exact PySem.W.kia_one (PySem.W.kitx_exc (by rw [hcD]; rfl) C.hg C.hk C.hs C.ha C.hn C.ht C.hm) I.kIn J e (fun z => nomatch z) fun tk => ⟨.bl b, H, I.kept (t' := tk) fun _ _ z => z, rfl, q⟩
end Hk

/-! except (A, B, C, D) as n. -/
namespace Hk
open PySem PySem.Spec PyProof.Rows L2 HotX L2H
section
variable {X : Cx}
/-- a global name of a class -/
structure GlC (X : Cx) (x : Str) (c : Value) : Prop where
  g : Gl X x
  m : X.mg x = some c
  d : (x == ("__debug__" : Str)) = false
theorem head_tup4 {x1 x2 x3 x4 : Str} {c1 c2 c3 c4 : Value} {p1 p2 p3 p4 tpos : Pos} {kk : Nat} (n1 : GlC X x1 c1) (n2 : GlC X x2 c2) (n3 : GlC X x3 c3) (n4 : GlC X x4 c4) :
    HeadIs X (.Tuple [.Name x1 p1, .Name x2 p2, .Name x3 p3, .Name x4 p4] kk tpos) (fun cls => PySem.W.exmAny X.K cls [c1, c2, c3, c4]) := by
  intro a oe pn σ H s b Q E I he hm q
  have ld : ∀ {x : Str} {c : Value} {p : Pos} {R : Value → Shared → Prop}, GlC X x c → R c s → wpAny (model X.prog X.w) (X.A.mark (some (.ref a))) (eval (.Name x p) X.env) R E s := fun {x c p R} n r => ld_glob (X := X.suite a ((a, oe) :: pn)) I n.g n.m r n.d
  have kp : ∀ u o, s.heap.get? u = some o → (s.heap.push { cls := .type "tuple", data := .seq [c1, c2, c3, c4].toArray }).get? u = some o := fun u o z => Heap.get?_push_of_some _ z
  have LT : PySem.W.Looks (model X.prog X.w) (s.heap.push { cls := .type "tuple", data := .seq [c1, c2, c3, c4].toArray }) (typeOf (.ref a)) oe.cls := fun A Q E s2 k q => wpAny_typeOf_ref (k _ _ (kp _ _ he)) q
  have KI : X.K.In (s.heap.push { cls := .type "tuple", data := .seq [c1, c2, c3, c4].toArray }) := PySem.W.Frag.In.keeps I.kIn kp
  have sz : [c1, c2, c3, c4].length ≤ sizeLine := by show 4 ≤ sizeLine; decide
  exact wpAny_Tuple_spliced (spliced_more (ld n1 (spliced_more (ld n2 (spliced_more (ld n3 (spliced_more (ld n4 (spliced_none ⟨sz, (PySem.W.exm_tup4 (M := model X.prog X.w) KI LT (Heap.get?_push_size s.heap rfl) hm).here (q _ s.toks kp)⟩)))))))))
end
end Hk

/-! y = [.. for ..] where an exception is handled. -/
namespace Hk
open PySem PySem.Spec PyProof.Rows L2 HotX L2H
theorem lcH_core {X : Cx} {pins : List (Addr × Obj)} {s : Shared} {σ : L2.St} {H : Hp} {Q : VK} {elt tg iter : Expr} {ifs : List Expr} {scope : Scope} {own : List (Str × Nat)} {pos pos' : Pos} {wi : TI} {g : TG} {tt : TT} {te : TE} {use : Option (Value → Sem Unit)} {Qf : Value → Shared → Prop}
    (hc : HotC X) (hN : X.N.Nodup) (I : Inv X pins σ H s) (hi : PIH X tg iter wi) (ok : BlkOk X.N X.env.scope scope own)
    (hg : ∀ (s : Shared) (H : Hp) (C : Addr) (cl : List (Str × Addr)) (fp : List Addr), PG (blkP X s H scope (compEnvC scope cl C X.env) fp) tg g) (ht : ∀ (s : Shared) (H : Hp) (C : Addr) (cl : List (Str × Addr)) (fp : List Addr), PTs (blkP X s H scope (compEnvC scope cl C X.env) fp) ifs tt)
    (he : ∀ (s : Shared) (H : Hp) (C : Addr) (cl : List (Str × Addr)) (fp : List Addr), PE (blkP X s H scope (compEnvC scope cl C X.env) fp) elt te) (hs : ∀ x, foldedSetIterable iter X.env x = pure x) (h : tLc wi g tt te (own.map (·.2)) σ H Q)
    (hRR : ∀ D C s' m H', Inv X pins σ H' s' → Q (.ref D) H' → s'.heap.Ns C m → FpOk X pins H' C → compPost (model X.prog X.w) X.A X.xe use Qf (.ref D) C (.ok .next) s') :
    wpAny (model X.prog X.w) X.A (comprehension (.ListComp elt [⟨tg, iter, ifs, 0⟩] scope pos) scope X.env pos' (newList []) false (eval iter X.env) use) Qf X.xe s := by
  have hfree : ∀ y ∈ scope.names, y.2 = .free → ∃ c, X.env.cells.lookup y.1 = some c := fun y hy e => (ok.free y hy e).elim (fun k => I.ok.has _ (.inl k)) fun k => I.ok.has _ (.inr k)
  refine wpAny_comprehension_free (use := use) rfl hs (closure_ok hfree) ok.kind (fun y hy e => by rw [ok.uniq y hy, e]) (thn (hi.run pins s σ H _ I h) fun xv s1 hx => thn hx fun itv s2 h2 => ?_)
  obtain ⟨it, fp, tn, J, H2, rfl, I2, T, st2, f2, q⟩ := h2
  refine wpAny_newObj_type (newEnv_comp ?_) (by show 0 ≤ sizeLine; decide)
  generalize hD : s2.heap.objs.size = D
  have hDn : H2 D = none := I2.hok.fresh (Nat.le_of_eq hD)
  obtain ⟨W, ⟨m0, w0⟩, turn⟩ := q D hDn
  generalize hs3 : ({ s2 with heap := s2.heap.push { cls := .type "list", data := .seq ([] : List Value).toArray } } : Shared) = s3
  have h3 : s3.heap = s2.heap.push { cls := .type "list", data := .seq ([] : List Value).toArray } := by rw [← hs3]
  have I3 : Inv X pins σ (upd H2 D (.lst [])) s3 := by
    rw [← hs3]
    refine I2.laid (t' := s2.toks) (fun b o e => Heap.get?_push_of_some _ e) (Nat.le_of_eq hD) ⟨Nat.zero_le _, [], 0, .nil, ?_⟩
    rw [← hD]
    exact Heap.get?_push_size _ rfl
  have f3 : ∀ b ∈ fp, FpOk X pins (upd H2 D (.lst [])) b ∧ b < s3.heap.objs.size := fun b hb => by
    obtain ⟨o, e, _⟩ := T.obj _ _ st2 b hb
    have lt := Heap.lt_size e
    refine ⟨⟨?_, (f2 b hb).2⟩, by rw [h3, Heap.size_push]; exact Nat.lt_succ_of_lt lt⟩
    rw [upd_ne (by rw [← hD]; exact Nat.ne_of_lt lt)]
    exact (f2 b hb).1
  have st3 : tn 0 s3.heap := T.keep _ _ _ st2 fun b _ o e => by rw [h3]; exact Heap.get?_push_of_some _ e
  have I4 := blkP_start I3 ok hN f3
  have pg := hg s3 (upd H2 D (.lst [])) s3.heap.objs.size (cellsFrom (s3.heap.objs.size + 1) scope.names (cloFrom X.env.cells scope.names [])) fp
  have pt := ht s3 (upd H2 D (.lst [])) s3.heap.objs.size (cellsFrom (s3.heap.objs.size + 1) scope.names (cloFrom X.env.cells scope.names [])) fp
  have pe := he s3 (upd H2 D (.lst [])) s3.heap.objs.size (cellsFrom (s3.heap.objs.size + 1) scope.names (cloFrom X.env.cells scope.names [])) fp
  have nfp : ∀ b ∈ fp, (upd H2 D (.lst [])) b = none := fun b hb => (f3 b hb).1.1
  have cL : (compEnvC scope (cellsFrom (s3.heap.objs.size + 1) scope.names (cloFrom X.env.cells scope.names [])) s3.heap.objs.size X.env).locals = s3.heap.objs.size := rfl
  have st4 : tn 0 (pushCells (s3.heap.push { cls := .type "dict", data := .dict #[] }) scope.names) := T.keep _ _ _ st3 fun b _ o e => pushCells_keeps _ _ _ _ (Heap.get?_push_of_some _ e)
  show codeAny _ _ (.compStart (.ListComp elt [⟨tg, iter, ifs, 0⟩] scope pos) 0 (.ref it) (.ref D) (compEnvC scope (cellsFrom (s3.heap.objs.size + 1) scope.names (cloFrom X.env.cells scope.names [])) s3.heap.objs.size X.env)) (compPost (model X.prog X.w) X.A X.xe use Qf (.ref D) s3.heap.objs.size) { s3 with heap := pushCells (s3.heap.push { cls := .type "dict", data := .dict #[] }) scope.names }
  generalize hce : compEnvC scope (cellsFrom (s3.heap.objs.size + 1) scope.names (cloFrom X.env.cells scope.names [])) s3.heap.objs.size X.env = ce at I4 pg pt pe cL ⊢
  generalize upd H2 D (.lst []) = H3 at I3 I4 pg pt pe w0 nfp f3
  have hcB : HotC (blkP X s3 H3 scope ce fp) := hc
  have stat : ∀ {σ' : L2.St} {H' : Hp} {s' : Shared}, Inv (blkP X s3 H3 scope ce fp) [] σ' H' s' → (∀ b ∈ fp, H' b = none) → ∀ b ∈ fp, FpOk (blkP X s3 H3 scope ce fp) [] H' b := fun {σ' H' s'} I' hn b hb =>
    ⟨hn b hb, (I'.ok.exf b hb).1, I'.ok.exfs b hb, .inl hb, fun x c e => (I'.ok.exf b hb).2 x c e, fun p hp => (f3 b hb).1.2.2.2.2.2 p (List.mem_append_left _ (by simpa using hp))⟩
  generalize hs4 : ({ s3 with heap := pushCells (s3.heap.push { cls := .type "dict", data := .dict #[] }) scope.names } : Shared) = s4 at I4 ⊢
  have st4' : tn 0 s4.heap := by rw [← hs4]; exact st4
  have run : codeAny (model X.prog X.w) X.A (.compLoop (.ListComp elt [⟨tg, iter, ifs, 0⟩] scope pos) 0 (.ref it) (.ref D) ce) (compPost (model X.prog X.w) X.A X.xe use Qf (.ref D) s3.heap.objs.size) s4 := by
    refine compLoop_any (fun n s' => ∃ i H', Inv (blkP X s3 H3 scope ce fp) [] (wipe σ (own.map (·.2))) H' s' ∧ tn i s'.heap ∧ (∀ b ∈ fp, H' b = none) ∧ W i n H') ?_ m0 ⟨0, H3, I4, st4', nfp, w0⟩
    rintro n s5 ⟨i, H5, I5, st5, n5, w5⟩
    rcases turn i n H5 w5 with ⟨stop, qq⟩ | ⟨go, Nx, hNx, step⟩
    · refine thnF (T.done (blkP X s3 H3 scope ce fp) rfl rfl rfl hcB i [] s5 _ H5 (fun _ _ => False) I5 (stat I5 n5) st5 stop) fun r s6 hr => ?_
      obtain ⟨rfl, I6⟩ := hr
      have I7 : Inv X pins σ H5 s6 := I3.call' (ch := fp) I6.os I6.base I6.hok I6.bare fun b hb => ⟨(f3 b hb).1.2.2.2.1, (f3 b hb).1.2.1, (f3 b hb).1.2.2.2.2.1, (f3 b hb).1.2.2.2.2.2⟩
      have nC : H5 s3.heap.objs.size = none := by
        have z : H5 ce.locals = none := I6.free
        rw [cL] at z
        exact z
      obtain ⟨m, hn, _⟩ := I6.loc
      have hn : s6.heap.Ns ce.locals m := hn
      rw [cL] at hn
      exact hRR D s3.heap.objs.size s6 m H5 I7 qq hn (I3.fpOk (Nat.le_refl _) nC)
    · refine thnF (T.item (blkP X s3 H3 scope ce fp) rfl rfl rfl hcB i [] s5 _ H5 (fun _ _ => False) I5 (stat I5 n5) st5 go) fun r s6 hr => ?_
      obtain ⟨u, rfl, h6⟩ := hr
      refine thnF h6 fun _ s7 h7 => ?_
      obtain ⟨x, H7, I7, r7, y7, st7, n7⟩ := h7
      have P7 := I7.pinned (stat I7 n7) (T.obj _ _ st7)
      refine thnF (pg.run _ s7 _ H7 x u _ P7 r7 (step x H7 y7)) fun _ s8 h8 => ?_
      obtain ⟨σ8, H8, I8, hw8, q8⟩ := h8
      refine thnF (pt.run _ s8 σ8 H8 _ I8 q8) fun b s9 h9 => ?_
      obtain ⟨H9, I9, q9⟩ := h9
      have again : ∀ {s' : Shared} {H' : Hp}, Inv (blkP X s3 H3 scope ce fp) ([] ++ pinsAt fp s7.heap) σ8 H' s' → Nx H' → ∃ m, m < n ∧ ∃ i H', Inv (blkP X s3 H3 scope ce fp) [] (wipe σ (own.map (·.2))) H' s' ∧ tn i s'.heap ∧ (∀ b ∈ fp, H' b = none) ∧ W i m H' := fun {s' H'} I' nx => by
        obtain ⟨m', hm, w'⟩ := hNx H' nx
        have keepP : ∀ b ∈ fp, ∀ o, s7.heap.get? b = some o → s'.heap.get? b = some o ∧ H' b = none := fun b hb o e =>
          let z := I'.pin (b, o) (List.mem_append_right _ (List.mem_append_right _ (mem_pinsAt hb e)))
          ⟨z.1, z.2.1⟩
        refine ⟨m', hm, i + 1, H', (I'.unpinned (pins := [])).weak (by rw [← hw8, wipe_length]) (fun j v e => ?_), T.keep _ _ _ st7 fun b hb o e => (keepP b hb o e).1, fun b hb => ?_, w'⟩
        · rw [← hw8] at e
          exact (wipe_some e).1
        · obtain ⟨o, e, _⟩ := T.obj _ _ st7 b hb
          exact (keepP b hb o e).2
      cases b with
      | false =>
        simp only [Bool.false_eq_true, if_false] at q9 ⊢
        exact again I9 q9
      | true =>
        simp only [if_true] at q9 ⊢
        refine thnF (pe.run _ s9 σ8 H9 _ I9 q9) fun z s10 h10 => ?_
        obtain ⟨yv, H10, I10, r10, acc, hD10, hz10, nx⟩ := h10
        exact app_ok (X := blkP X s3 H3 scope ce fp) I10 hD10 hz10 r10 fun s11 I11 => again I11 nx
  exact codeAny_compStart_list run (T.self X.A 0 _ _ _ st4' run)
theorem ps_setLcH {X : Cx} {i : Nat} {y : Str} {py : Pos} {elt tg iter : Expr} {ifs : List Expr} {scope : Scope} {own : List (Str × Nat)} {pos spos : Pos} {wi : TI} {g : TG} {tt : TT} {te : TE} (hc : HotC X) (hN : X.N.Nodup) (hy : X.N[i]? = some y) (hyl : X.env.scope.names.lookup y = some .local)
    (hsw : swapsWith (.ListComp elt [⟨tg, iter, ifs, 0⟩] scope pos) (some (.Name y py)) spos.line X.env = pure true) (hi : PIH X tg iter wi) (ok : BlkOk X.N X.env.scope scope own)
    (hg : ∀ (s : Shared) (H : Hp) (C : Addr) (cl : List (Str × Addr)) (fp : List Addr), PG (blkP X s H scope (compEnvC scope cl C X.env) fp) tg g) (ht : ∀ (s : Shared) (H : Hp) (C : Addr) (cl : List (Str × Addr)) (fp : List Addr), PTs (blkP X s H scope (compEnvC scope cl C X.env) fp) ifs tt)
    (he : ∀ (s : Shared) (H : Hp) (C : Addr) (cl : List (Str × Addr)) (fp : List Addr), PE (blkP X s H scope (compEnvC scope cl C X.env) fp) elt te) (hs : ∀ x, foldedSetIterable iter X.env x = pure x := by intro _; rfl) :
    PS X (.Assign [.Name y py] (.ListComp elt [⟨tg, iter, ifs, 0⟩] scope pos) spos) (tAsg (tLc wi g tt te (own.map (·.2))) (gName i)) := by
  refine ⟨fun pins s σ H D I h0 => ?_⟩
  have h : tLc wi g tt te (own.map (·.2)) σ H (fun x H1 => gName i x σ H1 D.nx) := h0
  rw [exec_Assign_Name_used _ _ _ _ hsw]
  refine wpAny_bind (wpAny_standAt (wpAny_bind (wpAny_bind (thn (lcH_core (use := some (assign (.Name y py) X.env)) (Qf := fun _ s' => SP X pins D .next s') (pos' := firstIterPos [⟨tg, iter, ifs, 0⟩] pos) hc hN I hi ok hg ht he hs h fun L C s1 m H1 J q ns fp => ?_) fun _ _ z => wpAny_pure (wpAny_pure z)))))
  obtain ⟨z0, z1, z2, z3, z4, z5⟩ := fp
  refine wpAny_assign_Name (store_ok2 (v := V.ref L) J hN hy (.inl hyl) rfl (fun s2 J2 hh => ?_) (.inr hyl))
  obtain ⟨c, sb, ha⟩ := hh
  have ne : C ≠ c := ha.elim (fun z => by rw [z]; exact z1) fun z e => z4 y c z e.symm
  exact ⟨m, ns.sameBut sb ne, fun h3 sb3 => ⟨_, H1, J2.turned (t' := s2.toks) (fun b o hb e => (sb3.2 b hb).trans e) z0 z1 z3 z4 z5, q⟩⟩
end Hk

namespace K11
open PySem PySem.Spec PyProof.Rows L2 Hk HotX L2H
def SORT : List Str := ["InvalidName", "InvalidText", "InvalidStep", "InvalidGain", "InvalidCount", "NotASignal", "InvalidTerms", "InvalidInputs", "InvalidOutputs", "NoOutput", "UnknownName", "NameTaken", "TwoRates", "NoRate", "RingWithoutDelay", "TooMany", "TooLarge"]
/-- what isinstance says of an error of the class C: of the i-th sort -/
structure SortC (K : Fr) (C : Addr) (i : Nat) : Prop where
  lt : i < 17
  k : ∀ j x, SORT[j]? = some x → PySem.W.kitOne K (.ref C) (.ref (He.ga K x)) = some (decide (j = i))
  kI : PySem.W.kitOne K (.ref C) (.ref (He.ga K "InputError")) = some (decide (i < 9))
  kN : PySem.W.kitOne K (.ref C) (.ref (He.ga K "NetError")) = some (decide (8 < i ∧ i < 15))
  kL : PySem.W.kitOne K (.ref C) (.ref (He.ga K "LimitError")) = some (decide (14 < i))
  kS : PySem.W.kitOne K (.ref C) (.ref (He.ga K "StateError")) = some false
  x : ExcC K C
def TupAt (G : Hp) (i j : Nat) (t : Addr) : Prop := ∃ x, SORT[j]? = some x ∧ G t = some (.tup [.str x, .bl (decide (j = i))])
theorem fmv {G G' : Hp} {i : Nat} {l : List (Nat × Addr)} (F : ∀ q ∈ l, TupAt G i q.1 q.2) (e : Same G G') : ∀ q ∈ l, TupAt G' i q.1 q.2 := fun q hq => by
  obtain ⟨x, h1, h2⟩ := F q hq
  exact ⟨x, h1, e _ _ h2⟩
theorem fext {G G' : Hp} {i : Nat} {l : List (Nat × Addr)} (j : Nat) (t : Addr) {x : Str} (F : ∀ q ∈ l, TupAt G i q.1 q.2) (e : Same G G') (h : G' t = some (.tup [.str x, .bl (decide (j = i))])) (hx : SORT[j]? = some x := by rfl) : ∀ q ∈ (j, t) :: l, TupAt G' i q.1 q.2 := fun q hq => by
  rcases List.mem_cons.mp hq with rfl | hq
  · exact ⟨x, hx, h⟩
  · exact fmv F e q hq
theorem neq4 {a b c d a' b' c' d' : Bool} (h1 : a = a') (h2 : b = b') (h3 : c = c') (h4 : d = d') : (!PyData.eqv (.list [.bool a, .bool b, .bool c, .bool d]) (.list [.bool a', .bool b', .bool c', .bool d'])) = false := by
  subst h1 h2 h3 h4
  simp [PyData.eqv, PyData.eqvAll]
theorem shapedB (a b c d : Bool) : SeqAt.shaped (.list [.bool a, .bool b, .bool c, .bool d]) = true := by
  unfold SeqAt.shaped
  simp [PyData.canLay0, PyData.canLayAll0, PyData.depth, PyData.depthAll]
theorem dp_bls {K : Fr} {H : Hp} : ∀ l : List Bool, DpAll K H (l.map V.bl) (l.map .bool)
  | [] => .nil
  | x :: r => .cons (.bl x) (dp_bls r)
section
variable {P : Program} {w : World} {K : Fr} {mg : Str → Option Value} {base : Heap}
abbrev N_sort : List Str := ["_law_e", "_law_some", "_law_own", "_law_k", "_law_bases"]
/-- the dict of the error, if it has one, is tracked -/
abbrev DOk (p : Addr × Obj) (H : Hp) : Prop := p.2.dict = none ∨ ∃ dd fs, p.2.dict = some dd ∧ H dd = some (.xd fs)
def spSort (K : Fr) (p : Addr × Obj) : Sp := fun vs H Q _ => ∃ (C : Addr) (i : Nat) (x : Str), vs = [.ref p.1] ∧ p.2.cls = .ref C ∧ SortC K C i ∧ SORT[i]? = some x ∧ DOk p H ∧ ∀ H', Same H H' → Q (.str x) H'
theorem c_sort (T : Tx K mg) (p : Addr × Obj) : CalP P w K mg base 1 "_law_sort" (gAd "_law_sort" K) ["_law_e"] p (spSort K p) := by
  refine calp_of (d := d_l_sort) (N := N_sort) (a_l_sort T.c) rfl sc_l_sort (g_l_sort T) (fun _ _ _ _ _ _ us hl => match us, hl with | [_], _ => rfl) (fun vs H Q E h => ?_) (fun cdv A outer s H vs Q E hot hr h => ?_)
  · obtain ⟨C, i, x, rfl, _⟩ := h
    rfl
  · obtain ⟨C, i, x, rfl, ec, sc, hx, dk, k⟩ := h
    have hf : ∃ vs, p.2.data = .fields vs := by
      obtain ⟨_, vs, h1, _⟩ := hot
      exact ⟨vs, h1⟩
    have ci : ∀ {X : Cx}, p ∈ X.pn → CallR X (.builtin "isinstance") (rIsX X.K p.1 p.2.cls p.2.dict) := fun {X} hp => call_isP (oe := p.2) hp ⟨rfl, rfl⟩ hf
    have hu : (A.deeper (envOfC d_l_sort.ql (defScope d_l_sort.st) s.heap.objs.size (d_l_sort.ad K) cdv)).units + 64 < cLine := by
      have := hr.un
      omega
    have hdx : ∀ H', Same H H' → DOk p H' := fun H' e => by
      rcases dk with h | ⟨dd, fs, h1, h2⟩
      · exact .inl h
      · exact .inr ⟨dd, fs, h1, e _ _ h2⟩
    refine ⟨_, (pss_cons (ps_set (i := 1) sc_l_sort.nd rfl (.inr rfl) (pe_lst (pa_cons (pe_tup (pa_cons pe_str (pa_cons (pe_callB (ci List.mem_cons_self) (by rfl) (n_isinstance T) bo_isinstance (pa_cons (pv 0) (pa_cons (pe_glob (v := .ref (gAd "InvalidName" K)) rfl (g_InvalidName T) rfl) pa_nil))) pa_nil))) (pa_cons (pe_tup (pa_cons pe_str (pa_cons (pe_callB (ci List.mem_cons_self) (by rfl) (n_isinstance T) bo_isinstance (pa_cons (pv 0) (pa_cons (pe_glob (v := .ref (gAd "InvalidText" K)) rfl (g_InvalidText T) rfl) pa_nil))) pa_nil))) pa_nil))))
 (pss_cons (ps_set (i := 1) sc_l_sort.nd rfl (.inr rfl) (pe_op op_cat (pv 1) (pe_lst (pa_cons (pe_tup (pa_cons pe_str (pa_cons (pe_callB (ci List.mem_cons_self) (by rfl) (n_isinstance T) bo_isinstance (pa_cons (pv 0) (pa_cons (pe_glob (v := .ref (gAd "InvalidStep" K)) rfl (g_InvalidStep T) rfl) pa_nil))) pa_nil))) (pa_cons (pe_tup (pa_cons pe_str (pa_cons (pe_callB (ci List.mem_cons_self) (by rfl) (n_isinstance T) bo_isinstance (pa_cons (pv 0) (pa_cons (pe_glob (v := .ref (gAd "InvalidGain" K)) rfl (g_InvalidGain T) rfl) pa_nil))) pa_nil))) pa_nil)))))
 (pss_cons (ps_set (i := 1) sc_l_sort.nd rfl (.inr rfl) (pe_op op_cat (pv 1) (pe_lst (pa_cons (pe_tup (pa_cons pe_str (pa_cons (pe_callB (ci List.mem_cons_self) (by rfl) (n_isinstance T) bo_isinstance (pa_cons (pv 0) (pa_cons (pe_glob (v := .ref (gAd "InvalidCount" K)) rfl (g_InvalidCount T) rfl) pa_nil))) pa_nil))) (pa_cons (pe_tup (pa_cons pe_str (pa_cons (pe_callB (ci List.mem_cons_self) (by rfl) (n_isinstance T) bo_isinstance (pa_cons (pv 0) (pa_cons (pe_glob (v := .ref (gAd "NotASignal" K)) rfl (g_NotASignal T) rfl) pa_nil))) pa_nil))) pa_nil)))))
 (pss_cons (ps_set (i := 1) sc_l_sort.nd rfl (.inr rfl) (pe_op op_cat (pv 1) (pe_lst (pa_cons (pe_tup (pa_cons pe_str (pa_cons (pe_callB (ci List.mem_cons_self) (by rfl) (n_isinstance T) bo_isinstance (pa_cons (pv 0) (pa_cons (pe_glob (v := .ref (gAd "InvalidTerms" K)) rfl (g_InvalidTerms T) rfl) pa_nil))) pa_nil))) (pa_cons (pe_tup (pa_cons pe_str (pa_cons (pe_callB (ci List.mem_cons_self) (by rfl) (n_isinstance T) bo_isinstance (pa_cons (pv 0) (pa_cons (pe_glob (v := .ref (gAd "InvalidInputs" K)) rfl (g_InvalidInputs T) rfl) pa_nil))) pa_nil))) pa_nil)))))
 (pss_cons (ps_set (i := 1) sc_l_sort.nd rfl (.inr rfl) (pe_op op_cat (pv 1) (pe_lst (pa_cons (pe_tup (pa_cons pe_str (pa_cons (pe_callB (ci List.mem_cons_self) (by rfl) (n_isinstance T) bo_isinstance (pa_cons (pv 0) (pa_cons (pe_glob (v := .ref (gAd "InvalidOutputs" K)) rfl (g_InvalidOutputs T) rfl) pa_nil))) pa_nil))) (pa_cons (pe_tup (pa_cons pe_str (pa_cons (pe_callB (ci List.mem_cons_self) (by rfl) (n_isinstance T) bo_isinstance (pa_cons (pv 0) (pa_cons (pe_glob (v := .ref (gAd "NoOutput" K)) rfl (g_NoOutput T) rfl) pa_nil))) pa_nil))) pa_nil)))))
 (pss_cons (ps_set (i := 1) sc_l_sort.nd rfl (.inr rfl) (pe_op op_cat (pv 1) (pe_lst (pa_cons (pe_tup (pa_cons pe_str (pa_cons (pe_callB (ci List.mem_cons_self) (by rfl) (n_isinstance T) bo_isinstance (pa_cons (pv 0) (pa_cons (pe_glob (v := .ref (gAd "UnknownName" K)) rfl (g_UnknownName T) rfl) pa_nil))) pa_nil))) (pa_cons (pe_tup (pa_cons pe_str (pa_cons (pe_callB (ci List.mem_cons_self) (by rfl) (n_isinstance T) bo_isinstance (pa_cons (pv 0) (pa_cons (pe_glob (v := .ref (gAd "NameTaken" K)) rfl (g_NameTaken T) rfl) pa_nil))) pa_nil))) pa_nil)))))
 (pss_cons (ps_set (i := 1) sc_l_sort.nd rfl (.inr rfl) (pe_op op_cat (pv 1) (pe_lst (pa_cons (pe_tup (pa_cons pe_str (pa_cons (pe_callB (ci List.mem_cons_self) (by rfl) (n_isinstance T) bo_isinstance (pa_cons (pv 0) (pa_cons (pe_glob (v := .ref (gAd "TwoRates" K)) rfl (g_TwoRates T) rfl) pa_nil))) pa_nil))) (pa_cons (pe_tup (pa_cons pe_str (pa_cons (pe_callB (ci List.mem_cons_self) (by rfl) (n_isinstance T) bo_isinstance (pa_cons (pv 0) (pa_cons (pe_glob (v := .ref (gAd "NoRate" K)) rfl (g_NoRate T) rfl) pa_nil))) pa_nil))) pa_nil)))))
 (pss_cons (ps_set (i := 1) sc_l_sort.nd rfl (.inr rfl) (pe_op op_cat (pv 1) (pe_lst (pa_cons (pe_tup (pa_cons pe_str (pa_cons (pe_callB (ci List.mem_cons_self) (by rfl) (n_isinstance T) bo_isinstance (pa_cons (pv 0) (pa_cons (pe_glob (v := .ref (gAd "RingWithoutDelay" K)) rfl (g_RingWithoutDelay T) rfl) pa_nil))) pa_nil))) pa_nil))))
 (pss_cons (ps_set (i := 1) sc_l_sort.nd rfl (.inr rfl) (pe_op op_cat (pv 1) (pe_lst (pa_cons (pe_tup (pa_cons pe_str (pa_cons (pe_callB (ci List.mem_cons_self) (by rfl) (n_isinstance T) bo_isinstance (pa_cons (pv 0) (pa_cons (pe_glob (v := .ref (gAd "TooMany" K)) rfl (g_TooMany T) rfl) pa_nil))) pa_nil))) (pa_cons (pe_tup (pa_cons pe_str (pa_cons (pe_callB (ci List.mem_cons_self) (by rfl) (n_isinstance T) bo_isinstance (pa_cons (pv 0) (pa_cons (pe_glob (v := .ref (gAd "TooLarge" K)) rfl (g_TooLarge T) rfl) pa_nil))) pa_nil))) pa_nil)))))
 (pss_cons (ps_setLcH (i := 2) (own := [("_law_k", 3)]) (g := gName 3) (hotC_n hot List.mem_cons_self) sc_l_sort.nd rfl rfl (sw_true rfl rfl rfl (by decide +kernel)) (pi_range1H (by rfl) (n_range T) (pa_cons pe_int pa_nil)) (blkOk_by (N := N_sort) (sc := defScope s_l_sort) (by decide +kernel)) (fun _ _ _ _ _ => pg_name (i := 3) sc_l_sort.nd rfl (.inl rfl)) (fun _ _ _ _ _ => (pts_one (pt_val (pe_ix (ix_tup : IxR _ (rIxT K)) (pe_ix (ix_list : IxR _ (rIxL K)) (pv 1) (pv 3) (fun _ _ => rfl)) pe_int (fun _ _ => rfl))))) (fun _ _ _ _ _ => (pv 3)))
 (pss_cons (ps_set (i := 4) sc_l_sort.nd rfl (.inl rfl) (pe_lst (pa_cons (pe_callB (ci List.mem_cons_self) (by rfl) (n_isinstance T) bo_isinstance (pa_cons (pv 0) (pa_cons (pe_glob (v := .ref (gAd "InputError" K)) rfl (g_InputError T) rfl) pa_nil))) (pa_cons (pe_callB (ci List.mem_cons_self) (by rfl) (n_isinstance T) bo_isinstance (pa_cons (pv 0) (pa_cons (pe_glob (v := .ref (gAd "NetError" K)) rfl (g_NetError T) rfl) pa_nil))) (pa_cons (pe_callB (ci List.mem_cons_self) (by rfl) (n_isinstance T) bo_isinstance (pa_cons (pv 0) (pa_cons (pe_glob (v := .ref (gAd "LimitError" K)) rfl (g_LimitError T) rfl) pa_nil))) pa_nil)))))
 (pss_cons (ps_set (i := 4) sc_l_sort.nd rfl (.inl rfl) (pe_op op_cat (pv 4) (pe_lst (pa_cons (pe_callB (ci List.mem_cons_self) (by rfl) (n_isinstance T) bo_isinstance (pa_cons (pv 0) (pa_cons (pe_glob (v := .ref (gAd "StateError" K)) rfl (g_StateError T) rfl) pa_nil))) pa_nil))))
 (pss_cons (ps_if (PW.pt (pw_or (pt_cmpR op_ne (pe_callB call_len_seq (by rfl) (n_len T) bo_len (pa_cons (pv 2) pa_nil)) pe_int (nomark _)) (pw_or1 (pt_cmpR (op_neD hu) (pv 4) (pe_lst (pa_cons (pe_cmpR op_lt (pe_ix ix_list (pv 2) pe_int (fun _ _ => rfl)) pe_int (nomark _)) (pa_cons (pe_chain op_lt op_lt pe_int (pe_ix ix_list (pv 2) pe_int (fun _ _ => rfl)) pe_int) (pa_cons (pe_cmpR op_gt (pe_ix ix_list (pv 2) pe_int (fun _ _ => rfl)) pe_int (nomark _)) (pa_cons pe_bl pa_nil))))) (nomark _)))))
 (pss_one (ps_ret pe_str))
 pss_nil)
 (pss_one (ps_ret (pe_ix ix_tup (pe_ix ix_list (pv 1) (pe_ix ix_list (pv 2) pe_int (fun _ _ => rfl)) (fun _ _ => rfl)) pe_int (fun _ _ => rfl))))))))))))))))), ?_⟩
    have F0 : ∀ q ∈ ([] : List (Nat × Addr)), TupAt H i q.1 q.2 := fun q h => nomatch h
    have E0 : Same H H := Same.refl H
    refine ⟨_, rfl, C, _, _, _, ec, sc.x, hdx _ E0, rfl, fun u h => h, sc.k 0 _ rfl, (by show 2 ≤ sizeLine; decide), fun t0 nt0 => ?_⟩
    have e1 := same_upd (o := .tup [.str "InvalidName", .bl (decide (0 = i))]) nt0
    have ht0 : (upd H t0 (.tup [.str "InvalidName", .bl (decide (0 = i))])) t0 = some (.tup [.str "InvalidName", .bl (decide (0 = i))]) := upd_same
    generalize upd H t0 (.tup [.str "InvalidName", .bl (decide (0 = i))]) = G1 at e1 ht0 ⊢
    have E1 := E0.trans e1
    have F1 := fext 0 t0 F0 e1 ht0
    refine ⟨_, rfl, C, _, _, _, ec, sc.x, hdx _ E1, rfl, fun u h => h, sc.k 1 _ rfl, (by show 2 ≤ sizeLine; decide), fun t1 nt1 => ?_⟩
    have e2 := same_upd (o := .tup [.str "InvalidText", .bl (decide (1 = i))]) nt1
    have ht1 : (upd G1 t1 (.tup [.str "InvalidText", .bl (decide (1 = i))])) t1 = some (.tup [.str "InvalidText", .bl (decide (1 = i))]) := upd_same
    generalize upd G1 t1 (.tup [.str "InvalidText", .bl (decide (1 = i))]) = G2 at e2 ht1 ⊢
    have E2 := E1.trans e2
    have F2 := fext 1 t1 F1 e2 ht1
    refine ⟨(by show 2 ≤ sizeLine; decide), fun l0 nl0 => ?_⟩
    have e3 := same_upd (o := .lst [.ref t0, .ref t1]) nl0
    have hl0 : (upd G2 l0 (.lst [.ref t0, .ref t1])) l0 = some (.lst [.ref t0, .ref t1]) := upd_same
    generalize upd G2 l0 (.lst [.ref t0, .ref t1]) = G3 at e3 hl0 ⊢
    have E3 := E2.trans e3
    have F3 := fmv F2 e3
    have hL := hl0
    refine ⟨_, rfl, _, rfl, C, _, _, _, ec, sc.x, hdx _ E3, rfl, fun u h => h, sc.k 2 _ rfl, (by show 2 ≤ sizeLine; decide), fun t2 nt2 => ?_⟩
    have e4 := same_upd (o := .tup [.str "InvalidStep", .bl (decide (2 = i))]) nt2
    have ht2 : (upd G3 t2 (.tup [.str "InvalidStep", .bl (decide (2 = i))])) t2 = some (.tup [.str "InvalidStep", .bl (decide (2 = i))]) := upd_same
    generalize upd G3 t2 (.tup [.str "InvalidStep", .bl (decide (2 = i))]) = G4 at e4 ht2 ⊢
    have E4 := E3.trans e4
    have F4 := fext 2 t2 F3 e4 ht2
    have hL := e4 _ _ hL
    refine ⟨_, rfl, C, _, _, _, ec, sc.x, hdx _ E4, rfl, fun u h => h, sc.k 3 _ rfl, (by show 2 ≤ sizeLine; decide), fun t3 nt3 => ?_⟩
    have e5 := same_upd (o := .tup [.str "InvalidGain", .bl (decide (3 = i))]) nt3
    have ht3 : (upd G4 t3 (.tup [.str "InvalidGain", .bl (decide (3 = i))])) t3 = some (.tup [.str "InvalidGain", .bl (decide (3 = i))]) := upd_same
    generalize upd G4 t3 (.tup [.str "InvalidGain", .bl (decide (3 = i))]) = G5 at e5 ht3 ⊢
    have E5 := E4.trans e5
    have F5 := fext 3 t3 F4 e5 ht3
    have hL := e5 _ _ hL
    refine ⟨(by show 2 ≤ sizeLine; decide), fun l1 nl1 => ?_⟩
    have e6 := same_upd (o := .lst [.ref t2, .ref t3]) nl1
    have hl1 : (upd G5 l1 (.lst [.ref t2, .ref t3])) l1 = some (.lst [.ref t2, .ref t3]) := upd_same
    generalize upd G5 l1 (.lst [.ref t2, .ref t3]) = G6 at e6 hl1 ⊢
    have E6 := E5.trans e6
    have F6 := fmv F5 e6
    have hL := e6 _ _ hL
    refine ⟨l0, l1, _, _, rfl, rfl, hL, hl1, (by show 4 ≤ sizeLine; decide), fun q1 nq1 => ?_⟩
    have e7 := same_upd (o := .lst ([.ref t0, .ref t1] ++ [.ref t2, .ref t3])) nq1
    have hq1 : (upd G6 q1 (.lst ([.ref t0, .ref t1] ++ [.ref t2, .ref t3]))) q1 = some (.lst ([.ref t0, .ref t1] ++ [.ref t2, .ref t3])) := upd_same
    generalize upd G6 q1 (.lst ([.ref t0, .ref t1] ++ [.ref t2, .ref t3])) = G7 at e7 hq1 ⊢
    have E7 := E6.trans e7
    have F7 := fmv F6 e7
    have hL : G7 q1 = some (.lst [.ref t0, .ref t1, .ref t2, .ref t3]) := hq1
    refine ⟨_, rfl, _, rfl, C, _, _, _, ec, sc.x, hdx _ E7, rfl, fun u h => h, sc.k 4 _ rfl, (by show 2 ≤ sizeLine; decide), fun t4 nt4 => ?_⟩
    have e8 := same_upd (o := .tup [.str "InvalidCount", .bl (decide (4 = i))]) nt4
    have ht4 : (upd G7 t4 (.tup [.str "InvalidCount", .bl (decide (4 = i))])) t4 = some (.tup [.str "InvalidCount", .bl (decide (4 = i))]) := upd_same
    generalize upd G7 t4 (.tup [.str "InvalidCount", .bl (decide (4 = i))]) = G8 at e8 ht4 ⊢
    have E8 := E7.trans e8
    have F8 := fext 4 t4 F7 e8 ht4
    have hL := e8 _ _ hL
    refine ⟨_, rfl, C, _, _, _, ec, sc.x, hdx _ E8, rfl, fun u h => h, sc.k 5 _ rfl, (by show 2 ≤ sizeLine; decide), fun t5 nt5 => ?_⟩
    have e9 := same_upd (o := .tup [.str "NotASignal", .bl (decide (5 = i))]) nt5
    have ht5 : (upd G8 t5 (.tup [.str "NotASignal", .bl (decide (5 = i))])) t5 = some (.tup [.str "NotASignal", .bl (decide (5 = i))]) := upd_same
    generalize upd G8 t5 (.tup [.str "NotASignal", .bl (decide (5 = i))]) = G9 at e9 ht5 ⊢
    have E9 := E8.trans e9
    have F9 := fext 5 t5 F8 e9 ht5
    have hL := e9 _ _ hL
    refine ⟨(by show 2 ≤ sizeLine; decide), fun l2 nl2 => ?_⟩
    have e10 := same_upd (o := .lst [.ref t4, .ref t5]) nl2
    have hl2 : (upd G9 l2 (.lst [.ref t4, .ref t5])) l2 = some (.lst [.ref t4, .ref t5]) := upd_same
    generalize upd G9 l2 (.lst [.ref t4, .ref t5]) = G10 at e10 hl2 ⊢
    have E10 := E9.trans e10
    have F10 := fmv F9 e10
    have hL := e10 _ _ hL
    refine ⟨q1, l2, _, _, rfl, rfl, hL, hl2, (by show 6 ≤ sizeLine; decide), fun q2 nq2 => ?_⟩
    have e11 := same_upd (o := .lst ([.ref t0, .ref t1, .ref t2, .ref t3] ++ [.ref t4, .ref t5])) nq2
    have hq2 : (upd G10 q2 (.lst ([.ref t0, .ref t1, .ref t2, .ref t3] ++ [.ref t4, .ref t5]))) q2 = some (.lst ([.ref t0, .ref t1, .ref t2, .ref t3] ++ [.ref t4, .ref t5])) := upd_same
    generalize upd G10 q2 (.lst ([.ref t0, .ref t1, .ref t2, .ref t3] ++ [.ref t4, .ref t5])) = G11 at e11 hq2 ⊢
    have E11 := E10.trans e11
    have F11 := fmv F10 e11
    have hL : G11 q2 = some (.lst [.ref t0, .ref t1, .ref t2, .ref t3, .ref t4, .ref t5]) := hq2
    refine ⟨_, rfl, _, rfl, C, _, _, _, ec, sc.x, hdx _ E11, rfl, fun u h => h, sc.k 6 _ rfl, (by show 2 ≤ sizeLine; decide), fun t6 nt6 => ?_⟩
    have e12 := same_upd (o := .tup [.str "InvalidTerms", .bl (decide (6 = i))]) nt6
    have ht6 : (upd G11 t6 (.tup [.str "InvalidTerms", .bl (decide (6 = i))])) t6 = some (.tup [.str "InvalidTerms", .bl (decide (6 = i))]) := upd_same
    generalize upd G11 t6 (.tup [.str "InvalidTerms", .bl (decide (6 = i))]) = G12 at e12 ht6 ⊢
    have E12 := E11.trans e12
    have F12 := fext 6 t6 F11 e12 ht6
    have hL := e12 _ _ hL
    refine ⟨_, rfl, C, _, _, _, ec, sc.x, hdx _ E12, rfl, fun u h => h, sc.k 7 _ rfl, (by show 2 ≤ sizeLine; decide), fun t7 nt7 => ?_⟩
    have e13 := same_upd (o := .tup [.str "InvalidInputs", .bl (decide (7 = i))]) nt7
    have ht7 : (upd G12 t7 (.tup [.str "InvalidInputs", .bl (decide (7 = i))])) t7 = some (.tup [.str "InvalidInputs", .bl (decide (7 = i))]) := upd_same
    generalize upd G12 t7 (.tup [.str "InvalidInputs", .bl (decide (7 = i))]) = G13 at e13 ht7 ⊢
    have E13 := E12.trans e13
    have F13 := fext 7 t7 F12 e13 ht7
    have hL := e13 _ _ hL
    refine ⟨(by show 2 ≤ sizeLine; decide), fun l3 nl3 => ?_⟩
    have e14 := same_upd (o := .lst [.ref t6, .ref t7]) nl3
    have hl3 : (upd G13 l3 (.lst [.ref t6, .ref t7])) l3 = some (.lst [.ref t6, .ref t7]) := upd_same
    generalize upd G13 l3 (.lst [.ref t6, .ref t7]) = G14 at e14 hl3 ⊢
    have E14 := E13.trans e14
    have F14 := fmv F13 e14
    have hL := e14 _ _ hL
    refine ⟨q2, l3, _, _, rfl, rfl, hL, hl3, (by show 8 ≤ sizeLine; decide), fun q3 nq3 => ?_⟩
    have e15 := same_upd (o := .lst ([.ref t0, .ref t1, .ref t2, .ref t3, .ref t4, .ref t5] ++ [.ref t6, .ref t7])) nq3
    have hq3 : (upd G14 q3 (.lst ([.ref t0, .ref t1, .ref t2, .ref t3, .ref t4, .ref t5] ++ [.ref t6, .ref t7]))) q3 = some (.lst ([.ref t0, .ref t1, .ref t2, .ref t3, .ref t4, .ref t5] ++ [.ref t6, .ref t7])) := upd_same
    generalize upd G14 q3 (.lst ([.ref t0, .ref t1, .ref t2, .ref t3, .ref t4, .ref t5] ++ [.ref t6, .ref t7])) = G15 at e15 hq3 ⊢
    have E15 := E14.trans e15
    have F15 := fmv F14 e15
    have hL : G15 q3 = some (.lst [.ref t0, .ref t1, .ref t2, .ref t3, .ref t4, .ref t5, .ref t6, .ref t7]) := hq3
    refine ⟨_, rfl, _, rfl, C, _, _, _, ec, sc.x, hdx _ E15, rfl, fun u h => h, sc.k 8 _ rfl, (by show 2 ≤ sizeLine; decide), fun t8 nt8 => ?_⟩
    have e16 := same_upd (o := .tup [.str "InvalidOutputs", .bl (decide (8 = i))]) nt8
    have ht8 : (upd G15 t8 (.tup [.str "InvalidOutputs", .bl (decide (8 = i))])) t8 = some (.tup [.str "InvalidOutputs", .bl (decide (8 = i))]) := upd_same
    generalize upd G15 t8 (.tup [.str "InvalidOutputs", .bl (decide (8 = i))]) = G16 at e16 ht8 ⊢
    have E16 := E15.trans e16
    have F16 := fext 8 t8 F15 e16 ht8
    have hL := e16 _ _ hL
    refine ⟨_, rfl, C, _, _, _, ec, sc.x, hdx _ E16, rfl, fun u h => h, sc.k 9 _ rfl, (by show 2 ≤ sizeLine; decide), fun t9 nt9 => ?_⟩
    have e17 := same_upd (o := .tup [.str "NoOutput", .bl (decide (9 = i))]) nt9
    have ht9 : (upd G16 t9 (.tup [.str "NoOutput", .bl (decide (9 = i))])) t9 = some (.tup [.str "NoOutput", .bl (decide (9 = i))]) := upd_same
    generalize upd G16 t9 (.tup [.str "NoOutput", .bl (decide (9 = i))]) = G17 at e17 ht9 ⊢
    have E17 := E16.trans e17
    have F17 := fext 9 t9 F16 e17 ht9
    have hL := e17 _ _ hL
    refine ⟨(by show 2 ≤ sizeLine; decide), fun l4 nl4 => ?_⟩
    have e18 := same_upd (o := .lst [.ref t8, .ref t9]) nl4
    have hl4 : (upd G17 l4 (.lst [.ref t8, .ref t9])) l4 = some (.lst [.ref t8, .ref t9]) := upd_same
    generalize upd G17 l4 (.lst [.ref t8, .ref t9]) = G18 at e18 hl4 ⊢
    have E18 := E17.trans e18
    have F18 := fmv F17 e18
    have hL := e18 _ _ hL
    refine ⟨q3, l4, _, _, rfl, rfl, hL, hl4, (by show 10 ≤ sizeLine; decide), fun q4 nq4 => ?_⟩
    have e19 := same_upd (o := .lst ([.ref t0, .ref t1, .ref t2, .ref t3, .ref t4, .ref t5, .ref t6, .ref t7] ++ [.ref t8, .ref t9])) nq4
    have hq4 : (upd G18 q4 (.lst ([.ref t0, .ref t1, .ref t2, .ref t3, .ref t4, .ref t5, .ref t6, .ref t7] ++ [.ref t8, .ref t9]))) q4 = some (.lst ([.ref t0, .ref t1, .ref t2, .ref t3, .ref t4, .ref t5, .ref t6, .ref t7] ++ [.ref t8, .ref t9])) := upd_same
    generalize upd G18 q4 (.lst ([.ref t0, .ref t1, .ref t2, .ref t3, .ref t4, .ref t5, .ref t6, .ref t7] ++ [.ref t8, .ref t9])) = G19 at e19 hq4 ⊢
    have E19 := E18.trans e19
    have F19 := fmv F18 e19
    have hL : G19 q4 = some (.lst [.ref t0, .ref t1, .ref t2, .ref t3, .ref t4, .ref t5, .ref t6, .ref t7, .ref t8, .ref t9]) := hq4
    refine ⟨_, rfl, _, rfl, C, _, _, _, ec, sc.x, hdx _ E19, rfl, fun u h => h, sc.k 10 _ rfl, (by show 2 ≤ sizeLine; decide), fun t10 nt10 => ?_⟩
    have e20 := same_upd (o := .tup [.str "UnknownName", .bl (decide (10 = i))]) nt10
    have ht10 : (upd G19 t10 (.tup [.str "UnknownName", .bl (decide (10 = i))])) t10 = some (.tup [.str "UnknownName", .bl (decide (10 = i))]) := upd_same
    generalize upd G19 t10 (.tup [.str "UnknownName", .bl (decide (10 = i))]) = G20 at e20 ht10 ⊢
    have E20 := E19.trans e20
    have F20 := fext 10 t10 F19 e20 ht10
    have hL := e20 _ _ hL
    refine ⟨_, rfl, C, _, _, _, ec, sc.x, hdx _ E20, rfl, fun u h => h, sc.k 11 _ rfl, (by show 2 ≤ sizeLine; decide), fun t11 nt11 => ?_⟩
    have e21 := same_upd (o := .tup [.str "NameTaken", .bl (decide (11 = i))]) nt11
    have ht11 : (upd G20 t11 (.tup [.str "NameTaken", .bl (decide (11 = i))])) t11 = some (.tup [.str "NameTaken", .bl (decide (11 = i))]) := upd_same
    generalize upd G20 t11 (.tup [.str "NameTaken", .bl (decide (11 = i))]) = G21 at e21 ht11 ⊢
    have E21 := E20.trans e21
    have F21 := fext 11 t11 F20 e21 ht11
    have hL := e21 _ _ hL
    refine ⟨(by show 2 ≤ sizeLine; decide), fun l5 nl5 => ?_⟩
    have e22 := same_upd (o := .lst [.ref t10, .ref t11]) nl5
    have hl5 : (upd G21 l5 (.lst [.ref t10, .ref t11])) l5 = some (.lst [.ref t10, .ref t11]) := upd_same
    generalize upd G21 l5 (.lst [.ref t10, .ref t11]) = G22 at e22 hl5 ⊢
    have E22 := E21.trans e22
    have F22 := fmv F21 e22
    have hL := e22 _ _ hL
    refine ⟨q4, l5, _, _, rfl, rfl, hL, hl5, (by show 12 ≤ sizeLine; decide), fun q5 nq5 => ?_⟩
    have e23 := same_upd (o := .lst ([.ref t0, .ref t1, .ref t2, .ref t3, .ref t4, .ref t5, .ref t6, .ref t7, .ref t8, .ref t9] ++ [.ref t10, .ref t11])) nq5
    have hq5 : (upd G22 q5 (.lst ([.ref t0, .ref t1, .ref t2, .ref t3, .ref t4, .ref t5, .ref t6, .ref t7, .ref t8, .ref t9] ++ [.ref t10, .ref t11]))) q5 = some (.lst ([.ref t0, .ref t1, .ref t2, .ref t3, .ref t4, .ref t5, .ref t6, .ref t7, .ref t8, .ref t9] ++ [.ref t10, .ref t11])) := upd_same
    generalize upd G22 q5 (.lst ([.ref t0, .ref t1, .ref t2, .ref t3, .ref t4, .ref t5, .ref t6, .ref t7, .ref t8, .ref t9] ++ [.ref t10, .ref t11])) = G23 at e23 hq5 ⊢
    have E23 := E22.trans e23
    have F23 := fmv F22 e23
    have hL : G23 q5 = some (.lst [.ref t0, .ref t1, .ref t2, .ref t3, .ref t4, .ref t5, .ref t6, .ref t7, .ref t8, .ref t9, .ref t10, .ref t11]) := hq5
    refine ⟨_, rfl, _, rfl, C, _, _, _, ec, sc.x, hdx _ E23, rfl, fun u h => h, sc.k 12 _ rfl, (by show 2 ≤ sizeLine; decide), fun t12 nt12 => ?_⟩
    have e24 := same_upd (o := .tup [.str "TwoRates", .bl (decide (12 = i))]) nt12
    have ht12 : (upd G23 t12 (.tup [.str "TwoRates", .bl (decide (12 = i))])) t12 = some (.tup [.str "TwoRates", .bl (decide (12 = i))]) := upd_same
    generalize upd G23 t12 (.tup [.str "TwoRates", .bl (decide (12 = i))]) = G24 at e24 ht12 ⊢
    have E24 := E23.trans e24
    have F24 := fext 12 t12 F23 e24 ht12
    have hL := e24 _ _ hL
    refine ⟨_, rfl, C, _, _, _, ec, sc.x, hdx _ E24, rfl, fun u h => h, sc.k 13 _ rfl, (by show 2 ≤ sizeLine; decide), fun t13 nt13 => ?_⟩
    have e25 := same_upd (o := .tup [.str "NoRate", .bl (decide (13 = i))]) nt13
    have ht13 : (upd G24 t13 (.tup [.str "NoRate", .bl (decide (13 = i))])) t13 = some (.tup [.str "NoRate", .bl (decide (13 = i))]) := upd_same
    generalize upd G24 t13 (.tup [.str "NoRate", .bl (decide (13 = i))]) = G25 at e25 ht13 ⊢
    have E25 := E24.trans e25
    have F25 := fext 13 t13 F24 e25 ht13
    have hL := e25 _ _ hL
    refine ⟨(by show 2 ≤ sizeLine; decide), fun l6 nl6 => ?_⟩
    have e26 := same_upd (o := .lst [.ref t12, .ref t13]) nl6
    have hl6 : (upd G25 l6 (.lst [.ref t12, .ref t13])) l6 = some (.lst [.ref t12, .ref t13]) := upd_same
    generalize upd G25 l6 (.lst [.ref t12, .ref t13]) = G26 at e26 hl6 ⊢
    have E26 := E25.trans e26
    have F26 := fmv F25 e26
    have hL := e26 _ _ hL
    refine ⟨q5, l6, _, _, rfl, rfl, hL, hl6, (by show 14 ≤ sizeLine; decide), fun q6 nq6 => ?_⟩
    have e27 := same_upd (o := .lst ([.ref t0, .ref t1, .ref t2, .ref t3, .ref t4, .ref t5, .ref t6, .ref t7, .ref t8, .ref t9, .ref t10, .ref t11] ++ [.ref t12, .ref t13])) nq6
    have hq6 : (upd G26 q6 (.lst ([.ref t0, .ref t1, .ref t2, .ref t3, .ref t4, .ref t5, .ref t6, .ref t7, .ref t8, .ref t9, .ref t10, .ref t11] ++ [.ref t12, .ref t13]))) q6 = some (.lst ([.ref t0, .ref t1, .ref t2, .ref t3, .ref t4, .ref t5, .ref t6, .ref t7, .ref t8, .ref t9, .ref t10, .ref t11] ++ [.ref t12, .ref t13])) := upd_same
    generalize upd G26 q6 (.lst ([.ref t0, .ref t1, .ref t2, .ref t3, .ref t4, .ref t5, .ref t6, .ref t7, .ref t8, .ref t9, .ref t10, .ref t11] ++ [.ref t12, .ref t13])) = G27 at e27 hq6 ⊢
    have E27 := E26.trans e27
    have F27 := fmv F26 e27
    have hL : G27 q6 = some (.lst [.ref t0, .ref t1, .ref t2, .ref t3, .ref t4, .ref t5, .ref t6, .ref t7, .ref t8, .ref t9, .ref t10, .ref t11, .ref t12, .ref t13]) := hq6
    refine ⟨_, rfl, _, rfl, C, _, _, _, ec, sc.x, hdx _ E27, rfl, fun u h => h, sc.k 14 _ rfl, (by show 2 ≤ sizeLine; decide), fun t14 nt14 => ?_⟩
    have e28 := same_upd (o := .tup [.str "RingWithoutDelay", .bl (decide (14 = i))]) nt14
    have ht14 : (upd G27 t14 (.tup [.str "RingWithoutDelay", .bl (decide (14 = i))])) t14 = some (.tup [.str "RingWithoutDelay", .bl (decide (14 = i))]) := upd_same
    generalize upd G27 t14 (.tup [.str "RingWithoutDelay", .bl (decide (14 = i))]) = G28 at e28 ht14 ⊢
    have E28 := E27.trans e28
    have F28 := fext 14 t14 F27 e28 ht14
    have hL := e28 _ _ hL
    refine ⟨(by show 1 ≤ sizeLine; decide), fun l7 nl7 => ?_⟩
    have e29 := same_upd (o := .lst [.ref t14]) nl7
    have hl7 : (upd G28 l7 (.lst [.ref t14])) l7 = some (.lst [.ref t14]) := upd_same
    generalize upd G28 l7 (.lst [.ref t14]) = G29 at e29 hl7 ⊢
    have E29 := E28.trans e29
    have F29 := fmv F28 e29
    have hL := e29 _ _ hL
    refine ⟨q6, l7, _, _, rfl, rfl, hL, hl7, (by show 15 ≤ sizeLine; decide), fun q7 nq7 => ?_⟩
    have e30 := same_upd (o := .lst ([.ref t0, .ref t1, .ref t2, .ref t3, .ref t4, .ref t5, .ref t6, .ref t7, .ref t8, .ref t9, .ref t10, .ref t11, .ref t12, .ref t13] ++ [.ref t14])) nq7
    have hq7 : (upd G29 q7 (.lst ([.ref t0, .ref t1, .ref t2, .ref t3, .ref t4, .ref t5, .ref t6, .ref t7, .ref t8, .ref t9, .ref t10, .ref t11, .ref t12, .ref t13] ++ [.ref t14]))) q7 = some (.lst ([.ref t0, .ref t1, .ref t2, .ref t3, .ref t4, .ref t5, .ref t6, .ref t7, .ref t8, .ref t9, .ref t10, .ref t11, .ref t12, .ref t13] ++ [.ref t14])) := upd_same
    generalize upd G29 q7 (.lst ([.ref t0, .ref t1, .ref t2, .ref t3, .ref t4, .ref t5, .ref t6, .ref t7, .ref t8, .ref t9, .ref t10, .ref t11, .ref t12, .ref t13] ++ [.ref t14])) = G30 at e30 hq7 ⊢
    have E30 := E29.trans e30
    have F30 := fmv F29 e30
    have hL : G30 q7 = some (.lst [.ref t0, .ref t1, .ref t2, .ref t3, .ref t4, .ref t5, .ref t6, .ref t7, .ref t8, .ref t9, .ref t10, .ref t11, .ref t12, .ref t13, .ref t14]) := hq7
    refine ⟨_, rfl, _, rfl, C, _, _, _, ec, sc.x, hdx _ E30, rfl, fun u h => h, sc.k 15 _ rfl, (by show 2 ≤ sizeLine; decide), fun t15 nt15 => ?_⟩
    have e31 := same_upd (o := .tup [.str "TooMany", .bl (decide (15 = i))]) nt15
    have ht15 : (upd G30 t15 (.tup [.str "TooMany", .bl (decide (15 = i))])) t15 = some (.tup [.str "TooMany", .bl (decide (15 = i))]) := upd_same
    generalize upd G30 t15 (.tup [.str "TooMany", .bl (decide (15 = i))]) = G31 at e31 ht15 ⊢
    have E31 := E30.trans e31
    have F31 := fext 15 t15 F30 e31 ht15
    have hL := e31 _ _ hL
    refine ⟨_, rfl, C, _, _, _, ec, sc.x, hdx _ E31, rfl, fun u h => h, sc.k 16 _ rfl, (by show 2 ≤ sizeLine; decide), fun t16 nt16 => ?_⟩
    have e32 := same_upd (o := .tup [.str "TooLarge", .bl (decide (16 = i))]) nt16
    have ht16 : (upd G31 t16 (.tup [.str "TooLarge", .bl (decide (16 = i))])) t16 = some (.tup [.str "TooLarge", .bl (decide (16 = i))]) := upd_same
    generalize upd G31 t16 (.tup [.str "TooLarge", .bl (decide (16 = i))]) = G32 at e32 ht16 ⊢
    have E32 := E31.trans e32
    have F32 := fext 16 t16 F31 e32 ht16
    have hL := e32 _ _ hL
    refine ⟨(by show 2 ≤ sizeLine; decide), fun l8 nl8 => ?_⟩
    have e33 := same_upd (o := .lst [.ref t15, .ref t16]) nl8
    have hl8 : (upd G32 l8 (.lst [.ref t15, .ref t16])) l8 = some (.lst [.ref t15, .ref t16]) := upd_same
    generalize upd G32 l8 (.lst [.ref t15, .ref t16]) = G33 at e33 hl8 ⊢
    have E33 := E32.trans e33
    have F33 := fmv F32 e33
    have hL := e33 _ _ hL
    refine ⟨q7, l8, _, _, rfl, rfl, hL, hl8, (by show 17 ≤ sizeLine; decide), fun q8 nq8 => ?_⟩
    have e34 := same_upd (o := .lst ([.ref t0, .ref t1, .ref t2, .ref t3, .ref t4, .ref t5, .ref t6, .ref t7, .ref t8, .ref t9, .ref t10, .ref t11, .ref t12, .ref t13, .ref t14] ++ [.ref t15, .ref t16])) nq8
    have hq8 : (upd G33 q8 (.lst ([.ref t0, .ref t1, .ref t2, .ref t3, .ref t4, .ref t5, .ref t6, .ref t7, .ref t8, .ref t9, .ref t10, .ref t11, .ref t12, .ref t13, .ref t14] ++ [.ref t15, .ref t16]))) q8 = some (.lst ([.ref t0, .ref t1, .ref t2, .ref t3, .ref t4, .ref t5, .ref t6, .ref t7, .ref t8, .ref t9, .ref t10, .ref t11, .ref t12, .ref t13, .ref t14] ++ [.ref t15, .ref t16])) := upd_same
    generalize upd G33 q8 (.lst ([.ref t0, .ref t1, .ref t2, .ref t3, .ref t4, .ref t5, .ref t6, .ref t7, .ref t8, .ref t9, .ref t10, .ref t11, .ref t12, .ref t13, .ref t14] ++ [.ref t15, .ref t16])) = G34 at e34 hq8 ⊢
    have E34 := E33.trans e34
    have F34 := fmv F33 e34
    have hL : G34 q8 = some (.lst [.ref t0, .ref t1, .ref t2, .ref t3, .ref t4, .ref t5, .ref t6, .ref t7, .ref t8, .ref t9, .ref t10, .ref t11, .ref t12, .ref t13, .ref t14, .ref t15, .ref t16]) := hq8
    have at17 : ∀ m, m < 17 → ∃ t, ([.ref t0, .ref t1, .ref t2, .ref t3, .ref t4, .ref t5, .ref t6, .ref t7, .ref t8, .ref t9, .ref t10, .ref t11, .ref t12, .ref t13, .ref t14, .ref t15, .ref t16] : List V)[m]? = some (V.ref t) ∧ (m, t) ∈ ([(16, t16), (15, t15), (14, t14), (13, t13), (12, t12), (11, t11), (10, t10), (9, t9), (8, t8), (7, t7), (6, t6), (5, t5), (4, t4), (3, t3), (2, t2), (1, t1), (0, t0)] : List (Nat × Addr)) := fun m hm => by
      match m, hm with
      | 0, _ => exact ⟨_, rfl, by simp⟩
      | 1, _ => exact ⟨_, rfl, by simp⟩
      | 2, _ => exact ⟨_, rfl, by simp⟩
      | 3, _ => exact ⟨_, rfl, by simp⟩
      | 4, _ => exact ⟨_, rfl, by simp⟩
      | 5, _ => exact ⟨_, rfl, by simp⟩
      | 6, _ => exact ⟨_, rfl, by simp⟩
      | 7, _ => exact ⟨_, rfl, by simp⟩
      | 8, _ => exact ⟨_, rfl, by simp⟩
      | 9, _ => exact ⟨_, rfl, by simp⟩
      | 10, _ => exact ⟨_, rfl, by simp⟩
      | 11, _ => exact ⟨_, rfl, by simp⟩
      | 12, _ => exact ⟨_, rfl, by simp⟩
      | 13, _ => exact ⟨_, rfl, by simp⟩
      | 14, _ => exact ⟨_, rfl, by simp⟩
      | 15, _ => exact ⟨_, rfl, by simp⟩
      | 16, _ => exact ⟨_, rfl, by simp⟩
      | m + 17, hm => omega
    generalize ([.ref t0, .ref t1, .ref t2, .ref t3, .ref t4, .ref t5, .ref t6, .ref t7, .ref t8, .ref t9, .ref t10, .ref t11, .ref t12, .ref t13, .ref t14, .ref t15, .ref t16] : List V) = vv at hL at17 ⊢
    generalize ([(16, t16), (15, t15), (14, t14), (13, t13), (12, t12), (11, t11), (10, t10), (9, t9), (8, t8), (7, t7), (6, t6), (5, t5), (4, t4), (3, t3), (2, t2), (1, t1), (0, t0)] : List (Nat × Addr)) = ll at F34 at17
    refine ⟨17, rfl, by decide, by decide, fun D nD => ?_⟩
    refine lc_range (lo := 0) (n := 17) (fun m H' => Same G34 H' ∧ H' D = some (.lst (if i < m then [V.int i] else []))) ⟨same_upd nD, by rw [upd_same, if_neg (by omega)]⟩ ?_ ?_
    · rintro m H' hm ⟨s1, hD⟩
      refine ⟨rfl, ?_⟩
      obtain ⟨t, hv, hin⟩ := at17 m hm
      obtain ⟨z, hz, ht⟩ := F34 _ hin
      refine ⟨_, rfl, _, rfl, q8, vv, (m : Int), .ref t, rfl, by rw [Int.zero_add], .inl (.inl (s1 _ _ hL)), atI_nat hv, t, _, 1, _, rfl, rfl, .inl (.inl (s1 _ _ ht)), rfl, _, rfl, ?_⟩
      by_cases hmi : m = i
      · rw [decide_eq_true hmi]
        rw [if_neg (by omega)] at hD
        refine iteT ?_
        refine ⟨_, rfl, [], hD, by decide, same_upd' s1 nD, ?_⟩
        rw [upd_same, if_pos (by omega), ← hmi, Int.zero_add]
        rfl
      · rw [decide_eq_false hmi]
        refine iteF ⟨s1, ?_⟩
        rw [hD]
        by_cases h : i < m
        · have h2 : i < m + 1 := by omega
          rw [if_pos h, if_pos h2]
        · have h2 : ¬ i < m + 1 := by omega
          rw [if_neg h, if_neg h2]
    rintro G0 ⟨s1, hD⟩
    rw [if_pos sc.lt] at hD
    have E : Same H G0 := E34.trans s1
    have F := fmv F34 s1
    have hL := s1 _ _ hL
    have isP : ∀ {G' : Hp}, Same H G' → DOk p G' := fun {G'} e => hdx _ e
    refine ⟨_, rfl, C, _, _, _, ec, sc.x, hdx _ E, rfl, fun u h => h, sc.kI, ?_⟩
    refine ⟨_, rfl, C, _, _, _, ec, sc.x, hdx _ E, rfl, fun u h => h, sc.kN, ?_⟩
    refine ⟨_, rfl, C, _, _, _, ec, sc.x, hdx _ E, rfl, fun u h => h, sc.kL, (by show 3 ≤ sizeLine; decide), fun b1 nb1 => ?_⟩
    have f1 := same_upd (o := .lst [.bl (decide (i < 9)), .bl (decide (8 < i ∧ i < 15)), .bl (decide (14 < i))]) nb1
    refine ⟨_, rfl, _, rfl, C, _, _, _, ec, sc.x, hdx _ (E.trans f1), rfl, fun u h => h, sc.kS, (by show 1 ≤ sizeLine; decide), fun b2 nb2 => ?_⟩
    have f2 := same_upd (o := .lst [.bl false]) nb2
    refine ⟨b1, b2, _, _, rfl, rfl, f2 _ _ upd_same, upd_same, (by show 4 ≤ sizeLine; decide), fun b3 nb3 => ?_⟩
    have f3 := same_upd (o := .lst ([.bl (decide (i < 9)), .bl (decide (8 < i ∧ i < 15)), .bl (decide (14 < i))] ++ [.bl false])) nb3
    have f := (f1.trans f2).trans f3
    have hD := f _ _ hD
    have hL := f _ _ hL
    have E := E.trans f
    refine ⟨_, rfl, D, _, rfl, .inl (.inl (.inl hD)), rfl, _, rfl, iteF ?_⟩
    obtain ⟨t, hv, hin⟩ := at17 i sc.lt
    obtain ⟨z, hz, ht⟩ := fmv F f _ hin
    rw [hx] at hz
    cases hz
    have q1 : decide (i < 9) = decide ((i : Int) < 9) := decide_eq_decide.mpr (by omega)
    have q3 : decide (14 < i) = decide ((14 : Int) < (i : Int)) := decide_eq_decide.mpr (by omega)
    refine ⟨_, rfl, _, rfl, D, _, 0, _, rfl, rfl, .inl (.inl hD), rfl, _, _, rfl, rfl, ?_⟩
    refine ⟨_, rfl, D, _, 0, _, rfl, rfl, .inl (.inl hD), rfl, _, _, rfl, rfl, _, rfl, ?_⟩
    refine ite2 (fun h8 => ?_) (fun h8 => ?_)
    · have h8 := of_decide_eq_true h8
      have q2 : decide (8 < i ∧ i < 15) = decide ((i : Int) < 15) := decide_eq_decide.mpr (by omega)
      refine ⟨_, _, rfl, rfl, ?_⟩
      refine ⟨_, rfl, D, _, 0, _, rfl, rfl, .inl (.inl hD), rfl, _, _, rfl, rfl, (by show 4 ≤ sizeLine; decide), fun b4 nb4 => ?_⟩
      have f4 := same_upd (o := .lst [.bl (decide ((i : Int) < 9)), .bl (decide ((i : Int) < 15)), .bl (decide ((14 : Int) < (i : Int))), .bl false]) nb4
      refine ⟨.list [.bool (decide (i < 9)), .bool (decide (8 < i ∧ i < 15)), .bool (decide (14 < i)), .bool false], .list [.bool (decide ((i : Int) < 9)), .bool (decide ((i : Int) < 15)), .bool (decide ((14 : Int) < (i : Int))), .bool false], .lst (.inl (.inl (f4 _ _ upd_same))) (dp_bls [_, _, _, _]), .lst (.inl (.inl upd_same)) (dp_bls [_, _, _, _]), shapedB _ _ _ _, shapedB _ _ _ _, _, rfl, ?_⟩
      rw [neq4 q1 q2 q3 rfl]
      refine iteF ?_
      refine ⟨_, rfl, _, rfl, D, _, 0, _, rfl, rfl, .inl (.inl (f4 _ _ hD)), rfl, q8, vv, (i : Int), .ref t, rfl, rfl, .inl (.inl (f4 _ _ hL)), atI_nat hv, t, _, 0, _, rfl, rfl, .inl (.inl (f4 _ _ ht)), rfl, ?_⟩
      exact k _ (E.trans f4)
    · have q2 : decide (8 < i ∧ i < 15) = false := decide_eq_false fun z => h8 (decide_eq_true (by omega))
      refine ⟨_, rfl, D, _, 0, _, rfl, rfl, .inl (.inl hD), rfl, _, _, rfl, rfl, (by show 4 ≤ sizeLine; decide), fun b4 nb4 => ?_⟩
      have f4 := same_upd (o := .lst [.bl (decide ((i : Int) < 9)), .bl false, .bl (decide ((14 : Int) < (i : Int))), .bl false]) nb4
      refine ⟨.list [.bool (decide (i < 9)), .bool (decide (8 < i ∧ i < 15)), .bool (decide (14 < i)), .bool false], .list [.bool (decide ((i : Int) < 9)), .bool false, .bool (decide ((14 : Int) < (i : Int))), .bool false], .lst (.inl (.inl (f4 _ _ upd_same))) (dp_bls [_, _, _, _]), .lst (.inl (.inl upd_same)) (dp_bls [_, _, _, _]), shapedB _ _ _ _, shapedB _ _ _ _, _, rfl, ?_⟩
      rw [neq4 q1 q2 q3 rfl]
      refine iteF ?_
      refine ⟨_, rfl, _, rfl, D, _, 0, _, rfl, rfl, .inl (.inl (f4 _ _ hD)), rfl, q8, vv, (i : Int), .ref t, rfl, rfl, .inl (.inl (f4 _ _ hL)), atI_nat hv, t, _, 0, _, rfl, rfl, .inl (.inl (f4 _ _ ht)), rfl, ?_⟩
      exact k _ (E.trans f4)
end
end K11

namespace K11
open PySem PySem.Spec PyProof.Rows L2 Hk HotX L2H
/-- the field that an error of this sort bears -/
inductive FieldOf : Str → Str → Prop
  | index : FieldOf "InvalidTerms" "index"
  | limit : FieldOf "TooMany" "limit"
  | value {x : Str} (h : x ∈ (["InvalidName", "InvalidText", "InvalidStep", "InvalidGain", "InvalidCount", "NotASignal"] : List Str)) : FieldOf x "value"
def vals : List Str := ["InvalidName", "InvalidText", "InvalidStep", "InvalidGain", "InvalidCount", "NotASignal"]
abbrev L1 : List V := [.str "InvalidTerms", .str "InvalidInputs", .str "InvalidOutputs"]
abbrev L2' : List V := [.str "UnknownName", .str "NameTaken", .str "TwoRates", .str "NoRate"]
abbrev L3 : List V := [.str "TooMany", .str "TooLarge"]
abbrev L4 : List V := [.str "NoOutput", .str ""]
theorem val_out {x : Str} (h : x ∈ vals) : inV (.str x) L1 = false ∧ inV (.str x) L2' = false ∧ inV (.str x) L3 = false ∧ inV (.str x) L4 = false ∧ decide (V.str x = .str "RingWithoutDelay") = false := by
  have a : ∀ x ∈ vals, inV (.str x) L1 = false ∧ inV (.str x) L2' = false ∧ inV (.str x) L3 = false ∧ inV (.str x) L4 = false ∧ decide (V.str x = .str "RingWithoutDelay") = false := by decide +kernel
  exact a x h
section
variable {P : Program} {w : World} {K : Fr} {mg : Str → Option Value} {base : Heap}
abbrev N_field : List Str := ["_law_e", "_law_word"]
def spField (K : Fr) (p : Addr × Obj) : Sp := fun vs H Q _ => ∃ (C dd : Addr) (x f : Str) (fs : List (Str × V)) (v : V), vs = [.ref p.1, .str x] ∧ FieldOf x f ∧ p.2.cls = .ref C ∧ XfC K C ∧ PySem.W.findIn K (.ref C) f = some none ∧ p.2.dict = some dd ∧ H dd = some (.xd fs) ∧ fs.lookup f = some v ∧ ∀ H', Same H H' → Q v H'
theorem c_field (T : Tx K mg) (p : Addr × Obj) : CalP P w K mg base 1 "_law_field" (gAd "_law_field" K) ["_law_e", "_law_word"] p (spField K p) := by
  refine calp_of (d := d_l_field) (N := N_field) (a_l_field T.c) rfl sc_l_field (g_l_field T) (fun _ _ _ _ _ _ us hl => match us, hl with | [_, _], _ => rfl) (fun vs H Q E h => ?_) (fun cdv A outer s H vs Q E hot hr h => ?_)
  · obtain ⟨C, dd, x, f, fs, v, rfl, _⟩ := h
    rfl
  · obtain ⟨C, dd, x, f, fs, v, rfl, fo, ec, xc, nf, ed, hd, hl, k⟩ := h
    have hf : ∃ vs, p.2.data = .fields vs := by
      obtain ⟨_, vs, h1, _⟩ := hot
      exact ⟨vs, h1⟩
    refine ⟨_, (pss_cons (ps_if (pt_cmpR op_in_seq (pv 1) (pe_lst (pa_cons pe_str (pa_cons pe_str (pa_cons pe_str pa_nil)))) (by with_unfolding_all rfl))
 (pss_one (ps_ret (pe_xfP (oe := p.2) List.mem_cons_self ⟨rfl, rfl⟩ hf (pv 0))))
 pss_nil)
 (pss_cons (ps_if (pt_cmpR op_in_seq (pv 1) (pe_lst (pa_cons pe_str (pa_cons pe_str (pa_cons pe_str (pa_cons pe_str pa_nil))))) (by with_unfolding_all rfl))
 (pss_one (ps_ret (pe_xfP (oe := p.2) List.mem_cons_self ⟨rfl, rfl⟩ hf (pv 0))))
 pss_nil)
 (pss_cons (ps_if (pt_cmpR op_in_seq (pv 1) (pe_lst (pa_cons pe_str (pa_cons pe_str pa_nil))) (by with_unfolding_all rfl))
 (pss_one (ps_ret (pe_xfP (oe := p.2) List.mem_cons_self ⟨rfl, rfl⟩ hf (pv 0))))
 pss_nil)
 (pss_cons (ps_if (pt_cmpR op_eq (pv 1) pe_str (nomark _))
 (pss_one (ps_ret (pe_xfP (oe := p.2) List.mem_cons_self ⟨rfl, rfl⟩ hf (pv 0))))
 pss_nil)
 (pss_one (ps_ret (pe_ifExp (pt_cmpR op_in_seq (pv 1) (pe_lst (pa_cons pe_str (pa_cons pe_str pa_nil))) (by with_unfolding_all rfl)) pe_non (pe_xfP (oe := p.2) List.mem_cons_self ⟨rfl, rfl⟩ hf (pv 0))))))))), ?_⟩
    have fin : ∀ G, Same H G → G dd = some (.xd fs) := fun G e => e _ _ hd
    refine ⟨_, rfl, (by show 3 ≤ sizeLine; decide), fun l1 n1 => ⟨l1, L1, rfl, .inl (.inl (.inl upd_same)), rfl, rfl, ?_⟩⟩
    have e1 := same_upd (o := .lst L1) n1
    cases fo with
    | index =>
      refine ⟨true, rfl, iteT ?_⟩
      exact ⟨_, rfl, rfl, C, dd, fs, v, ec, xc, nf, ed, e1 _ _ hd, hl, k _ e1⟩
    | limit =>
      refine ⟨false, rfl, iteF ?_⟩
      refine ⟨_, rfl, (by show 4 ≤ sizeLine; decide), fun l2 n2 => ⟨l2, L2', rfl, .inl (.inl (.inl upd_same)), rfl, rfl, false, rfl, iteF ?_⟩⟩
      refine ⟨_, rfl, (by show 2 ≤ sizeLine; decide), fun l3 n3 => ⟨l3, L3, rfl, .inl (.inl (.inl upd_same)), rfl, rfl, true, rfl, iteT ?_⟩⟩
      have e3 := (e1.trans (same_upd (o := .lst L2') n2)).trans (same_upd (o := .lst L3) n3)
      exact ⟨_, rfl, rfl, C, dd, fs, v, ec, xc, nf, ed, e3 _ _ hd, hl, k _ e3⟩
    | value hx =>
      obtain ⟨o1, o2, o3, o4, o5⟩ := val_out hx
      refine ⟨false, congrArg V.bl o1, iteF ?_⟩
      refine ⟨_, rfl, (by show 4 ≤ sizeLine; decide), fun l2 n2 => ⟨l2, L2', rfl, .inl (.inl (.inl upd_same)), rfl, rfl, false, congrArg V.bl o2, iteF ?_⟩⟩
      refine ⟨_, rfl, (by show 2 ≤ sizeLine; decide), fun l3 n3 => ⟨l3, L3, rfl, .inl (.inl (.inl upd_same)), rfl, rfl, false, congrArg V.bl o3, iteF ?_⟩⟩
      refine ⟨_, rfl, rfl, false, congrArg V.bl o5, iteF ?_⟩
      refine ⟨_, rfl, (by show 2 ≤ sizeLine; decide), fun l4 n4 => ⟨l4, L4, rfl, .inl (.inl (.inl upd_same)), rfl, rfl, false, congrArg V.bl o4, iteF ?_⟩⟩
      have e4 := ((e1.trans (same_upd (o := .lst L2') n2)).trans (same_upd (o := .lst L3) n3)).trans (same_upd (o := .lst L4) n4)
      exact ⟨_, rfl, rfl, C, dd, fs, v, ec, xc, nf, ed, e4 _ _ hd, hl, k _ e4⟩
end
end K11

namespace K11
open PySem PySem.Spec PyProof.Rows L2 Hk HotX L2H LamX
section
variable {P : Program} {w : World} {K : Fr} {mg : Str → Option Value} {base : Heap}
def spSortA (K : Fr) (a : Addr) (cls : Value) (d : Option Addr) : Sp := fun vs H Q _ => ∃ (C : Addr) (i : Nat) (x : Str), vs = [.ref a] ∧ cls = .ref C ∧ SortC K C i ∧ SORT[i]? = some x ∧ (d = none ∨ ∃ dd fs, d = some dd ∧ H dd = some (.xd fs)) ∧ ∀ H', Same H H' → Q (.str x) H'
def spFieldA (K : Fr) (a : Addr) (cls : Value) (d : Option Addr) : Sp := fun vs H Q _ => ∃ (C dd : Addr) (x f : Str) (fs : List (Str × V)) (v : V), vs = [.ref a, .str x] ∧ FieldOf x f ∧ cls = .ref C ∧ XfC K C ∧ PySem.W.findIn K (.ref C) f = some none ∧ d = some dd ∧ H dd = some (.xd fs) ∧ fs.lookup f = some v ∧ ∀ H', Same H H' → Q v H'
theorem c_sortA (T : Tx K mg) {a : Addr} {oe : Obj} {cls : Value} {d : Option Addr} (hz : Zc cls d oe) : CalP P w K mg base 1 "_law_sort" (gAd "_law_sort" K) ["_law_e"] (a, oe) (spSortA K a cls d) := by
  obtain ⟨rfl, rfl⟩ := hz
  exact c_sort T (a, oe)
theorem c_fieldA (T : Tx K mg) {a : Addr} {oe : Obj} {cls : Value} {d : Option Addr} (hz : Zc cls d oe) : CalP P w K mg base 1 "_law_field" (gAd "_law_field" K) ["_law_e", "_law_word"] (a, oe) (spFieldA K a cls d) := by
  obtain ⟨rfl, rfl⟩ := hz
  exact c_field T (a, oe)
abbrev N_caught : List Str := ["_law_act", "_law_told", "_law_e", "_law_word"]
abbrev heads (K : Fr) : List Value := [.ref (He.ga K "InputError"), .ref (He.ga K "NetError"), .ref (He.ga K "LimitError"), .ref (He.ga K "StateError")]
/-- a list of two is made of what repr gives of v -/
abbrev Told (rr : List V → Hp → VK → Prop) (Q : VK) (x : Str) (v : V) (G : Hp) : Prop := rr [v] G fun z G' => [V.str x, z].length ≤ sizeLine ∧ ∀ l, G' l = none → Q (.ref l) (upd G' l (.lst [.str x, z]))
/-- an error of the sort x, its field holds v -/
structure ErrIs (K : Fr) (cls : Value) (d : Option Addr) (H : Hp) (x : Str) (v : V) : Prop where
  e : ∃ (C : Addr) (i : Nat) (f : Str) (dd : Addr) (fs : List (Str × V)), cls = .ref C ∧ SortC K C i ∧ SORT[i]? = some x ∧ FieldOf x f ∧ XfC K C ∧ PySem.W.findIn K (.ref C) f = some none ∧ d = some dd ∧ H dd = some (.xd fs) ∧ fs.lookup f = some v
  h : PySem.W.exmAny K cls (heads K) = some true
/-- what _law_caught makes of the lambda -/
def TTc (K : Fr) (rr : List V → Hp → VK → Prop) : (XK → Hp → VK → Prop) → Hp → VK → Prop := fun tl H Q =>
  tl (fun cls d H' => ∃ x v, ErrIs K cls d H' x v ∧ ∀ G, Same H' G → Told rr Q x v G) H (fun v H' => ∃ y, (some (some v) : Option (Option V)) = some (some y) ∧ Told rr Q "told" y H')
theorem g_caught (T : Tx K mg) {X : Cx} (hP : X.prog = P) (hw : X.w = w) (hK : X.K = K) (hm : X.mg = mg) (hbase : X.base = base) (q : Str) (cdv : Value) {rr : List V → Hp → VK → Prop}
    (R0 : ∀ (s : Shared) (H : Hp), Room 8 (X.A.deeper (envOfC d_l_caught.ql (defScope d_l_caught.st) s.heap.objs.size (d_l_caught.ad X.K) cdv)) → CallR (cxOf CX0 X.prog X.w X.K X.mg X.base N_caught d_l_caught.ql (defScope d_l_caught.st) (d_l_caught.ad X.K) cdv X.A X.stack s H E0).nox (.builtin "repr") rr)
    (R1 : ∀ (s : Shared) (H : Hp) (a : Addr) (oe : Obj) (cls : Value) (d : Option Addr) (pn : List (Addr × Obj)), Room 8 (X.A.deeper (envOfC d_l_caught.ql (defScope d_l_caught.st) s.heap.objs.size (d_l_caught.ad X.K) cdv)) → L2N.Zn cls d oe → (∃ vs, oe.data = .fields vs) →
      CallR (Cx.suite (cxOf CX0 X.prog X.w X.K X.mg X.base N_caught d_l_caught.ql (defScope d_l_caught.st) (d_l_caught.ad X.K) cdv X.A X.stack s H E0).nox a ((a, oe) :: pn)) (.builtin "repr") rr) :
    GivesN 8 X N_caught d_l_caught.ql (defScope d_l_caught.st) (d_l_caught.ad X.K) cdv (defBody d_l_caught.st) "_law_act" q (TTc K rr) := by
  subst hP hw hK hm hbase
  intro f c' s H Q tl act hr hco h
  have hr8 := hr.mono (show 8 ≤ 8 + 1 by decide)
  have C_sort : ∀ {a : Addr} {oe : Obj} {cls : Value} {d : Option Addr}, L2N.Zn cls d oe → CalP X.prog X.w X.K X.mg X.base 1 "_law_sort" (gAd "_law_sort" X.K) ["_law_e"] (a, oe) (spSortA X.K a cls d) := fun hz => c_sortA T hz.zc
  have C_field : ∀ {a : Addr} {oe : Obj} {cls : Value} {d : Option Addr}, L2N.Zn cls d oe → CalP X.prog X.w X.K X.mg X.base 1 "_law_field" (gAd "_law_field" X.K) ["_law_e", "_law_word"] (a, oe) (spFieldA X.K a cls d) := fun hz => c_fieldA T hz.zc
  have rh : ∀ a : Addr, RoomH 1 ((X.A.deeper (envOfC d_l_caught.ql (defScope d_l_caught.st) s.heap.objs.size (d_l_caught.ad X.K) cdv)).mark (some (.ref a))) := fun a => roomH_mark (hr.mono (by decide)) _
  have hot : ∀ {a : Addr} {oe : Obj} {cls : Value} {d : Option Addr}, L2N.Zn cls d oe → (∃ vs, oe.data = .fields vs) → Hot1 ((X.A.deeper (envOfC d_l_caught.ql (defScope d_l_caught.st) s.heap.objs.size (d_l_caught.ad X.K) cdv)).mark (some (.ref a))) (a, oe) := fun {a oe cls d} hz hf => by
    obtain ⟨vs, hv⟩ := hf
    exact ⟨rfl, vs, hv, hz.2.2 vs hv⟩
  refine ⟨_, pss_cons (ps_try_A (l := [(_, 2, _)]) rfl rfl sc_l_caught.nd (takesN0 _)
      (tb := fun W D σ H => ∃ Ech : XK, (∀ cls d (σ' : L2.St) H', σ'.length = 4 → Ech cls d H' → W cls d σ' H') ∧ σ[0]? = some (some (.ref f)) ∧ H c' = some (CodeO c' q) ∧ tl Ech H (fun v H' => D.nx (σ.set 1 (some v)) H'))
      (fun W pn xe tk _ => ?body)
      (.cons (head_tup4 ⟨rfl, g_InputError T, by decide⟩ ⟨rfl, g_NetError T, by decide⟩ ⟨rfl, g_LimitError T, by decide⟩ ⟨rfl, g_StateError T, by decide⟩) rfl rfl (fun a oe cls d pn hz hf =>
          pss_cons (ps_set (i := 3) sc_l_caught.nd rfl (.inl rfl) (pe_cp (C_sort hz) (rh a) (hot hz hf) List.mem_cons_self (pa_cons (pv 2) pa_nil)))
          (pss_one (ps_ret (pe_lst (pa_cons (pv 3) (pa_cons (pe_callB (R1 s H a oe cls d pn hr8 hz hf) (by rfl) (n_repr T) bo_repr (pa_cons (pe_cp (C_field hz) (rh a) (hot hz hf) List.mem_cons_self (pa_cons (pv 2) (pa_cons (pv 3) pa_nil))) pa_nil)) pa_nil)))))) .nil))
      (pss_one (ps_ret (pe_lst (pa_cons pe_str (pa_cons (pe_callB (R0 s H hr8) (by rfl) (n_repr T) bo_repr (pa_cons (pv 1) pa_nil)) pa_nil))))), ?_⟩
  case body =>
    refine ⟨fun pins s' σ H' D I h' => ?_⟩
    obtain ⟨Ech, hW, h1, h2, h3⟩ := h'
    exact (pss_one (ps_set (i := 1) sc_l_caught.nd rfl (.inl rfl) (act W pn xe Ech _ _ tk hW))).run pins s' σ H' D I ⟨h1, h2, h3⟩
  have len4 : ∀ {σ' : L2.St} {v : V}, σ'.length = 4 → (σ'.set 2 (some v))[2]? = some (some v) := fun {σ' v} hl => by
    rw [List.getElem?_set_self (by omega)]
  refine ⟨_, fun cls d σ' H' hl he => ?_, rfl, hco, h⟩
  obtain ⟨x, v, er, gz⟩ := he
  obtain ⟨⟨C, i, f, dd, fs, rfl, sc, hx, fo, xc, nf, rfl, hdd, hl2⟩, hh⟩ := er
  refine ⟨true, hh, fun _ ax nax => ?_, fun z => nomatch z⟩
  refine ⟨_, len4 hl, C, i, x, rfl, rfl, sc, hx, .inr ⟨dd, fs, rfl, hdd⟩, fun G e => ?_⟩
  have l3 : ((σ'.set 2 (some (V.ref ax))).set 3 (some (V.str x))).length = 4 := by simpa using hl
  have g3 : ((σ'.set 2 (some (V.ref ax))).set 3 (some (V.str x)))[3]? = some (some (V.str x)) := by
    rw [List.getElem?_set_self (by simpa using (show 3 < σ'.length by omega))]
  have g2 : ((σ'.set 2 (some (V.ref ax))).set 3 (some (V.str x)))[2]? = some (some (V.ref ax)) := by
    rw [List.getElem?_set_ne (by decide), len4 hl]
  refine ⟨_, g3, _, g2, _, g3, C, dd, x, f, fs, v, rfl, fo, rfl, xc, nf, rfl, e _ _ hdd, hl2, fun G2 e2 => ?_⟩
  exact gz G2 (e.trans e2)
end
end K11

namespace K11
open PySem PySem.Spec PyProof.Rows L2 Hk HotX L2H
section
variable {P : Program} {w : World} {K : Fr} {mg : Str → Option Value} {base : Heap}
theorem srt_InvalidName (T : Tx K mg) : SortC K (He.ga K "InvalidName") 0 := by
  have a := f_srt_InvalidName T.c
  refine ⟨by decide, fun j x hx => ?_, of_decide_eq_true (tAll_at a 17), of_decide_eq_true (tAll_at a 18), of_decide_eq_true (tAll_at a 19), of_decide_eq_true (tAll_at a 20), (veB_ok (f_ve_InvalidName T.c)).x⟩
  match j, hx with
  | 0, hx => cases hx; exact of_decide_eq_true (tAll_at a 0)
  | 1, hx => cases hx; exact of_decide_eq_true (tAll_at a 1)
  | 2, hx => cases hx; exact of_decide_eq_true (tAll_at a 2)
  | 3, hx => cases hx; exact of_decide_eq_true (tAll_at a 3)
  | 4, hx => cases hx; exact of_decide_eq_true (tAll_at a 4)
  | 5, hx => cases hx; exact of_decide_eq_true (tAll_at a 5)
  | 6, hx => cases hx; exact of_decide_eq_true (tAll_at a 6)
  | 7, hx => cases hx; exact of_decide_eq_true (tAll_at a 7)
  | 8, hx => cases hx; exact of_decide_eq_true (tAll_at a 8)
  | 9, hx => cases hx; exact of_decide_eq_true (tAll_at a 9)
  | 10, hx => cases hx; exact of_decide_eq_true (tAll_at a 10)
  | 11, hx => cases hx; exact of_decide_eq_true (tAll_at a 11)
  | 12, hx => cases hx; exact of_decide_eq_true (tAll_at a 12)
  | 13, hx => cases hx; exact of_decide_eq_true (tAll_at a 13)
  | 14, hx => cases hx; exact of_decide_eq_true (tAll_at a 14)
  | 15, hx => cases hx; exact of_decide_eq_true (tAll_at a 15)
  | 16, hx => cases hx; exact of_decide_eq_true (tAll_at a 16)
  | j + 17, hx => cases hx
theorem err_InvalidName (T : Tx K mg) {d : Addr} {H : Hp} {fs : List (Str × V)} {v : V} (hd : H d = some (.xd fs)) (hl : fs.lookup ("value" : Str) = some v) : ErrIs K (.ref (He.ga K "InvalidName")) (some d) H "InvalidName" v := by
  refine ⟨⟨_, 0, "value", d, fs, rfl, srt_InvalidName T, rfl, (.value (by decide +kernel)), xfB_ok (f_xfc_InvalidName T.c), He.eqO_ok (f_nof_InvalidName T.c), rfl, hd, hl⟩, ?_⟩
  have a := f_exm_InvalidName T.c
  have e0 := of_decide_eq_true (tAll_at a 0)
  have e1 := of_decide_eq_true (tAll_at a 1)
  have e2 := of_decide_eq_true (tAll_at a 2)
  have e3 := of_decide_eq_true (tAll_at a 3)
  unfold heads
  simp only [PySem.W.exmAny, e0, e1, e2, e3]
  rfl
theorem srt_InvalidStep (T : Tx K mg) : SortC K (He.ga K "InvalidStep") 2 := by
  have a := f_srt_InvalidStep T.c
  refine ⟨by decide, fun j x hx => ?_, of_decide_eq_true (tAll_at a 17), of_decide_eq_true (tAll_at a 18), of_decide_eq_true (tAll_at a 19), of_decide_eq_true (tAll_at a 20), (veB_ok (f_ve_InvalidStep T.c)).x⟩
  match j, hx with
  | 0, hx => cases hx; exact of_decide_eq_true (tAll_at a 0)
  | 1, hx => cases hx; exact of_decide_eq_true (tAll_at a 1)
  | 2, hx => cases hx; exact of_decide_eq_true (tAll_at a 2)
  | 3, hx => cases hx; exact of_decide_eq_true (tAll_at a 3)
  | 4, hx => cases hx; exact of_decide_eq_true (tAll_at a 4)
  | 5, hx => cases hx; exact of_decide_eq_true (tAll_at a 5)
  | 6, hx => cases hx; exact of_decide_eq_true (tAll_at a 6)
  | 7, hx => cases hx; exact of_decide_eq_true (tAll_at a 7)
  | 8, hx => cases hx; exact of_decide_eq_true (tAll_at a 8)
  | 9, hx => cases hx; exact of_decide_eq_true (tAll_at a 9)
  | 10, hx => cases hx; exact of_decide_eq_true (tAll_at a 10)
  | 11, hx => cases hx; exact of_decide_eq_true (tAll_at a 11)
  | 12, hx => cases hx; exact of_decide_eq_true (tAll_at a 12)
  | 13, hx => cases hx; exact of_decide_eq_true (tAll_at a 13)
  | 14, hx => cases hx; exact of_decide_eq_true (tAll_at a 14)
  | 15, hx => cases hx; exact of_decide_eq_true (tAll_at a 15)
  | 16, hx => cases hx; exact of_decide_eq_true (tAll_at a 16)
  | j + 17, hx => cases hx
theorem err_InvalidStep (T : Tx K mg) {d : Addr} {H : Hp} {fs : List (Str × V)} {v : V} (hd : H d = some (.xd fs)) (hl : fs.lookup ("value" : Str) = some v) : ErrIs K (.ref (He.ga K "InvalidStep")) (some d) H "InvalidStep" v := by
  refine ⟨⟨_, 2, "value", d, fs, rfl, srt_InvalidStep T, rfl, (.value (by decide +kernel)), xfB_ok (f_xfc_InvalidStep T.c), He.eqO_ok (f_nof_InvalidStep T.c), rfl, hd, hl⟩, ?_⟩
  have a := f_exm_InvalidStep T.c
  have e0 := of_decide_eq_true (tAll_at a 0)
  have e1 := of_decide_eq_true (tAll_at a 1)
  have e2 := of_decide_eq_true (tAll_at a 2)
  have e3 := of_decide_eq_true (tAll_at a 3)
  unfold heads
  simp only [PySem.W.exmAny, e0, e1, e2, e3]
  rfl
theorem srt_InvalidGain (T : Tx K mg) : SortC K (He.ga K "InvalidGain") 3 := by
  have a := f_srt_InvalidGain T.c
  refine ⟨by decide, fun j x hx => ?_, of_decide_eq_true (tAll_at a 17), of_decide_eq_true (tAll_at a 18), of_decide_eq_true (tAll_at a 19), of_decide_eq_true (tAll_at a 20), (veB_ok (f_ve_InvalidGain T.c)).x⟩
  match j, hx with
  | 0, hx => cases hx; exact of_decide_eq_true (tAll_at a 0)
  | 1, hx => cases hx; exact of_decide_eq_true (tAll_at a 1)
  | 2, hx => cases hx; exact of_decide_eq_true (tAll_at a 2)
  | 3, hx => cases hx; exact of_decide_eq_true (tAll_at a 3)
  | 4, hx => cases hx; exact of_decide_eq_true (tAll_at a 4)
  | 5, hx => cases hx; exact of_decide_eq_true (tAll_at a 5)
  | 6, hx => cases hx; exact of_decide_eq_true (tAll_at a 6)
  | 7, hx => cases hx; exact of_decide_eq_true (tAll_at a 7)
  | 8, hx => cases hx; exact of_decide_eq_true (tAll_at a 8)
  | 9, hx => cases hx; exact of_decide_eq_true (tAll_at a 9)
  | 10, hx => cases hx; exact of_decide_eq_true (tAll_at a 10)
  | 11, hx => cases hx; exact of_decide_eq_true (tAll_at a 11)
  | 12, hx => cases hx; exact of_decide_eq_true (tAll_at a 12)
  | 13, hx => cases hx; exact of_decide_eq_true (tAll_at a 13)
  | 14, hx => cases hx; exact of_decide_eq_true (tAll_at a 14)
  | 15, hx => cases hx; exact of_decide_eq_true (tAll_at a 15)
  | 16, hx => cases hx; exact of_decide_eq_true (tAll_at a 16)
  | j + 17, hx => cases hx
theorem err_InvalidGain (T : Tx K mg) {d : Addr} {H : Hp} {fs : List (Str × V)} {v : V} (hd : H d = some (.xd fs)) (hl : fs.lookup ("value" : Str) = some v) : ErrIs K (.ref (He.ga K "InvalidGain")) (some d) H "InvalidGain" v := by
  refine ⟨⟨_, 3, "value", d, fs, rfl, srt_InvalidGain T, rfl, (.value (by decide +kernel)), xfB_ok (f_xfc_InvalidGain T.c), He.eqO_ok (f_nof_InvalidGain T.c), rfl, hd, hl⟩, ?_⟩
  have a := f_exm_InvalidGain T.c
  have e0 := of_decide_eq_true (tAll_at a 0)
  have e1 := of_decide_eq_true (tAll_at a 1)
  have e2 := of_decide_eq_true (tAll_at a 2)
  have e3 := of_decide_eq_true (tAll_at a 3)
  unfold heads
  simp only [PySem.W.exmAny, e0, e1, e2, e3]
  rfl
theorem srt_InvalidCount (T : Tx K mg) : SortC K (He.ga K "InvalidCount") 4 := by
  have a := f_srt_InvalidCount T.c
  refine ⟨by decide, fun j x hx => ?_, of_decide_eq_true (tAll_at a 17), of_decide_eq_true (tAll_at a 18), of_decide_eq_true (tAll_at a 19), of_decide_eq_true (tAll_at a 20), (veB_ok (f_ve_InvalidCount T.c)).x⟩
  match j, hx with
  | 0, hx => cases hx; exact of_decide_eq_true (tAll_at a 0)
  | 1, hx => cases hx; exact of_decide_eq_true (tAll_at a 1)
  | 2, hx => cases hx; exact of_decide_eq_true (tAll_at a 2)
  | 3, hx => cases hx; exact of_decide_eq_true (tAll_at a 3)
  | 4, hx => cases hx; exact of_decide_eq_true (tAll_at a 4)
  | 5, hx => cases hx; exact of_decide_eq_true (tAll_at a 5)
  | 6, hx => cases hx; exact of_decide_eq_true (tAll_at a 6)
  | 7, hx => cases hx; exact of_decide_eq_true (tAll_at a 7)
  | 8, hx => cases hx; exact of_decide_eq_true (tAll_at a 8)
  | 9, hx => cases hx; exact of_decide_eq_true (tAll_at a 9)
  | 10, hx => cases hx; exact of_decide_eq_true (tAll_at a 10)
  | 11, hx => cases hx; exact of_decide_eq_true (tAll_at a 11)
  | 12, hx => cases hx; exact of_decide_eq_true (tAll_at a 12)
  | 13, hx => cases hx; exact of_decide_eq_true (tAll_at a 13)
  | 14, hx => cases hx; exact of_decide_eq_true (tAll_at a 14)
  | 15, hx => cases hx; exact of_decide_eq_true (tAll_at a 15)
  | 16, hx => cases hx; exact of_decide_eq_true (tAll_at a 16)
  | j + 17, hx => cases hx
theorem err_InvalidCount (T : Tx K mg) {d : Addr} {H : Hp} {fs : List (Str × V)} {v : V} (hd : H d = some (.xd fs)) (hl : fs.lookup ("value" : Str) = some v) : ErrIs K (.ref (He.ga K "InvalidCount")) (some d) H "InvalidCount" v := by
  refine ⟨⟨_, 4, "value", d, fs, rfl, srt_InvalidCount T, rfl, (.value (by decide +kernel)), xfB_ok (f_xfc_InvalidCount T.c), He.eqO_ok (f_nof_InvalidCount T.c), rfl, hd, hl⟩, ?_⟩
  have a := f_exm_InvalidCount T.c
  have e0 := of_decide_eq_true (tAll_at a 0)
  have e1 := of_decide_eq_true (tAll_at a 1)
  have e2 := of_decide_eq_true (tAll_at a 2)
  have e3 := of_decide_eq_true (tAll_at a 3)
  unfold heads
  simp only [PySem.W.exmAny, e0, e1, e2, e3]
  rfl
theorem srt_NotASignal (T : Tx K mg) : SortC K (He.ga K "NotASignal") 5 := by
  have a := f_srt_NotASignal T.c
  refine ⟨by decide, fun j x hx => ?_, of_decide_eq_true (tAll_at a 17), of_decide_eq_true (tAll_at a 18), of_decide_eq_true (tAll_at a 19), of_decide_eq_true (tAll_at a 20), (veB_ok (f_ve_NotASignal T.c)).x⟩
  match j, hx with
  | 0, hx => cases hx; exact of_decide_eq_true (tAll_at a 0)
  | 1, hx => cases hx; exact of_decide_eq_true (tAll_at a 1)
  | 2, hx => cases hx; exact of_decide_eq_true (tAll_at a 2)
  | 3, hx => cases hx; exact of_decide_eq_true (tAll_at a 3)
  | 4, hx => cases hx; exact of_decide_eq_true (tAll_at a 4)
  | 5, hx => cases hx; exact of_decide_eq_true (tAll_at a 5)
  | 6, hx => cases hx; exact of_decide_eq_true (tAll_at a 6)
  | 7, hx => cases hx; exact of_decide_eq_true (tAll_at a 7)
  | 8, hx => cases hx; exact of_decide_eq_true (tAll_at a 8)
  | 9, hx => cases hx; exact of_decide_eq_true (tAll_at a 9)
  | 10, hx => cases hx; exact of_decide_eq_true (tAll_at a 10)
  | 11, hx => cases hx; exact of_decide_eq_true (tAll_at a 11)
  | 12, hx => cases hx; exact of_decide_eq_true (tAll_at a 12)
  | 13, hx => cases hx; exact of_decide_eq_true (tAll_at a 13)
  | 14, hx => cases hx; exact of_decide_eq_true (tAll_at a 14)
  | 15, hx => cases hx; exact of_decide_eq_true (tAll_at a 15)
  | 16, hx => cases hx; exact of_decide_eq_true (tAll_at a 16)
  | j + 17, hx => cases hx
theorem err_NotASignal (T : Tx K mg) {d : Addr} {H : Hp} {fs : List (Str × V)} {v : V} (hd : H d = some (.xd fs)) (hl : fs.lookup ("value" : Str) = some v) : ErrIs K (.ref (He.ga K "NotASignal")) (some d) H "NotASignal" v := by
  refine ⟨⟨_, 5, "value", d, fs, rfl, srt_NotASignal T, rfl, (.value (by decide +kernel)), xfB_ok (f_xfc_NotASignal T.c), He.eqO_ok (f_nof_NotASignal T.c), rfl, hd, hl⟩, ?_⟩
  have a := f_exm_NotASignal T.c
  have e0 := of_decide_eq_true (tAll_at a 0)
  have e1 := of_decide_eq_true (tAll_at a 1)
  have e2 := of_decide_eq_true (tAll_at a 2)
  have e3 := of_decide_eq_true (tAll_at a 3)
  unfold heads
  simp only [PySem.W.exmAny, e0, e1, e2, e3]
  rfl
theorem srt_InvalidTerms (T : Tx K mg) : SortC K (He.ga K "InvalidTerms") 6 := by
  have a := f_srt_InvalidTerms T.c
  refine ⟨by decide, fun j x hx => ?_, of_decide_eq_true (tAll_at a 17), of_decide_eq_true (tAll_at a 18), of_decide_eq_true (tAll_at a 19), of_decide_eq_true (tAll_at a 20), (veB_ok (f_ve_InvalidTerms T.c)).x⟩
  match j, hx with
  | 0, hx => cases hx; exact of_decide_eq_true (tAll_at a 0)
  | 1, hx => cases hx; exact of_decide_eq_true (tAll_at a 1)
  | 2, hx => cases hx; exact of_decide_eq_true (tAll_at a 2)
  | 3, hx => cases hx; exact of_decide_eq_true (tAll_at a 3)
  | 4, hx => cases hx; exact of_decide_eq_true (tAll_at a 4)
  | 5, hx => cases hx; exact of_decide_eq_true (tAll_at a 5)
  | 6, hx => cases hx; exact of_decide_eq_true (tAll_at a 6)
  | 7, hx => cases hx; exact of_decide_eq_true (tAll_at a 7)
  | 8, hx => cases hx; exact of_decide_eq_true (tAll_at a 8)
  | 9, hx => cases hx; exact of_decide_eq_true (tAll_at a 9)
  | 10, hx => cases hx; exact of_decide_eq_true (tAll_at a 10)
  | 11, hx => cases hx; exact of_decide_eq_true (tAll_at a 11)
  | 12, hx => cases hx; exact of_decide_eq_true (tAll_at a 12)
  | 13, hx => cases hx; exact of_decide_eq_true (tAll_at a 13)
  | 14, hx => cases hx; exact of_decide_eq_true (tAll_at a 14)
  | 15, hx => cases hx; exact of_decide_eq_true (tAll_at a 15)
  | 16, hx => cases hx; exact of_decide_eq_true (tAll_at a 16)
  | j + 17, hx => cases hx
theorem err_InvalidTerms (T : Tx K mg) {d : Addr} {H : Hp} {fs : List (Str × V)} {v : V} (hd : H d = some (.xd fs)) (hl : fs.lookup ("index" : Str) = some v) : ErrIs K (.ref (He.ga K "InvalidTerms")) (some d) H "InvalidTerms" v := by
  refine ⟨⟨_, 6, "index", d, fs, rfl, srt_InvalidTerms T, rfl, .index, xfB_ok (f_xfc_InvalidTerms T.c), He.eqO_ok (f_nof_InvalidTerms T.c), rfl, hd, hl⟩, ?_⟩
  have a := f_exm_InvalidTerms T.c
  have e0 := of_decide_eq_true (tAll_at a 0)
  have e1 := of_decide_eq_true (tAll_at a 1)
  have e2 := of_decide_eq_true (tAll_at a 2)
  have e3 := of_decide_eq_true (tAll_at a 3)
  unfold heads
  simp only [PySem.W.exmAny, e0, e1, e2, e3]
  rfl
theorem srt_TooMany (T : Tx K mg) : SortC K (He.ga K "TooMany") 15 := by
  have a := f_srt_TooMany T.c
  refine ⟨by decide, fun j x hx => ?_, of_decide_eq_true (tAll_at a 17), of_decide_eq_true (tAll_at a 18), of_decide_eq_true (tAll_at a 19), of_decide_eq_true (tAll_at a 20), (veB_ok (f_ve_TooMany T.c)).x⟩
  match j, hx with
  | 0, hx => cases hx; exact of_decide_eq_true (tAll_at a 0)
  | 1, hx => cases hx; exact of_decide_eq_true (tAll_at a 1)
  | 2, hx => cases hx; exact of_decide_eq_true (tAll_at a 2)
  | 3, hx => cases hx; exact of_decide_eq_true (tAll_at a 3)
  | 4, hx => cases hx; exact of_decide_eq_true (tAll_at a 4)
  | 5, hx => cases hx; exact of_decide_eq_true (tAll_at a 5)
  | 6, hx => cases hx; exact of_decide_eq_true (tAll_at a 6)
  | 7, hx => cases hx; exact of_decide_eq_true (tAll_at a 7)
  | 8, hx => cases hx; exact of_decide_eq_true (tAll_at a 8)
  | 9, hx => cases hx; exact of_decide_eq_true (tAll_at a 9)
  | 10, hx => cases hx; exact of_decide_eq_true (tAll_at a 10)
  | 11, hx => cases hx; exact of_decide_eq_true (tAll_at a 11)
  | 12, hx => cases hx; exact of_decide_eq_true (tAll_at a 12)
  | 13, hx => cases hx; exact of_decide_eq_true (tAll_at a 13)
  | 14, hx => cases hx; exact of_decide_eq_true (tAll_at a 14)
  | 15, hx => cases hx; exact of_decide_eq_true (tAll_at a 15)
  | 16, hx => cases hx; exact of_decide_eq_true (tAll_at a 16)
  | j + 17, hx => cases hx
theorem err_TooMany (T : Tx K mg) {d : Addr} {H : Hp} {fs : List (Str × V)} {v : V} (hd : H d = some (.xd fs)) (hl : fs.lookup ("limit" : Str) = some v) : ErrIs K (.ref (He.ga K "TooMany")) (some d) H "TooMany" v := by
  refine ⟨⟨_, 15, "limit", d, fs, rfl, srt_TooMany T, rfl, .limit, xfB_ok (f_xfc_TooMany T.c), He.eqO_ok (f_nof_TooMany T.c), rfl, hd, hl⟩, ?_⟩
  have a := f_exm_TooMany T.c
  have e0 := of_decide_eq_true (tAll_at a 0)
  have e1 := of_decide_eq_true (tAll_at a 1)
  have e2 := of_decide_eq_true (tAll_at a 2)
  have e3 := of_decide_eq_true (tAll_at a 3)
  unfold heads
  simp only [PySem.W.exmAny, e0, e1, e2, e3]
  rfl
end
end K11

/-! Raising: a def called off its class that may raise; variadic inits that may raise; own errors over any base with one field. -/
namespace Hk
open PySem PySem.Spec PyProof.Rows L2
def tUnbX (C : Addr) (sp : Sp) (E : L2.St → XK) (ta : TE) (t : TA) : TE := fun σ H Q => ta σ H fun x H1 => x = .ref C ∧ t σ H1 fun vs H2 => sp vs H2 Q (E σ)
section
variable {X : Cx} {CX : CXT} {E : L2.St → XK} {k : Nat} {C g : Addr} {mc : Value} {m : Str} {fd : FuncData} {ps : List Str} {sp : Sp} {o e : Expr} {es : List Expr} {ta : TE} {t : TA} {pos apos : Pos} {pl : Sem Bool}
theorem pe_unbX (he : PE X o ta) (U : Unb X.K C mc m g) (F : FnOk X.prog X.w X.K X.mg X.base CX k g fd ps sp) (hb : Binds X.K fd ps []) (hr : Room k X.A) (hx : ∀ σ, PassesAt CX X σ (E σ)) (ha : PA X (e :: es) t)
    (hst : starEach (e :: es) X.env = (false, eval e X.env) :: starEach es X.env := by rfl) (hpl : (backTo pos (starEach es X.env)).any (·.1) = false := by rfl)
    (ht : eval (.Call (.Attribute o m apos) (e :: es) [] pos) X.env = (do
      let ov ← eval o X.env
      standAt apos.atName
      let (f, first) ← holding [ov] (getMethod ov m pl)
      callWith pos f first (backTo pos (starEach (e :: es) X.env)) (backToKw pos (keywordEach [] X.env))) := by rfl) :
    PE X (.Call (.Attribute o m apos) (e :: es) [] pos) (tUnbX C sp E ta t) := by
  refine ⟨fun pins s σ H Q I h => PySem.W.methodCall_KW (pl := pl) (thn (he.run pins s σ H _ I h) fun u s1 hu => ?_) ht⟩
  obtain ⟨x, H1, I1, rx, ex, q⟩ := hu
  subst ex
  obtain rfl : u = Value.ref C := rx
  refine PySem.W.method_cls I1.kIn U.rd.ga (PySem.W.cls_value I1.kIn U.rd.rd U.at_ rfl ?_)
  refine PySem.W.callWith_K (h₀ := X.base) I1.ok.mod.kin U.kp (thn (ha.run pos pins _ σ H1 _ (I1.tok _) q) fun us s2 ⟨vs, H2, I2, r, q2⟩ => ⟨I2.kIn, ?_⟩) hst hpl
  exact run_fnS F hr hb (hx σ) I2 r q2
end
theorem cxUpN {P : Program} {w : World} : StX.CXUp (L2N.CX P w) := by
  intro outer s H s2 H2 E e s' un kp ho h
  obtain ⟨a, B, H', cls, d, ea, fl, hok, ub, na, os, ag, he⟩ := h
  have fr : ∀ b o, s.heap.get? b = some o → H b = none → H2 b = none := fun b o q n => un.free b o q n List.not_mem_nil
  have tb : ∀ b ps, H b = some (.tbl ps) → ∃ more, H' b = some (.tbl (ps ++ more)) := fun b ps q => by
    obtain ⟨m1, e1⟩ := un.tbls b ps q
    obtain ⟨m2, e2⟩ := ub.tbls b _ e1
    refine ⟨m1 ++ m2, ?_⟩
    rw [e2, Array.append_assoc]
  refine ⟨a, B, H', cls, d, ea, fl, hok, ?_, na, os.trans ho, ag, he⟩
  constructor
  · exact fun b o q n hb => ub.keep b o (kp b o q) (fr b o q n) hb
  · exact fun b o q hb => ub.slot b o (kp b o q) hb
  · exact fun b o q n => ub.free b o (kp b o q) (fr b o q n)
  · exact fun b o q hb => ub.there b o (kp b o q) hb
  · exact fun b xs q => ub.tups b xs (un.tups b xs q)
  · exact fun b o u q => ub.frzs b o u (un.frzs b o u q)
  · exact tb
/-- own errors over any of the four built-in bases, with one field -/
structure XrV (P : Program) (w : World) (K : Fr) (mg : Str → Option Value) (base : Heap) (x f : Str) : Prop where
  c : VeC K (He.ga K x)
  ty : PySem.W.typeIn K (.ref (He.ga K x)) = some (.type "type")
  iC : PySem.W.findIn K (.ref (He.ga K x)) "__init__" = some (some (.ref (mAd x "__init__" K)))
  tI : PySem.W.typeIn K (.ref (mAd x "__init__" K)) = some (.type "function")
  m : mg x = some (.ref (He.ga K x))
  fn : ∃ fd, FnOk P w K mg base CX0 1 (mAd x "__init__" K) fd [("self" : Str), f] (spXin (He.ga K x) f) ∧ Binds K fd [("self" : Str), f] []
section
variable {P : Program} {w : World} {K : Fr} {mg : Str → Option Value} {base : Heap}
theorem xrv_of {x f : Str} {fd : FuncData} {d : Dx} (D : DAt K d fd) (ha : d.ad K = mAd x "__init__" K) (S : FnScope [("self" : Str), f] [("self" : Str), f] (defScope d.st)) (c1 : veB K (He.ga K x) = true) (c2 : tNof x f K = true) (c3 : tInit x K = true) (c4 : tTyp x K = true)
    (gm : mg x = some (.ref (He.ga K x))) (b : Binds K fd [("self" : Str), f] [])
    (hb : ∀ (cdv : Value) (A : Around) (outer : List Env) (s : Shared) (H : Hp) (E : XK), PSs (cxOf CX0 P w K mg base [("self" : Str), f] d.ql (defScope d.st) (d.ad K) cdv A outer s H E).nox (defBody d.st) (tSeq (tVst K f (tVar 0) (tVar 1)) tNext)) : XrV P w K mg base x f := by
  obtain ⟨e1, e2⟩ := He.ba c3
  have T := veB_ok c1
  have hn : PySem.W.findIn K (.ref (He.ga K x)) f = some none := He.eqO_ok c2
  have F : FnOk P w K mg base CX0 1 (d.ad K) fd [("self" : Str), f] (spXin (He.ga K x) f) := by
    refine ok_of (N := [("self" : Str), f]) D S (fun vs H Q E h => ?_) (fun cdv A outer s H vs Q E hr h => ?_)
    · obtain ⟨a, y, rfl, _⟩ := h
      rfl
    · obtain ⟨a, y, rfl, ha, k⟩ := h
      exact ⟨_, hb cdv A outer s H E, y, rfl, .ref a, rfl, a, _, rfl, T, hn, .inl ⟨ha, fun dx n ne => k dx n ne⟩⟩
  rw [ha] at F
  exact ⟨T, of_decide_eq_true c4, (own_ok e1).at_, of_decide_eq_true e2, gm, fd, F, b⟩
end
section
variable {X : Cx} {x f : Str} {e : Expr} {es : List Expr} {ta : TA} {p pos pos' : Pos} {W : WX}
theorem ps_rv (c : XrV X.prog X.w X.K X.mg X.base x f) (hr : Room 2 X.A) (hg : Gl X x) (tk : L2N.Takes X W) (ha : PA X (e :: es) ta) (hc : X.calm = true := by rfl)
    (hdb : (x == ("__debug__" : Str)) = false := by decide) (he : starEach (e :: es) X.env = (false, eval e X.env) :: starEach es X.env := by rfl) (hpl : (backTo pos (starEach es X.env)).any (·.1) = false := by rfl) :
    PS X (.Raise (some (.Call (.Name x p) (e :: es) [] pos)) none pos') (tRz (He.ga X.K x) f W ta) := by
  obtain ⟨fd, F, b⟩ := c.fn
  exact L2N.ps_raise hc tk (pmk_ve c.c c.ty c.iC c.tI F hr b pass0 hg c.m ha hdb he hpl)
end
end Hk

namespace K11
open PySem PySem.Spec PyProof.Rows L2 Hk NumM NumT SX
/-- no integer; no text; no Number; no Signal -/
def NotInt (K : Fr) (H : Hp) (x : V) : Prop := (∃ b, x = .bl b) ∨ ∃ ty, TyX K H x ty ∧ PySem.W.kitOne K ty (.type "int") = some false
def NotStr (K : Fr) (H : Hp) (x : V) : Prop := ∃ ty, TyX K H x ty ∧ PySem.W.kitOne K ty (.type "str") = some false
def NotNum (K : Fr) (H : Hp) (x : V) : Prop := NotInt K H x ∧ ∃ ty, TyX K H x ty ∧ PySem.W.kitOne K ty (.ref (CN K)) = some false
def NotSig (K : Fr) (H : Hp) (x : V) : Prop := ∃ ty, TyX K H x ty ∧ PySem.W.kitOne K ty (.ref (He.ga K "Signal")) = some false
/-- the error of the class c with this field is let out -/
abbrev Bad (c f : Str) (K : Fr) (H : Hp) (E : XK) (x : V) : Prop := ∀ (H' : Hp) (d : Addr), Same H H' → H' d = none → E (.ref (He.ga K c)) (some d) (upd H' d (.xd [(f, x)]))
theorem Bad.same {c f : Str} {K : Fr} {H H' : Hp} {E : XK} {x : V} (b : Bad c f K H E x) (s : Same H H') : Bad c f K H' E x := fun H2 d s2 nd => b H2 d (s.trans s2) nd
def nmL : List Nat → Bool
  | [] => false
  | c :: r => decide ((c :: r).length ≤ 8) && (decide (c ∈ signsL.take 26) && (c :: r).all fun c => decide (c ∈ signsL))
def spIsI (K : Fr) : Sp := fun vs H Q _ => ∃ x : V, vs = [x] ∧ ((∃ i, x = .int i ∧ Q (.bl true) H) ∨ (NotInt K H x ∧ Q (.bl false) H))
def spIsNmG (K : Fr) : Sp := fun vs H Q _ => ∃ y : V, vs = [y] ∧ ((∃ l, y = .str (S l) ∧ l.length ≤ 1000 ∧ ∀ H', Same H H' → Q (.bl (nmL l)) H') ∨ (NotStr K H y ∧ Q (.bl false) H))
def spBtwG (K : Fr) : Sp := fun vs H Q _ => ∃ (y : V) (a b : Int), vs = [y, .int a, .int b] ∧ ((∃ i, y = .int i ∧ Q (.bl (decide (a ≤ i) && decide (i ≤ b))) H) ∨ (NotInt K H y ∧ Q (.bl false) H))
def BadGain (K : Fr) (H : Hp) (y : V) : Prop := NotNum K H y ∨ ∃ u c, Opd (CN K) H y u c ∧ Sz u ∧ Sz c ∧ 0 < c ∧ (99 < u.natAbs ∨ 99 < c)
def spIsGainX (K : Fr) : Sp := fun vs H Q _ => ∃ y : V, vs = [y] ∧ BadGain K H y ∧ ∀ H', Same H H' → Q (.bl false) H'
section
variable {P : Program} {w : World} {K : Fr} {mg : Str → Option Value} {base : Heap}
theorem xr_InvalidName (T : Tx K mg) : XrV P w K mg base "InvalidName" "value" := by
  obtain ⟨fd, D⟩ := a_InvalidName_init T.c
  exact xrv_of D rfl sc_InvalidName_init (f_ve_InvalidName T.c) (f_nof_InvalidName T.c) (f_init_InvalidName T.c) (f_typ_InvalidName T.c) (g_InvalidName T) (FunD.bindsN D fun _ _ _ _ _ _ us hl => match us, hl with | [_, _], _ => rfl) fun cdv A outer s H E => pss_one (ps_vst (pv 0) (pv 1))
theorem xr_InvalidStep (T : Tx K mg) : XrV P w K mg base "InvalidStep" "value" := by
  obtain ⟨fd, D⟩ := a_InvalidStep_init T.c
  exact xrv_of D rfl sc_InvalidStep_init (f_ve_InvalidStep T.c) (f_nof_InvalidStep T.c) (f_init_InvalidStep T.c) (f_typ_InvalidStep T.c) (g_InvalidStep T) (FunD.bindsN D fun _ _ _ _ _ _ us hl => match us, hl with | [_, _], _ => rfl) fun cdv A outer s H E => pss_one (ps_vst (pv 0) (pv 1))
theorem xr_InvalidGain (T : Tx K mg) : XrV P w K mg base "InvalidGain" "value" := by
  obtain ⟨fd, D⟩ := a_InvalidGain_init T.c
  exact xrv_of D rfl sc_InvalidGain_init (f_ve_InvalidGain T.c) (f_nof_InvalidGain T.c) (f_init_InvalidGain T.c) (f_typ_InvalidGain T.c) (g_InvalidGain T) (FunD.bindsN D fun _ _ _ _ _ _ us hl => match us, hl with | [_, _], _ => rfl) fun cdv A outer s H E => pss_one (ps_vst (pv 0) (pv 1))
theorem xr_InvalidCount (T : Tx K mg) : XrV P w K mg base "InvalidCount" "value" := by
  obtain ⟨fd, D⟩ := a_InvalidCount_init T.c
  exact xrv_of D rfl sc_InvalidCount_init (f_ve_InvalidCount T.c) (f_nof_InvalidCount T.c) (f_init_InvalidCount T.c) (f_typ_InvalidCount T.c) (g_InvalidCount T) (FunD.bindsN D fun _ _ _ _ _ _ us hl => match us, hl with | [_, _], _ => rfl) fun cdv A outer s H E => pss_one (ps_vst (pv 0) (pv 1))
theorem xr_NotASignal (T : Tx K mg) : XrV P w K mg base "NotASignal" "value" := by
  obtain ⟨fd, D⟩ := a_NotASignal_init T.c
  exact xrv_of D rfl sc_NotASignal_init (f_ve_NotASignal T.c) (f_nof_NotASignal T.c) (f_init_NotASignal T.c) (f_typ_NotASignal T.c) (g_NotASignal T) (FunD.bindsN D fun _ _ _ _ _ _ us hl => match us, hl with | [_, _], _ => rfl) fun cdv A outer s H E => pss_one (ps_vst (pv 0) (pv 1))
theorem xr_InvalidTerms (T : Tx K mg) : XrV P w K mg base "InvalidTerms" "index" := by
  obtain ⟨fd, D⟩ := a_InvalidTerms_init T.c
  exact xrv_of D rfl sc_InvalidTerms_init (f_ve_InvalidTerms T.c) (f_nof_InvalidTerms T.c) (f_init_InvalidTerms T.c) (f_typ_InvalidTerms T.c) (g_InvalidTerms T) (FunD.bindsN D fun _ _ _ _ _ _ us hl => match us, hl with | [_, _], _ => rfl) fun cdv A outer s H E => pss_one (ps_vst (pv 0) (pv 1))
theorem xr_TooMany (T : Tx K mg) : XrV P w K mg base "TooMany" "limit" := by
  obtain ⟨fd, D⟩ := a_TooMany_init T.c
  exact xrv_of D rfl sc_TooMany_init (f_ve_TooMany T.c) (f_nof_TooMany T.c) (f_init_TooMany T.c) (f_typ_TooMany T.c) (g_TooMany T) (FunD.bindsN D fun _ _ _ _ _ _ us hl => match us, hl with | [_, _], _ => rfl) fun cdv A outer s H E => pss_one (ps_vst (pv 0) (pv 1))
theorem c_isI (T : Tx K mg) : Cal P w K mg base 1 "is_integer" (gAd "is_integer" K) ["value"] (spIsI K) := by
  refine cal_of (d := d_is_integer) (N := ["value"]) (a_is_integer T.c) rfl sc_is_integer (g_is_integer T) (fun _ _ _ _ _ _ us hl => match us, hl with | [_], _ => rfl) (fun vs H Q E h => ?_) (fun cdv A outer s H vs Q E hr h => ?_)
  · obtain ⟨x, rfl, _⟩ := h
    rfl
  · obtain ⟨x, rfl, h⟩ := h
    refine ⟨_, (pss_one (ps_ret (pe_and (pe_callB call_isi (by rfl) (n_isinstance T) bo_isinstance (pa_cons (pv 0) (pa_cons (pe_bltn (v := .ty "int") (by rfl) (n_int T) (by decide +kernel) rfl) pa_nil)))
      (pe_one (pe_not (pe_callB call_isi (by rfl) (n_isinstance T) bo_isinstance (pa_cons (pv 0) (pa_cons (pe_bltn (v := .ty "bool") (by rfl) (n_bool T) (by decide +kernel) rfl) pa_nil)))))))), ?_⟩
    rcases h with ⟨i, rfl, k⟩ | ⟨⟨b, rfl⟩ | ⟨ty, hty, hk⟩, k⟩
    · refine ⟨_, rfl, _, _, .type "int", .type "int", true, rfl, .ty _, .base (.int i), kit_ty (by decide +kernel), true, rfl, iteT ?_⟩
      exact ⟨_, rfl, _, _, .type "int", .type "bool", false, rfl, .ty _, .base (.int i), kit_ty (by decide +kernel), false, rfl, k⟩
    · refine ⟨_, rfl, _, _, .type "bool", .type "int", true, rfl, .ty _, .base (.bl b), kit_ty (by decide +kernel), true, rfl, iteT ?_⟩
      exact ⟨_, rfl, _, _, .type "bool", .type "bool", true, rfl, .ty _, .base (.bl b), kit_ty (by decide +kernel), true, rfl, k⟩
    · exact ⟨_, rfl, _, _, ty, .type "int", false, rfl, .ty _, hty, hk, false, rfl, iteF k⟩
theorem c_btw (T : Tx K mg) : Cal P w K mg base 2 "_is_between" (gAd "_is_between" K) ["value", "least", "greatest"] (spBtwG K) := by
  have C_is_integer := c_isI (P := P) (w := w) (base := base) T
  refine cal_of (d := d_is_between) (N := ["value", "least", "greatest"]) (a_is_between T.c) rfl sc_is_between (g_is_between T) (fun _ _ _ _ _ _ us hl => match us, hl with | [_, _, _], _ => rfl) (fun vs H Q E h => ?_) (fun cdv A outer s H vs Q E hr h => ?_)
  · obtain ⟨y, a, b, rfl, _⟩ := h
    rfl
  · obtain ⟨y, a, b, rfl, h⟩ := h
    refine ⟨_, (pss_one (ps_ret (pe_and (pe_c C_is_integer hr (pa_cons (pv 0) pa_nil)) (pe_one (pe_chain op_le op_le (pv 1) (pv 0) (pv 2)))))), ?_⟩
    rcases h with ⟨i, rfl, k⟩ | ⟨ni, k⟩
    · refine ⟨_, rfl, _, rfl, .inl ⟨i, rfl, true, rfl, iteT ?_⟩⟩
      refine ⟨_, rfl, _, rfl, a, i, rfl, rfl, _, rfl, ?_⟩
      refine ite2 (fun z => ?_) (fun z => ?_)
      · refine ⟨_, rfl, i, b, rfl, rfl, ?_⟩
        rw [z, Bool.true_and] at k
        exact k
      · rw [Bool.not_eq_true] at z
        rw [z, Bool.false_and] at k
        exact k
    · exact ⟨_, rfl, _, rfl, .inr ⟨ni, false, rfl, iteF k⟩⟩
theorem c_isnmG (T : Tx K mg) : Cal P w K mg base 1 "is_name" (gAd "is_name" K) ["value"] (spIsNmG K) := by
  obtain ⟨k1, i1⟩ := i_MAX_NAME T
  obtain ⟨k2, i2⟩ := s_LETTERS T
  obtain ⟨k3, i3⟩ := s_NAME_SIGNS T
  refine cal_of (d := d_is_name) (N := ["value", "sign"]) (a_is_name T.c) rfl sc_is_name (g_is_name T) (fun _ _ _ _ _ _ us hl => match us, hl with | [_], _ => rfl) (fun vs H Q E h => ?_) (fun cdv A outer s H vs Q E hr h => ?_)
  · obtain ⟨l, rfl, _⟩ := h
    rfl
  · obtain ⟨y, rfl, h⟩ := h
    refine ⟨_, (pss_cons (ps_if (PW.pt (pw_or (pt_not (pt_val (pe_callB call_isi (by rfl) (n_isinstance T) bo_isinstance (pa_cons (pv 0) (pa_cons (pe_bltn (v := .ty "str") (by rfl) (n_str T) (by decide +kernel) rfl) pa_nil))))) (pw_or1 (pt_not (pt_chain op_le op_le pe_int (pe_callB call_len_str (by rfl) (n_len T) bo_len (pa_cons (pv 0) pa_nil)) (pe_glob (v := .int 8) rfl i1 ⟨_, rfl⟩))))))
 (pss_one (ps_ret pe_bl))
 pss_nil)
 (pss_one (ps_ret (pe_and (pe_cmpR op_in_sign (pe_ix ix_str (pv 0) pe_int (fun _ _ => rfl)) (pe_glob (v := .str "abcdefghijklmnopqrstuvwxyz") rfl i2 ⟨_, rfl⟩) (by rfl)) (pe_one (pe_callB (cr_all rfl) (by rfl) (n_all T) bo_all (pa_cons (pe_lc (own := [("sign", 1)]) (g := gName 1) (tt := tYes) rfl sc_is_name.nd (pi_str (pv 0)) (blkOk_by (N := ["value", "sign"]) (sc := defScope s_is_name) (by decide +kernel)) (fun _ _ _ _ _ => pg_name (i := 1) sc_is_name.nd rfl (.inl rfl)) (fun _ _ _ _ _ => pts_nil) (fun _ _ _ _ _ => (pe_cmpR op_in_sign (pv 1) (pe_glob (v := .str "abcdefghijklmnopqrstuvwxyz0123456789") rfl i3 ⟨_, rfl⟩) (by rfl)))) pa_nil))))))), ?_⟩
    rcases h with ⟨l, rfl, hl, k⟩ | ⟨⟨ty, hty, hk⟩, k⟩
    rotate_left
    · exact ⟨_, rfl, _, _, ty, .type "str", false, rfl, .ty _, hty, hk, false, rfl, iteT k⟩
    refine ⟨_, rfl, _, _, .type "str", .type "str", true, rfl, .ty _, .base (.str _), kit_ty (by decide +kernel), true, rfl, iteF ?_⟩
    refine ⟨_, rfl, _, rfl, by rw [S_len]; exact big6 (by omega), 1, _, rfl, rfl, _, rfl, ?_⟩
    cases l with
    | nil =>
      refine iteFd (by decide +kernel) ?_
      exact ⟨false, rfl, iteT (k H (Same.refl H))⟩
    | cons c r =>
      have l1 : (S (c :: r)).length = r.length + 1 := by rw [S_len]; rfl
      refine iteTd (by rw [l1]; omega) ?_
      refine ⟨_, _, rfl, rfl, _, rfl, ?_⟩
      by_cases h8 : (c :: r).length ≤ 8
      rotate_left
      · rw [decide_eq_false (by rw [l1]; simp only [List.length_cons] at h8; omega)]
        refine iteT ?_
        have e : nmL (c :: r) = false := by
          show (decide ((c :: r).length ≤ 8) && _) = false
          rw [decide_eq_false h8]
          rfl
        rw [e] at k
        exact k H (Same.refl H)
      rw [decide_eq_true (by rw [l1]; simp only [List.length_cons] at h8; omega)]
      refine iteF ?_
      have eN : nmL (c :: r) = (decide (c ∈ signsL.take 26) && (c :: r).all fun c => decide (c ∈ signsL)) := by
        show (decide ((c :: r).length ≤ 8) && _) = _
        rw [decide_eq_true h8, Bool.true_and]
      rw [eN] at k
      refine ⟨_, rfl, _, 0, c, rfl, rfl, by rw [l1]; exact big6 (by simp only [List.length_cons] at h8; omega), atI_nat (j := 0) rfl, c, _, rfl, rfl, _, rfl, ?_⟩
      rw [letters]
      by_cases hc : c ∈ signsL.take 26
      rotate_left
      · rw [decide_eq_false hc, Bool.false_and] at k
        exact iteFd hc (k H (Same.refl H))
      refine iteTd hc ?_
      rw [decide_eq_true hc, Bool.true_and] at k
      refine ⟨_, rfl, _, rfl, fun D nD => ?_⟩
      refine lc_fnS (z := S (c :: r)) (fun c => .bl (decide (c ∈ signsL))) nD (by show (c :: r).length ≤ _; omega) (fun d hd H2 R s2 q => ⟨_, rfl, d, _, rfl, rfl, ?_⟩) (fun H2 s2 hD => ?_)
      · have e := q H2 (Same.refl H2)
        rw [← nsigns] at e
        exact e
      · refine ⟨D, (c :: r).map fun c => decide (c ∈ signsL), rfl, .inl (.inl ?_), ?_⟩
        · rw [hD, List.map_map]
          rfl
        · have e : ((c :: r).map fun c => decide (c ∈ signsL)).all id = (c :: r).all fun c => decide (c ∈ signsL) := by
            rw [List.all_map]
            rfl
          show Q (.bl _) H2
          rw [e]
          exact k H2 s2
theorem c_isgainX (T : Tx K mg) : Cal P w K mg base 5 "_is_gain" (gAd "_is_gain" K) ["value"] (spIsGainX K) := by
  have C_is_integer := c_isI (P := P) (w := w) (base := base) T
  have C_as_number := c_asnum (P := P) (w := w) (base := base) T
  obtain ⟨ft, Dt, Ft⟩ := f_top (P := P) (w := w) (base := base) T
  obtain ⟨fb, Db, Fb⟩ := f_bottom (P := P) (w := w) (base := base) T
  have bt : Binds K ft ["self"] [] := FunD.bindsN Dt fun _ _ _ _ _ _ us hl => match us, hl with | [_], _ => rfl
  have bb : Binds K fb ["self"] [] := FunD.bindsN Db fun _ _ _ _ _ _ us hl => match us, hl with | [_], _ => rfl
  obtain ⟨k1, i1⟩ := i_MAX_GAIN T
  have C_is_number : Cal P w K mg base 2 "is_number" (gAd "is_number" K) ["value"] (fun vs H Q _ => ∃ y, vs = [y] ∧ ((∃ u c, Opd (CN K) H y u c ∧ Q (.bl true) H) ∨ (NotNum K H y ∧ Q (.bl false) H))) := by
    refine cal_of (d := d_is_number) (N := ["value"]) (a_is_number T.c) rfl sc_is_number (g_is_number T) (fun _ _ _ _ _ _ us hl => match us, hl with | [_], _ => rfl) (fun vs H Q E h => ?_) (fun cdv A outer s H vs Q E hr h => ?_)
    · obtain ⟨y, rfl, _⟩ := h
      rfl
    · obtain ⟨y, rfl, h⟩ := h
      refine ⟨_, (pss_one (ps_ret (pe_or (pe_callB call_isi (by rfl) (n_isinstance T) bo_isinstance (pa_cons (pv 0) (pa_cons (pe_glob (v := .ref (gAd "Number" K)) rfl (g_Number T) rfl) pa_nil))) (pe_one (pe_c C_is_integer hr (pa_cons (pv 0) pa_nil)))))), ?_⟩
      rcases h with ⟨u, c, ⟨q, rfl, N⟩ | ⟨rfl, rfl⟩, k⟩ | ⟨⟨ni, ty, hty, hk⟩, k⟩
      · obtain ⟨dx, hp⟩ := id N.at_
        refine ⟨_, rfl, _, _, _, _, true, rfl, .own _, .base (ins_ok (f_ins T.c) hp (cl T)), of_decide_eq_true (f_kitO T.c), true, rfl, iteT k⟩
      · refine ⟨_, rfl, _, _, _, _, false, rfl, .own _, .base (.int _), of_decide_eq_true (f_kit_int T.c), false, rfl, iteF ?_⟩
        exact ⟨_, rfl, _, rfl, .inl ⟨u, rfl, k⟩⟩
      · refine ⟨_, rfl, _, _, _, _, false, rfl, .own _, hty, hk, false, rfl, iteF ?_⟩
        exact ⟨_, rfl, _, rfl, .inr ⟨ni, k⟩⟩
  refine cal_of (d := d_is_gain) (N := ["value", "number"]) (a_is_gain T.c) rfl sc_is_gain (g_is_gain T) (fun _ _ _ _ _ _ us hl => match us, hl with | [_], _ => rfl) (fun vs H Q E h => ?_) (fun cdv A outer s H vs Q E hr h => ?_)
  · obtain ⟨y, rfl, _⟩ := h
    rfl
  · obtain ⟨y, rfl, bad, k⟩ := h
    have hr2 : Room 2 _ := hr.mono (by decide)
    refine ⟨_, (pss_cons (ps_if (pt_not (pt_val (pe_c C_is_number hr2 (pa_cons (pv 0) pa_nil))))
 (pss_one (ps_ret pe_bl))
 pss_nil)
 (pss_cons (ps_set (i := 1) sc_is_gain.nd rfl (.inl rfl) (pe_c C_as_number hr (pa_cons (pv 0) pa_nil)))
 (pss_one (ps_ret (pe_and (pe_cmpR op_le (pe_callB call_abs (by rfl) (n_abs T) bo_abs (pa_cons (pe_prop (pv 1) (cl T) (prop_ok (f_prop_top T.c)) Ft hr2 bt .nil pass0 rfl) pa_nil)) (pe_glob (v := .int 99) rfl i1 ⟨_, rfl⟩) (nomark _)) (pe_one (pe_cmpR op_le (pe_prop (pv 1) (cl T) (prop_ok (f_prop_bottom T.c)) Fb hr2 bb .nil pass0 rfl) (pe_glob (v := .int 99) rfl i1 ⟨_, rfl⟩) (nomark _)))))))), ?_⟩
    rcases bad with nn | ⟨u, c, o, su, sc, pc, far⟩
    · exact ⟨_, rfl, y, rfl, .inr ⟨nn, false, rfl, iteT (k H (Same.refl H))⟩⟩
    refine ⟨_, rfl, y, rfl, .inl ⟨u, c, o, true, rfl, iteF ?_⟩⟩
    refine ⟨_, rfl, y, u, c, rfl, o, su, fun H1 q s1 N => ?_⟩
    obtain ⟨dx, hq⟩ := id N.at_
    refine ⟨_, rfl, q, dx, _, rfl, hq, q, u, c, rfl, N, su, sc, u, rfl, _, _, rfl, rfl, _, rfl, ?_⟩
    by_cases hu : u.natAbs ≤ 99
    · refine iteTd (by split <;> omega) ?_
      refine ⟨_, rfl, q, dx, _, rfl, hq, q, u, c, rfl, N, su, sc, _, _, rfl, rfl, ?_⟩
      show Q (.bl (decide (c ≤ 99))) H1
      rw [decide_eq_false (by omega)]
      exact k _ s1
    · exact iteFd (by split <;> omega) (k _ s1)
end
end K11

namespace K11
open PySem PySem.Spec PyProof.Rows L2 Hk NumM NumT SX
/-- too many parts, or too deep -/
def Over (K : Fr) (H : Hp) (E : XK) (cs : List Tree) : Prop := (12 < 1 + (cs.map Tree.parts).sum ∧ Bad "TooMany" "limit" K H E (.int 12)) ∨ (1 + (cs.map Tree.parts).sum ≤ 12 ∧ 5 < 1 + maxL (cs.map Tree.deep) ∧ Bad "TooMany" "limit" K H E (.int 5))
theorem Over.same {K : Fr} {H H' : Hp} {E : XK} {cs : List Tree} (b : Over K H E cs) (s : Same H H') : Over K H' E cs := b.imp (fun z => ⟨z.1, z.2.same s⟩) fun z => ⟨z.1, z.2.1, z.2.2.same s⟩
/-- Signal.__init__ where the expression is too large -/
def spSgX (K : Fr) : Sp := fun vs H Q E => ∃ (d : Nat) (x tp : Addr) (txt : Str) (am : V) (cs : List Tree) (xs : List Addr), vs = [.ref x, .str txt, .ref tp, am] ∧ H tp = some (.tup (xs.map V.ref)) ∧
  SigsAt K H d cs xs ∧ cs.length ≤ 5 ∧ Over K H E cs
section
variable {P : Program} {w : World} {K : Fr} {mg : Str → Option Value} {base : Heap}
theorem f_sgX (T : Tx K mg) : ∃ fd, DAt K d_Signal_init fd ∧ FnOk P w K mg base (L2N.CX P w) 3 (d_Signal_init.ad K) fd ["self", "text", "inside", "amount"] (spSgX K) := by
  obtain ⟨fd, D⟩ := a_Signal_init T.c
  have XT := xr_TooMany (P := P) (w := w) (base := base) T
  obtain ⟨fp, Dp, Fp⟩ := f_sgparts (P := P) (w := w) (base := base) T
  obtain ⟨fe, De, Fe⟩ := f_sgdepth (P := P) (w := w) (base := base) T
  have bp : Binds K fp ["self"] [] := FunD.bindsN Dp fun _ _ _ _ _ _ us hl => match us, hl with | [_], _ => rfl
  have be : Binds K fe ["self"] [] := FunD.bindsN De fun _ _ _ _ _ _ us hl => match us, hl with | [_], _ => rfl
  obtain ⟨kP, iP⟩ := i_MAX_PARTS T
  obtain ⟨kD, iD⟩ := i_MAX_DEPTH T
  refine ⟨fd, D, okn_of (k := 2) (N := ["self", "text", "inside", "amount", "parts", "signal", "depth"]) D sc_Signal_init (fun vs H Q E h => ?_) (fun cdv A outer s H vs Q E hr h => ?_)⟩
  · obtain ⟨d, x, tp, txt, am, cs, xs, rfl, _⟩ := h
    rfl
  · obtain ⟨d, x, tp, txt, am, cs, xs, rfl, ht, sg, n5, ov⟩ := h
    refine ⟨_, (pss_cons (ps_set (i := 4) sc_Signal_init.nd rfl (.inl rfl) (pe_op op_add pe_int (pe_callB (cr_sum rfl) (by rfl) (n_sum T) bo_sum (pa_cons (pe_lc (own := [("signal", 5)]) (g := gName 5) (tt := tYes) (te := tPt K "parts" d_Signal_parts.ad fun t => .int t.parts) rfl sc_Signal_init.nd (pi_tup (pv 2)) (blkOk_by (N := ["self", "text", "inside", "amount", "parts", "signal", "depth"]) (sc := defScope s_Signal_init) (by decide +kernel)) (fun _ _ _ _ _ => pg_name (i := 5) sc_Signal_init.nd rfl (.inl rfl)) (fun _ _ _ _ _ => pts_nil) (fun _ _ _ _ _ => (pe_propA (pv 5) Fp hr bp))) pa_nil))))
 (pss_cons (ps_set (i := 6) sc_Signal_init.nd rfl (.inl rfl) (pe_op op_add pe_int (pe_callBK (cr_maxD rfl) (by rfl) (n_max T) bo_max (pa_cons (pe_lc (own := [("signal", 5)]) (g := gName 5) (tt := tYes) (te := tPt K "depth" d_Signal_depth.ad fun t => .int t.deep) rfl sc_Signal_init.nd (pi_tup (pv 2)) (blkOk_by (N := ["self", "text", "inside", "amount", "parts", "signal", "depth"]) (sc := defScope s_Signal_init) (by decide +kernel)) (fun _ _ _ _ _ => pg_name (i := 5) sc_Signal_init.nd rfl (.inl rfl)) (fun _ _ _ _ _ => pts_nil) (fun _ _ _ _ _ => (pe_propA (pv 5) Fe hr be))) pa_nil) (pk_cons pe_int pk_nil))))
 (pss_cons (ps_if (pt_cmpR op_gt (pv 4) (pe_glob (v := .int 12) rfl iP ⟨_, rfl⟩) (nomark _))
 (pss_one (ps_rv XT hr rfl (L2N.takes_of rfl rfl rfl rfl) (pa_cons (pe_glob (v := .int 12) rfl iP ⟨_, rfl⟩) pa_nil)))
 pss_nil)
 (pss_cons (ps_if (pt_cmpR op_gt (pv 6) (pe_glob (v := .int 5) rfl iD ⟨_, rfl⟩) (nomark _))
 (pss_one (ps_rv XT hr rfl (L2N.takes_of rfl rfl rfl rfl) (pa_cons (pe_glob (v := .int 5) rfl iD ⟨_, rfl⟩) pa_nil)))
 pss_nil)
 (pss_cons (ps_fld (pv 0) (pv 1) rfl)
 (pss_cons (ps_fld (pv 0) (pv 2) rfl)
 (pss_cons (ps_fld (pv 0) (pv 3) rfl)
 (pss_cons (ps_fld (pv 0) (pv 4) rfl)
 (pss_one (ps_fld (pv 0) (pv 6) rfl)))))))))), ?_⟩
    have sq : SqT K H tp (xs.map V.ref) := .inl (.inl ht)
    have hlen : ∀ F : Tree → Nat, (xs.map V.ref).length = (cs.map fun c => V.int (F c : Nat)).length := fun F => by
      rw [List.length_map, List.length_map]
      exact sg.1
    have hz : (xs.map V.ref).length ≤ 100000 := by
      rw [List.length_map, sg.1]
      omega
    refine ⟨_, rfl, tp, rfl, ⟨_, sq⟩, fun D nD => ?_⟩
    refine lc_idxT (cs.map fun c => V.int (c.parts : Nat)) (hlen Tree.parts) nD sq hz (fun j v y hv hy H2 R s2 q => ?_) (fun H2 s2 hD => ?_)
    · rw [List.getElem?_map] at hv hy
      obtain ⟨y', h1, rfl⟩ := Option.map_eq_some_iff.mp hv
      obtain ⟨c, h2, rfl⟩ := Option.map_eq_some_iff.mp hy
      have J := (sg.2 j y' c h1 h2).same s2
      have J0 := J
      cases J with
      | mk jh jt jl j5 jne jtl jk => exact ⟨_, rfl, CT K c, y', _, _, rfl, jh, cl_of T c, sub_prop (sub_of T c) (by simp), _, c, y', rfl, J0, q _ (Same.refl _)⟩
    have e1 : (1 : Int) + (cs.map fun c => (c.parts : Int)).sum = ((1 + (cs.map Tree.parts).sum : Nat) : Int) := by
      rw [sum_cast]
      omega
    refine ⟨D, cs.map fun c => (c.parts : Int), rfl, .inl (.inl ?_), _, _, rfl, rfl, ?_⟩
    · rw [hD, List.map_map]
      rfl
    have sq2 : SqT K H2 tp (xs.map V.ref) := .inl (.inl (s2 _ _ ht))
    refine ⟨_, rfl, tp, rfl, ⟨_, sq2⟩, fun D2 nD2 => ?_⟩
    refine lc_idxT (cs.map fun c => V.int (c.deep : Nat)) (hlen Tree.deep) nD2 sq2 hz (fun j v y hv hy H3 R s3 q => ?_) (fun H3 s3 hD3 => ?_)
    · rw [List.getElem?_map] at hv hy
      obtain ⟨y', h1, rfl⟩ := Option.map_eq_some_iff.mp hv
      obtain ⟨c, h2, rfl⟩ := Option.map_eq_some_iff.mp hy
      have J := (sg.2 j y' c h1 h2).same (s2.trans s3)
      have J0 := J
      cases J with
      | mk jh jt jl j5 jne jtl jk => exact ⟨_, rfl, CT K c, y', _, _, rfl, jh, cl_of T c, sub_prop (sub_of T c) (by simp), _, c, y', rfl, J0, q _ (Same.refl _)⟩
    have key : ∀ m : Int, (((cs.map fun c => (c.deep : Int)) = [] ∧ m = 0) ∨ (m ∈ (cs.map fun c => (c.deep : Int)) ∧ ∀ y, y ∈ (cs.map fun c => (c.deep : Int)) → y ≤ m)) → m = ((maxL (cs.map Tree.deep) : Nat) : Int) := by
      rintro m (⟨h0, rfl⟩ | ⟨hm, hx⟩)
      · have : cs = [] := List.map_eq_nil_iff.mp h0
        rw [this]
        rfl
      · refine max_is (List.mem_cons_of_mem _ hm) fun y hy => ?_
        rcases List.mem_cons.mp hy with rfl | hy
        · obtain ⟨c, _, rfl⟩ := List.mem_map.mp hm
          omega
        · exact hx y hy
    refine ⟨D2, cs.map fun c => (c.deep : Int), 0, rfl, rfl, .inl (.inl ?_), fun m hm => ?_⟩
    · rw [hD3, List.map_map]
      rfl
    have em := key m hm
    have e2 : (1 : Int) + m = ((1 + maxL (cs.map Tree.deep) : Nat) : Int) := by omega
    refine ⟨_, _, rfl, rfl, ?_⟩
    refine ⟨_, rfl, _, _, rfl, rfl, _, rfl, ?_⟩
    have s23 := s2.trans s3
    rcases ov with ⟨o1, bad⟩ | ⟨o1, o2, bad⟩
    · refine iteTd (by rw [e1]; omega) ?_
      exact xin_mk fun dd nd => bad _ dd s23 nd
    · refine iteFd (by rw [e1]; omega) ?_
      refine ⟨_, rfl, _, _, rfl, rfl, _, rfl, iteTd (by rw [e2]; omega) ?_⟩
      exact xin_mk fun dd nd => bad _ dd s23 nd
end
end K11

namespace K11
open PySem PySem.Spec PyProof.Rows L2 Hk NumM NumT SX
theorem tk0 {P : Program} {w : World} {K : Fr} {mg : Str → Option Value} {base : Heap} {N : List Str} {q : Str} {sc : Scope} {f : Addr} {cdv : Value} {A : Around} {outer : List Env} {s : Shared} {H : Hp} {E : XK} : L2N.Takes (cxOf (L2N.CX P w) P w K mg base N q sc f cdv A outer s H E) (fun cls d _ H => E cls d H) := L2N.takes_of rfl rfl rfl rfl
def spNmX (K : Fr) : Sp := fun vs H Q E => ∃ (x : Addr) (y : V), vs = [.ref x, y] ∧ ((∃ l, y = .str (S l) ∧ l.length ≤ 1000 ∧ nmL l = false) ∨ NotStr K H y) ∧ Bad "InvalidName" "value" K H E y
/-- the classes with a signal and a number; m: the least number, c: the error's class -/
def spPrX (K : Fr) (w : Nat) (y c : Str) (m : Int) : Sp := fun vs H Q E => ∃ (x : Addr) (a b : V), vs = [.ref x, a, b] ∧
  ((NotSig K H a ∧ Bad "NotASignal" "value" K H E a) ∨
   (∃ (d : Nat) (p : Addr) (t : Tree), a = .ref p ∧ SigAt K H d t p ∧ (NotInt K H b ∨ ∃ i, b = .int i ∧ ¬ (m ≤ i ∧ i ≤ 6)) ∧ Bad c "value" K H E b) ∨
   (∃ (d : Nat) (p dx : Addr) (t : Tree) (n : Int), a = .ref p ∧ b = .int n ∧ H x = some (.ins (He.ga K y) dx []) ∧ SigAt K H d t p ∧ m ≤ n ∧ 0 ≤ m ∧ n ≤ 6 ∧ (Tree.pair w t n).tell.length ≤ 1000000 ∧ Over K H E [t]))
def spTmX (K : Fr) : Sp := fun vs H Q E => ∃ (x : Addr) (a b : V), vs = [.ref x, a, b] ∧
  ((BadGain K H a ∧ Bad "InvalidGain" "value" K H E a) ∨
   (∃ u c : Int, Opd (CN K) H a u c ∧ GainOk u c ∧ NotSig K H b ∧ Bad "NotASignal" "value" K H E b) ∨
   (∃ (d : Nat) (p dx : Addr) (t : Tree) (u c : Int), b = .ref p ∧ H x = some (.ins (He.ga K "Times") dx []) ∧ Opd (CN K) H a u c ∧ GainOk u c ∧ SigAt K H d t p ∧ (Tree.times u c t).tell.length ≤ 1000000 ∧ Over K H E [t]))
/-- the terms of a sum: wrong in number, one that is none, too large together -/
def spSmX (K : Fr) : Sp := fun vs H Q E => ∃ (x tp : Addr) (ys : List V), vs = [.ref x, .ref tp] ∧ H tp = some (.tup ys) ∧ ys.length ≤ 1000 ∧
  ((¬ (1 ≤ ys.length ∧ ys.length ≤ 5) ∧ Bad "InvalidTerms" "index" K H E .non) ∨
   (∃ (i : Nat) (y : V), 1 ≤ ys.length ∧ ys.length ≤ 5 ∧ ys[i]? = some y ∧ NotSig K H y ∧ (∀ j z, j < i → ys[j]? = some z → ∃ d t p, z = .ref p ∧ SigAt K H d t p) ∧ Bad "InvalidTerms" "index" K H E (.int i)) ∨
   (∃ (d : Nat) (dx : Addr) (ts : List Tree) (xs : List Addr), ys = xs.map V.ref ∧ H x = some (.ins (He.ga K "Sum") dx []) ∧ SigsAt K H d ts xs ∧ 1 ≤ ts.length ∧ ts.length ≤ 5 ∧ (Tree.sum ts).tell.length ≤ 1000000 ∧ Over K H E ts))
def spSmXR (K : Fr) : Sp := fun vs H Q E => ∃ ws rest, vs = ws ++ rest ∧ ws.length = (["self"] : List Str).length ∧ rest.length ≤ sizeLine ∧ ∀ p, H p = Option.none → spSmX K (ws ++ [V.ref p]) (upd H p (.tup rest)) Q E
theorem NotSig.same {K : Fr} {H H' : Hp} {y : V} (n : ∃ ty, TyX K H y ty ∧ PySem.W.kitOne K ty (.ref (He.ga K "Signal")) = some false) (h : ∀ ty, TyX K H y ty → TyX K H' y ty) : NotSig K H' y := by
  obtain ⟨ty, h1, h2⟩ := n
  exact ⟨ty, h ty h1, h2⟩
theorem tyo_same {K : Fr} {H H' : Hp} {y : V} {ty : Value} (s : Same H H') (h : TyOf K H y ty) : TyOf K H' y ty := by
  cases h with
  | lst e => exact .lst (s _ _ e)
  | frz e => exact .frz (s _ _ e)
  | tup e => exact .tup (s _ _ e)
  | dK e => exact .dK (s _ _ e)
  | dT e => exact .dT (s _ _ e)
  | ins e c1 c2 c3 c4 c5 => exact .ins (s _ _ e) c1 c2 c3 c4 c5
  | _ => constructor
theorem tyx_same {K : Fr} {H H' : Hp} {y : V} {ty : Value} (s : Same H H') (h : TyX K H y ty) : TyX K H' y ty := by
  cases h with
  | base e => exact .base (tyo_same s e)
  | byt b => exact .byt b
  | set e => exact .set (s _ _ e)
  | kList e c => exact .kList e c
  | kTuple e c => exact .kTuple e c
  | kDict e c => exact .kDict e c
  | fTuple e => exact .fTuple (s _ _ e)
  | fDict e => exact .fDict (s _ _ e)
section
variable {P : Program} {w : World} {K : Fr} {mg : Str → Option Value} {base : Heap}
theorem f_nmX (T : Tx K mg) : ∃ fd, DAt K d_Name_init fd ∧ FnOk P w K mg base (L2N.CX P w) 4 (d_Name_init.ad K) fd ["self", "name"] (spNmX K) := by
  obtain ⟨fd, D⟩ := a_Name_init T.c
  have C_is_name := c_isnmG (P := P) (w := w) (base := base) T
  have XT := xr_InvalidName (P := P) (w := w) (base := base) T
  obtain ⟨fi, Di, Fi⟩ := f_sginit (P := P) (w := w) (base := base) T
  have bi : Binds K fi ["self", "text", "inside", "amount"] [] := FunD.bindsN Di fun _ _ _ _ _ _ us hl => match us, hl with | [_, _, _, _], _ => rfl
  refine ⟨fd, D, okn_of (k := 3) (N := ["self", "name"]) D sc_Name_init (fun vs H Q E h => ?_) (fun cdv A outer s H vs Q E hr h => ?_)⟩
  · obtain ⟨x, y, rfl, _⟩ := h
    rfl
  · obtain ⟨x, y, rfl, h, bad⟩ := h
    refine ⟨_, (pss_cons (ps_if (pt_not (pt_val (pe_c C_is_name (hr.mono (by decide)) (pa_cons (pv 1) pa_nil))))
 (pss_one (ps_rv XT (hr.mono (by decide)) rfl tk0 (pa_cons (pv 1) pa_nil)))
 pss_nil)
 (pss_one (ps_expr (pe_unb (pe_glob (v := .ref (gAd "Signal" K)) rfl (g_Signal T) rfl) (unb_ok (f_unb T.c)) Fi bi hr (pa_cons (pv 0) (pa_cons (pv 1) (pa_cons (pe_tup pa_nil) (pa_cons pe_non pa_nil)))))))), ?_⟩
    rcases h with ⟨l, rfl, hl, e⟩ | ns
    · refine ⟨_, rfl, _, rfl, .inl ⟨l, rfl, hl, fun H1 s1 => ?_⟩⟩
      rw [e]
      refine ⟨false, rfl, iteT ?_⟩
      exact ⟨_, rfl, xin_mk fun dd nd => bad _ dd s1 nd⟩
    · refine ⟨_, rfl, _, rfl, .inr ⟨ns, false, rfl, iteT ?_⟩⟩
      exact ⟨_, rfl, xin_mk fun dd nd => bad _ dd (Same.refl H) nd⟩
theorem f_tmX (T : Tx K mg) : ∃ fd, DAt K d_Times_init fd ∧ FnOk P w K mg base (L2N.CX P w) 6 (d_Times_init.ad K) fd ["self", "number", "signal"] (spTmX K) := by
  obtain ⟨fd, D⟩ := a_Times_init T.c
  have C_is_gain : Cal P w K mg base 5 "_is_gain" (gAd "_is_gain" K) ["value"] (spIsGainX K) := c_isgainX (P := P) (w := w) (base := base) T
  have C_is_gain1 := c_isgain (P := P) (w := w) (base := base) T
  have C_as_number := c_asnum (P := P) (w := w) (base := base) T
  have C_written := c_wr (P := P) (w := w) (base := base) T
  have XA := xr_InvalidGain (P := P) (w := w) (base := base) T
  have XB := xr_NotASignal (P := P) (w := w) (base := base) T
  obtain ⟨fi, Di, Fi⟩ := f_sgX (P := P) (w := w) (base := base) T
  have bi : Binds K fi ["self", "text", "inside", "amount"] [] := FunD.bindsN Di fun _ _ _ _ _ _ us hl => match us, hl with | [_, _, _, _], _ => rfl
  refine ⟨fd, D, okn_of (k := 5) (N := ["self", "number", "signal", "gain"]) D sc_Times_init (fun vs H Q E h => ?_) (fun cdv A outer s H vs Q E hr h => ?_)⟩
  · obtain ⟨x, a, b, rfl, _⟩ := h
    rfl
  · obtain ⟨x, a, b, rfl, h⟩ := h
    have hr4 : Room 4 _ := hr.mono (by decide)
    have hr3 : Room 3 _ := hr.mono (by decide)
    have hr2 : Room 2 _ := hr.mono (by decide)
    have rest : ∀ {tg : TE}, PE _ _ tg → ∃ t, PSs (cxOf (L2N.CX P w) P w K mg base ["self", "number", "signal", "gain"] d_Times_init.ql (defScope d_Times_init.st) (d_Times_init.ad K) cdv A outer s H E) (defBody d_Times_init.st) t ∧ t = _ := fun {tg} hg => ⟨_, (pss_cons (ps_if (pt_not (pt_val hg))
 (pss_one (ps_rv XA hr2 rfl tk0 (pa_cons (pv 1) pa_nil)))
 pss_nil)
 (pss_cons (ps_if (pt_not (pt_val (pe_callB call_isi (by rfl) (n_isinstance T) bo_isinstance (pa_cons (pv 2) (pa_cons (pe_glob (v := .ref (gAd "Signal" K)) rfl (g_Signal T) rfl) pa_nil)))))
 (pss_one (ps_rv XB hr2 rfl tk0 (pa_cons (pv 2) pa_nil)))
 pss_nil)
 (pss_cons (ps_set (i := 3) sc_Times_init.nd rfl (.inl rfl) (pe_c C_as_number hr4 (pa_cons (pv 1) pa_nil)))
 (pss_one (ps_expr (pe_unbX (E := fun _ => E) (pe_glob (v := .ref (gAd "Signal" K)) rfl (g_Signal T) rfl) (unb_ok (f_unb T.c)) Fi bi hr3 (fun σ => L2N.passAt tk0 σ) (pa_cons (pv 0) (pa_cons (pe_c C_written hr4 (pa_cons (pe_icon (pv 0)) (pa_cons (pe_tup (pa_cons (pv 3) (pa_cons (pv 2) pa_nil))) pa_nil))) (pa_cons (pe_tup (pa_cons (pv 2) pa_nil)) (pa_cons (pv 3) pa_nil)))))))))), rfl⟩
    rcases h with ⟨bg, bad⟩ | ⟨u, c, o, g, ⟨ty, hty, hk⟩, bad⟩ | ⟨d, p, dx, t, u, c, rfl, hx, o, g, sg, tl, ov⟩
    · obtain ⟨tt, h1, h2⟩ := rest (pe_c C_is_gain hr (pa_cons (pv 1) pa_nil))
      refine ⟨tt, h1, ?_⟩
      rw [h2]
      refine ⟨_, rfl, a, rfl, bg, fun H1 s1 => ⟨false, rfl, iteT ?_⟩⟩
      exact ⟨_, rfl, xin_mk fun dd nd => bad _ dd s1 nd⟩
    · obtain ⟨tt, h1, h2⟩ := rest (pe_c C_is_gain1 hr (pa_cons (pv 1) pa_nil))
      refine ⟨tt, h1, ?_⟩
      rw [h2]
      refine ⟨_, rfl, a, u, c, rfl, o, g, fun H1 s1 => ⟨true, rfl, iteF ?_⟩⟩
      have hty1 : TyX K H1 b ty := tyx_same s1 hty
      refine ⟨_, rfl, _, _, _, _, false, rfl, .own _, hty1, hk, false, rfl, iteT ?_⟩
      exact ⟨_, rfl, xin_mk fun dd nd => bad _ dd s1 nd⟩
    · obtain ⟨tt, h1, h2⟩ := rest (pe_c C_is_gain1 hr (pa_cons (pv 1) pa_nil))
      refine ⟨tt, h1, ?_⟩
      rw [h2]
      refine ⟨_, rfl, a, u, c, rfl, o, g, fun H1 s1 => ⟨true, rfl, iteF ?_⟩⟩
      have sz := gain_sz g
      refine ⟨_, rfl, _, _, _, _, true, rfl, .own _, .base (ty_sig T (sg.same s1)), kit_sig T t, true, rfl, iteF ?_⟩
      refine ⟨_, rfl, a, u, c, rfl, o.same s1, sz.1, fun H2 gp s2 N => ?_⟩
      have s12 := s1.trans s2
      have cx : Cls K (He.ga K "Times") := cl_of T (.times u c t)
      refine ⟨rfl, _, rfl, _, rfl, _, x, dx, [], _, rfl, s12 _ _ hx, rfl, cx, sub_icon (sub_of T (.times u c t)), _, rfl, _, rfl, (by show 2 ≤ sizeLine; decide), fun q nq => ?_⟩
      have s3 : Same H (upd H2 q (.tup [.ref gp, .ref p])) := s12.trans (same_upd nq)
      have tw : wrS "times" [S (fL u c), t.tell] = (Tree.times u c t).tell := tell_times u c t
      refine ⟨"times", q, [.ref gp, .ref p], [S (fL u c), t.tell], rfl, upd_same, rfl, by show (2 : Nat) ≤ 5; decide, fun i v s h1 h2 => ?_, by rw [tw]; exact tl, fun H3 s4 => ?_⟩
      · match i, h1, h2 with
        | 0, h1, h2 =>
          cases h1
          cases h2
          exact .num (N.same (same_upd nq)) sz.1 sz.2
        | 1, h1, h2 =>
          cases h1
          cases h2
          exact .sig (sg.same s3)
        | i + 2, h1, h2 => simp at h1
      · refine ⟨_, rfl, (by show 1 ≤ sizeLine; decide), fun tp ntp => ?_⟩
        have s5 : Same H (upd H3 tp (.tup [.ref p])) := (s3.trans s4).trans (same_upd ntp)
        rw [tw]
        exact ⟨_, rfl, d, x, tp, _, _, [t], [p], rfl, upd_same, sigs_one (sg.same s5), by show (1 : Nat) ≤ 5; decide, ov.same s5⟩
theorem f_smX (T : Tx K mg) : FnR P w K mg base (L2N.CX P w) 5 (d_Sum_init.ad K) (spSmXR K) := by
  obtain ⟨fd, D⟩ := a_Sum_init T.c
  have C_written := c_wr (P := P) (w := w) (base := base) T
  have XA := xr_InvalidTerms (P := P) (w := w) (base := base) T
  obtain ⟨fi, Di, Fi⟩ := f_sgX (P := P) (w := w) (base := base) T
  have bi : Binds K fi ["self", "text", "inside", "amount"] [] := FunD.bindsN Di fun _ _ _ _ _ _ us hl => match us, hl with | [_, _, _, _], _ => rfl
  obtain ⟨kL, iL⟩ := i_MAX_TERMS T
  obtain ⟨oc, od, dV, kV, doc, pm, an, cdv, ct, osl, rfl, lk, hcd, hD, hK⟩ := D.ex
  rcases hD with ⟨_, rfl⟩ | ⟨e, _⟩
  rotate_left
  · exact absurd rfl e
  refine StX.fn_star (N := ["self", "terms", "index", "term"]) (ps := ["self"]) (pv := "terms") (k := 4) (sp := spSmX K) lk hcd sc_Sum_init cxUpN (fun us rest hl => match us, rest, hl with | [a], [], _ => rfl | [a], r :: rs, _ => rfl) (fun A outer s H vs Q E hr h => ?_)
  obtain ⟨x, tp, ys, rfl, ht, hz, h⟩ := h
  have hr3 : Room 3 _ := hr.mono (by decide)
  have hr2 : Room 2 _ := hr.mono (by decide)
  refine ⟨_, (pss_cons (ps_if (pt_not (pt_chain op_le op_le pe_int (pe_callB call_len_seq (by rfl) (n_len T) bo_len (pa_cons (pv 1) pa_nil)) (pe_glob (v := .int 5) rfl iL ⟨_, rfl⟩)))
 (pss_one (ps_rv XA hr2 rfl tk0 (pa_cons pe_non pa_nil)))
 pss_nil)
 (pss_cons (ps_for PassesOwn.leaving rfl (pi_enumT rfl (n_enumerate T) (pa_cons (pv 1) pa_nil)) (pg_tup (by rfl) (pgs_cons (pg_name (i := 2) sc_Sum_init.nd rfl (.inl rfl)) (pgs_cons (pg_name (i := 3) sc_Sum_init.nd rfl (.inl rfl)) pgs_nil)))
 (pss_one (ps_if (pt_not (pt_val (pe_callB call_isi (by rfl) (n_isinstance T) bo_isinstance (pa_cons (pv 3) (pa_cons (pe_glob (v := .ref (gAd "Signal" K)) rfl (g_Signal T) rfl) pa_nil)))))
 (pss_one (ps_rv XA hr2 rfl tk0 (pa_cons (pv 2) pa_nil)))
 pss_nil)))
 (pss_one (ps_expr (pe_unbX (E := fun _ => E) (pe_glob (v := .ref (gAd "Signal" K)) rfl (g_Signal T) rfl) (unb_ok (f_unb T.c)) Fi bi hr3 (fun σ => L2N.passAt tk0 σ) (pa_cons (pv 0) (pa_cons (pe_c C_written hr (pa_cons (pe_icon (pv 0)) (pa_cons (pv 1) pa_nil))) (pa_cons (pv 1) (pa_cons pe_non pa_nil))))))))), ?_⟩
  have sq : SqT K H tp ys := .inl (.inl ht)
  rcases h with ⟨hn, bad⟩ | ⟨i, y, n1, n5, hy, ⟨ty, hty, hk⟩, hj, bad⟩ | ⟨d, dx, ts, xs, rfl, hx, sg, n1, n5, tl, ov⟩
  · refine ⟨_, rfl, tp, _, rfl, .inr sq, 1, _, rfl, rfl, _, rfl, ?_⟩
    by_cases h1 : (1 : Int) ≤ (ys.length : Int)
    · refine iteTd h1 ?_
      refine ⟨_, _, rfl, rfl, _, rfl, ?_⟩
      rw [decide_eq_false (by omega)]
      exact iteT (xin_mk fun dd nd => bad _ dd (Same.refl H) nd)
    · refine iteFd h1 ?_
      exact ⟨false, rfl, iteT (xin_mk fun dd nd => bad _ dd (Same.refl H) nd)⟩
  · refine ⟨_, rfl, tp, _, rfl, .inr sq, 1, _, rfl, rfl, _, rfl, iteTd (by omega) ?_⟩
    refine ⟨_, _, rfl, rfl, _, rfl, ?_⟩
    rw [decide_eq_true (by omega)]
    refine iteF ?_
    refine ⟨_, rfl, tp, ys, rfl, sq, ?_⟩
    refine for_it Hen.walk_enumT (fun j σ' H' => j ≤ i ∧ Same H H' ∧ ∃ a b : Option V, σ' = [some (.ref x), some (.ref tp), a, b]) ⟨Nat.zero_le _, Same.refl H, _, _, rfl⟩ (fun j σ' H' _ h => Same.tupT h.2.1 sq) ?_ ?_
    · rintro j v σ' H1 H2 hlt ⟨hji, s1, a, b, rfl⟩ ⟨T1, v1, z, rfl, nT, rfl, e1, e2⟩
      cases e1
      have e2 : ys[j]? = some z := e2
      have s2 := s1.trans (same_upd (o := .tup [.int (j : Nat), z]) nT)
      refine ⟨T1, _, rfl, .inl (.inl upd_same), rfl, _, _, rfl, _, _, rfl, rfl, ?_⟩
      by_cases hjl : j < i
      · obtain ⟨d, t, p, rfl, sg⟩ := hj j z hjl e2
        refine ⟨_, rfl, _, _, _, _, true, rfl, .own _, .base (ty_sig T (sg.same s2)), kit_sig T t, true, rfl, iteF ?_⟩
        exact ⟨hjl, s2, _, _, rfl⟩
      · have ej : j = i := by omega
        subst ej
        rw [hy] at e2
        cases e2
        refine ⟨_, rfl, _, _, _, _, false, rfl, .own _, tyx_same s2 hty, hk, false, rfl, iteT ?_⟩
        exact ⟨_, rfl, xin_mk fun dd nd => bad _ dd s2 nd⟩
    · rintro σ' H1 ⟨hji, _⟩
      have : i < ys.length := by
        rw [List.getElem?_eq_some_iff] at hy
        exact hy.1
      omega
  · have hl : (xs.map V.ref).length = ts.length := by
      rw [List.length_map]
      exact sg.1
    have cx : Cls K (He.ga K "Sum") := cl_of T (.sum ts)
    refine ⟨_, rfl, tp, _, rfl, .inr sq, 1, _, rfl, rfl, _, rfl, iteTd (by rw [hl]; omega) ?_⟩
    refine ⟨_, _, rfl, rfl, _, rfl, ?_⟩
    rw [decide_eq_true (by rw [hl]; omega)]
    refine iteF ?_
    refine ⟨_, rfl, tp, xs.map V.ref, rfl, sq, ?_⟩
    refine for_it Hen.walk_enumT (fun _ σ' H' => Same H H' ∧ ∃ a b : Option V, σ' = [some (.ref x), some (.ref tp), a, b]) ⟨Same.refl H, _, _, rfl⟩ (fun i σ' H' _ h => Same.tupT h.1 sq) ?_ ?_
    · rintro i v σ' H1 H2 hi ⟨s1, a, b, rfl⟩ ⟨T1, v1, y, rfl, nT, rfl, e1, e2⟩
      cases e1
      have e2 : (xs.map V.ref)[i]? = some y := e2
      rw [List.getElem?_map] at e2
      obtain ⟨y', h1, rfl⟩ := Option.map_eq_some_iff.mp e2
      have hi2 : i < ts.length := by rw [← hl]; exact hi
      have J := ((sg.2 i y' (ts[i]'hi2) h1 (List.getElem?_eq_getElem hi2)).same s1).same (same_upd (o := .tup [.int (i : Nat), .ref y']) nT)
      refine ⟨T1, _, rfl, .inl (.inl upd_same), rfl, _, _, rfl, _, _, rfl, rfl, ?_⟩
      refine ⟨_, rfl, _, _, _, _, true, rfl, .own _, .base (ty_sig T J), kit_sig T _, true, rfl, iteF ?_⟩
      exact ⟨s1.trans (same_upd nT), _, _, rfl⟩
    · rintro σ' H1 ⟨s1, a, b, rfl⟩
      have tw : wrS "sum" (ts.map Tree.tell) = (Tree.sum ts).tell := tell_sums ts
      refine ⟨rfl, _, rfl, _, rfl, _, x, dx, [], _, rfl, s1 _ _ hx, rfl, cx, sub_icon (sub_of T (.sum ts)), _, rfl, ?_⟩
      refine ⟨"sum", tp, xs.map V.ref, ts.map Tree.tell, rfl, s1 _ _ ht, by rw [hl, List.length_map], by rw [List.length_map]; exact n5, fun i v s h1 h2 => ?_, by rw [tw]; exact tl, fun H2 s2 => ?_⟩
      · rw [List.getElem?_map] at h1 h2
        obtain ⟨y', h3, rfl⟩ := Option.map_eq_some_iff.mp h1
        obtain ⟨c, h4, rfl⟩ := Option.map_eq_some_iff.mp h2
        exact .sig ((sg.2 i y' c h3 h4).same s1)
      · have s3 := s1.trans s2
        rw [tw]
        exact ⟨_, rfl, d, x, tp, _, _, ts, xs, rfl, s3 _ _ ht, sg.same s3, n5, ov.same s3⟩
theorem f_ltX (T : Tx K mg) : ∃ fd, DAt K d_Late_init fd ∧ FnOk P w K mg base (L2N.CX P w) 5 (d_Late_init.ad K) fd ["self", "signal", "count"] (spPrX K 2 "Late" "InvalidCount" 0) := by
  obtain ⟨fd, D⟩ := a_Late_init T.c
  have C_is_between := c_btw (P := P) (w := w) (base := base) T
  have C_written := c_wr (P := P) (w := w) (base := base) T
  have XA := xr_NotASignal (P := P) (w := w) (base := base) T
  have XB := xr_InvalidCount (P := P) (w := w) (base := base) T
  obtain ⟨fi, Di, Fi⟩ := f_sgX (P := P) (w := w) (base := base) T
  have bi : Binds K fi ["self", "text", "inside", "amount"] [] := FunD.bindsN Di fun _ _ _ _ _ _ us hl => match us, hl with | [_, _, _, _], _ => rfl
  obtain ⟨kL, iL⟩ := i_MAX_DELAY T
  refine ⟨fd, D, okn_of (k := 4) (N := ["self", "signal", "count"]) D sc_Late_init (fun vs H Q E h => ?_) (fun cdv A outer s H vs Q E hr h => ?_)⟩
  · obtain ⟨x, a, b, rfl, _⟩ := h
    rfl
  · obtain ⟨x, a, b, rfl, h⟩ := h
    have hr2 : Room 2 _ := hr.mono (by decide)
    have hr3 : Room 3 _ := hr.mono (by decide)
    refine ⟨_, (pss_cons (ps_if (pt_not (pt_val (pe_callB call_isi (by rfl) (n_isinstance T) bo_isinstance (pa_cons (pv 1) (pa_cons (pe_glob (v := .ref (gAd "Signal" K)) rfl (g_Signal T) rfl) pa_nil)))))
 (pss_one (ps_rv XA hr2 rfl tk0 (pa_cons (pv 1) pa_nil)))
 pss_nil)
 (pss_cons (ps_if (pt_not (pt_val (pe_c C_is_between hr2 (pa_cons (pv 2) (pa_cons pe_int (pa_cons (pe_glob (v := .int 6) rfl iL ⟨_, rfl⟩) pa_nil))))))
 (pss_one (ps_rv XB hr2 rfl tk0 (pa_cons (pv 2) pa_nil)))
 pss_nil)
 (pss_one (ps_expr (pe_unbX (E := fun _ => E) (pe_glob (v := .ref (gAd "Signal" K)) rfl (g_Signal T) rfl) (unb_ok (f_unb T.c)) Fi bi hr3 (fun σ => L2N.passAt tk0 σ) (pa_cons (pv 0) (pa_cons (pe_c C_written hr (pa_cons (pe_icon (pv 0)) (pa_cons (pe_tup (pa_cons (pv 1) (pa_cons (pv 2) pa_nil))) pa_nil))) (pa_cons (pe_tup (pa_cons (pv 1) pa_nil)) (pa_cons (pv 2) pa_nil))))))))), ?_⟩
    rcases h with ⟨⟨ty, hty, hk⟩, bad⟩ | ⟨d, p, t, rfl, sg, hb, bad⟩ | ⟨d, p, dx, t, n, rfl, rfl, hx, sg, n1, n0, n6, tl, ov⟩
    · refine ⟨_, rfl, _, _, _, _, false, rfl, .own _, hty, hk, false, rfl, iteT ?_⟩
      exact ⟨_, rfl, xin_mk fun dd nd => bad _ dd (Same.refl H) nd⟩
    · refine ⟨_, rfl, _, _, _, _, true, rfl, .own _, .base (ty_sig T sg), kit_sig T t, true, rfl, iteF ?_⟩
      rcases hb with ni | ⟨i, rfl, hi⟩
      · refine ⟨_, rfl, _, _, 6, rfl, .inr ⟨ni, false, rfl, iteT ?_⟩⟩
        exact ⟨_, rfl, xin_mk fun dd nd => bad _ dd (Same.refl H) nd⟩
      · refine ⟨_, rfl, _, 0, 6, rfl, .inl ⟨i, rfl, ?_⟩⟩
        have e : (decide ((0 : Int) ≤ i) && decide (i ≤ 6)) = false := by
          rw [Bool.eq_false_iff]
          intro z
          rw [Bool.and_eq_true] at z
          exact hi ⟨of_decide_eq_true z.1, of_decide_eq_true z.2⟩
        rw [e]
        refine ⟨false, rfl, iteT ?_⟩
        exact ⟨_, rfl, xin_mk fun dd nd => bad _ dd (Same.refl H) nd⟩
    · refine ⟨_, rfl, _, _, _, _, true, rfl, .own _, .base (ty_sig T sg), kit_sig T t, true, rfl, iteF ?_⟩
      refine ⟨_, rfl, _, 0, 6, rfl, .inl ⟨n, rfl, ?_⟩⟩
      rw [decide_eq_true n1, decide_eq_true n6]
      refine ⟨true, rfl, iteF ?_⟩
      have cx : Cls K (He.ga K "Late") := cl_of T (.pair 2 t n)
      refine ⟨rfl, _, rfl, _, rfl, _, x, dx, [], _, rfl, hx, rfl, cx, sub_icon (sub_of T (.pair 2 t n)), _, rfl, _, rfl, (by show 2 ≤ sizeLine; decide), fun q nq => ?_⟩
      have s1 : Same H (upd H q (.tup [.ref p, .int n])) := same_upd nq
      have sn : Sz n := Nat.lt_of_le_of_lt (show n.natAbs ≤ 6 by omega) (by decide +kernel)
      have tw : wrS (wordOf 2) [t.tell, S (NumT.iL n)] = (Tree.pair 2 t n).tell := tell_pair 2 t n
      refine ⟨wordOf 2, q, [.ref p, .int n], [t.tell, S (NumT.iL n)], rfl, upd_same, rfl, by show (2 : Nat) ≤ 5; decide, fun i v s h1 h2 => ?_, by rw [tw]; exact tl, fun H2 s2 => ?_⟩
      · match i, h1, h2 with
        | 0, h1, h2 =>
          cases h1
          cases h2
          exact .sig (sg.same s1)
        | 1, h1, h2 =>
          cases h1
          cases h2
          exact .int sn
        | i + 2, h1, h2 => simp at h1
      · refine ⟨_, rfl, (by show 1 ≤ sizeLine; decide), fun tp ntp => ?_⟩
        have s3 : Same H (upd H2 tp (.tup [.ref p])) := (s1.trans s2).trans (same_upd ntp)
        rw [tw]
        exact ⟨_, rfl, d, x, tp, _, _, [t], [p], rfl, upd_same, sigs_one (sg.same s3), by show (1 : Nat) ≤ 5; decide, ov.same s3⟩
theorem f_evX (T : Tx K mg) : ∃ fd, DAt K d_Every_init fd ∧ FnOk P w K mg base (L2N.CX P w) 5 (d_Every_init.ad K) fd ["self", "signal", "step"] (spPrX K 0 "Every" "InvalidStep" 1) := by
  obtain ⟨fd, D⟩ := a_Every_init T.c
  have C_is_between := c_btw (P := P) (w := w) (base := base) T
  have C_written := c_wr (P := P) (w := w) (base := base) T
  have XA := xr_NotASignal (P := P) (w := w) (base := base) T
  have XB := xr_InvalidStep (P := P) (w := w) (base := base) T
  obtain ⟨fi, Di, Fi⟩ := f_sgX (P := P) (w := w) (base := base) T
  have bi : Binds K fi ["self", "text", "inside", "amount"] [] := FunD.bindsN Di fun _ _ _ _ _ _ us hl => match us, hl with | [_, _, _, _], _ => rfl
  obtain ⟨kL, iL⟩ := i_MAX_STEP T
  refine ⟨fd, D, okn_of (k := 4) (N := ["self", "signal", "step"]) D sc_Every_init (fun vs H Q E h => ?_) (fun cdv A outer s H vs Q E hr h => ?_)⟩
  · obtain ⟨x, a, b, rfl, _⟩ := h
    rfl
  · obtain ⟨x, a, b, rfl, h⟩ := h
    have hr2 : Room 2 _ := hr.mono (by decide)
    have hr3 : Room 3 _ := hr.mono (by decide)
    refine ⟨_, (pss_cons (ps_if (pt_not (pt_val (pe_callB call_isi (by rfl) (n_isinstance T) bo_isinstance (pa_cons (pv 1) (pa_cons (pe_glob (v := .ref (gAd "Signal" K)) rfl (g_Signal T) rfl) pa_nil)))))
 (pss_one (ps_rv XA hr2 rfl tk0 (pa_cons (pv 1) pa_nil)))
 pss_nil)
 (pss_cons (ps_if (pt_not (pt_val (pe_c C_is_between hr2 (pa_cons (pv 2) (pa_cons pe_int (pa_cons (pe_glob (v := .int 6) rfl iL ⟨_, rfl⟩) pa_nil))))))
 (pss_one (ps_rv XB hr2 rfl tk0 (pa_cons (pv 2) pa_nil)))
 pss_nil)
 (pss_one (ps_expr (pe_unbX (E := fun _ => E) (pe_glob (v := .ref (gAd "Signal" K)) rfl (g_Signal T) rfl) (unb_ok (f_unb T.c)) Fi bi hr3 (fun σ => L2N.passAt tk0 σ) (pa_cons (pv 0) (pa_cons (pe_c C_written hr (pa_cons (pe_icon (pv 0)) (pa_cons (pe_tup (pa_cons (pv 1) (pa_cons (pv 2) pa_nil))) pa_nil))) (pa_cons (pe_tup (pa_cons (pv 1) pa_nil)) (pa_cons (pv 2) pa_nil))))))))), ?_⟩
    rcases h with ⟨⟨ty, hty, hk⟩, bad⟩ | ⟨d, p, t, rfl, sg, hb, bad⟩ | ⟨d, p, dx, t, n, rfl, rfl, hx, sg, n1, n0, n6, tl, ov⟩
    · refine ⟨_, rfl, _, _, _, _, false, rfl, .own _, hty, hk, false, rfl, iteT ?_⟩
      exact ⟨_, rfl, xin_mk fun dd nd => bad _ dd (Same.refl H) nd⟩
    · refine ⟨_, rfl, _, _, _, _, true, rfl, .own _, .base (ty_sig T sg), kit_sig T t, true, rfl, iteF ?_⟩
      rcases hb with ni | ⟨i, rfl, hi⟩
      · refine ⟨_, rfl, _, _, 6, rfl, .inr ⟨ni, false, rfl, iteT ?_⟩⟩
        exact ⟨_, rfl, xin_mk fun dd nd => bad _ dd (Same.refl H) nd⟩
      · refine ⟨_, rfl, _, 1, 6, rfl, .inl ⟨i, rfl, ?_⟩⟩
        have e : (decide ((1 : Int) ≤ i) && decide (i ≤ 6)) = false := by
          rw [Bool.eq_false_iff]
          intro z
          rw [Bool.and_eq_true] at z
          exact hi ⟨of_decide_eq_true z.1, of_decide_eq_true z.2⟩
        rw [e]
        refine ⟨false, rfl, iteT ?_⟩
        exact ⟨_, rfl, xin_mk fun dd nd => bad _ dd (Same.refl H) nd⟩
    · refine ⟨_, rfl, _, _, _, _, true, rfl, .own _, .base (ty_sig T sg), kit_sig T t, true, rfl, iteF ?_⟩
      refine ⟨_, rfl, _, 1, 6, rfl, .inl ⟨n, rfl, ?_⟩⟩
      rw [decide_eq_true n1, decide_eq_true n6]
      refine ⟨true, rfl, iteF ?_⟩
      have cx : Cls K (He.ga K "Every") := cl_of T (.pair 0 t n)
      refine ⟨rfl, _, rfl, _, rfl, _, x, dx, [], _, rfl, hx, rfl, cx, sub_icon (sub_of T (.pair 0 t n)), _, rfl, _, rfl, (by show 2 ≤ sizeLine; decide), fun q nq => ?_⟩
      have s1 : Same H (upd H q (.tup [.ref p, .int n])) := same_upd nq
      have sn : Sz n := Nat.lt_of_le_of_lt (show n.natAbs ≤ 6 by omega) (by decide +kernel)
      have tw : wrS (wordOf 0) [t.tell, S (NumT.iL n)] = (Tree.pair 0 t n).tell := tell_pair 0 t n
      refine ⟨wordOf 0, q, [.ref p, .int n], [t.tell, S (NumT.iL n)], rfl, upd_same, rfl, by show (2 : Nat) ≤ 5; decide, fun i v s h1 h2 => ?_, by rw [tw]; exact tl, fun H2 s2 => ?_⟩
      · match i, h1, h2 with
        | 0, h1, h2 =>
          cases h1
          cases h2
          exact .sig (sg.same s1)
        | 1, h1, h2 =>
          cases h1
          cases h2
          exact .int sn
        | i + 2, h1, h2 => simp at h1
      · refine ⟨_, rfl, (by show 1 ≤ sizeLine; decide), fun tp ntp => ?_⟩
        have s3 : Same H (upd H2 tp (.tup [.ref p])) := (s1.trans s2).trans (same_upd ntp)
        rw [tw]
        exact ⟨_, rfl, d, x, tp, _, _, [t], [p], rfl, upd_same, sigs_one (sg.same s3), by show (1 : Nat) ≤ 5; decide, ov.same s3⟩
theorem f_spX (T : Tx K mg) : ∃ fd, DAt K d_Spread_init fd ∧ FnOk P w K mg base (L2N.CX P w) 5 (d_Spread_init.ad K) fd ["self", "signal", "step"] (spPrX K 1 "Spread" "InvalidStep" 1) := by
  obtain ⟨fd, D⟩ := a_Spread_init T.c
  have C_is_between := c_btw (P := P) (w := w) (base := base) T
  have C_written := c_wr (P := P) (w := w) (base := base) T
  have XA := xr_NotASignal (P := P) (w := w) (base := base) T
  have XB := xr_InvalidStep (P := P) (w := w) (base := base) T
  obtain ⟨fi, Di, Fi⟩ := f_sgX (P := P) (w := w) (base := base) T
  have bi : Binds K fi ["self", "text", "inside", "amount"] [] := FunD.bindsN Di fun _ _ _ _ _ _ us hl => match us, hl with | [_, _, _, _], _ => rfl
  obtain ⟨kL, iL⟩ := i_MAX_STEP T
  refine ⟨fd, D, okn_of (k := 4) (N := ["self", "signal", "step"]) D sc_Spread_init (fun vs H Q E h => ?_) (fun cdv A outer s H vs Q E hr h => ?_)⟩
  · obtain ⟨x, a, b, rfl, _⟩ := h
    rfl
  · obtain ⟨x, a, b, rfl, h⟩ := h
    have hr2 : Room 2 _ := hr.mono (by decide)
    have hr3 : Room 3 _ := hr.mono (by decide)
    refine ⟨_, (pss_cons (ps_if (pt_not (pt_val (pe_callB call_isi (by rfl) (n_isinstance T) bo_isinstance (pa_cons (pv 1) (pa_cons (pe_glob (v := .ref (gAd "Signal" K)) rfl (g_Signal T) rfl) pa_nil)))))
 (pss_one (ps_rv XA hr2 rfl tk0 (pa_cons (pv 1) pa_nil)))
 pss_nil)
 (pss_cons (ps_if (pt_not (pt_val (pe_c C_is_between hr2 (pa_cons (pv 2) (pa_cons pe_int (pa_cons (pe_glob (v := .int 6) rfl iL ⟨_, rfl⟩) pa_nil))))))
 (pss_one (ps_rv XB hr2 rfl tk0 (pa_cons (pv 2) pa_nil)))
 pss_nil)
 (pss_one (ps_expr (pe_unbX (E := fun _ => E) (pe_glob (v := .ref (gAd "Signal" K)) rfl (g_Signal T) rfl) (unb_ok (f_unb T.c)) Fi bi hr3 (fun σ => L2N.passAt tk0 σ) (pa_cons (pv 0) (pa_cons (pe_c C_written hr (pa_cons (pe_icon (pv 0)) (pa_cons (pe_tup (pa_cons (pv 1) (pa_cons (pv 2) pa_nil))) pa_nil))) (pa_cons (pe_tup (pa_cons (pv 1) pa_nil)) (pa_cons (pv 2) pa_nil))))))))), ?_⟩
    rcases h with ⟨⟨ty, hty, hk⟩, bad⟩ | ⟨d, p, t, rfl, sg, hb, bad⟩ | ⟨d, p, dx, t, n, rfl, rfl, hx, sg, n1, n0, n6, tl, ov⟩
    · refine ⟨_, rfl, _, _, _, _, false, rfl, .own _, hty, hk, false, rfl, iteT ?_⟩
      exact ⟨_, rfl, xin_mk fun dd nd => bad _ dd (Same.refl H) nd⟩
    · refine ⟨_, rfl, _, _, _, _, true, rfl, .own _, .base (ty_sig T sg), kit_sig T t, true, rfl, iteF ?_⟩
      rcases hb with ni | ⟨i, rfl, hi⟩
      · refine ⟨_, rfl, _, _, 6, rfl, .inr ⟨ni, false, rfl, iteT ?_⟩⟩
        exact ⟨_, rfl, xin_mk fun dd nd => bad _ dd (Same.refl H) nd⟩
      · refine ⟨_, rfl, _, 1, 6, rfl, .inl ⟨i, rfl, ?_⟩⟩
        have e : (decide ((1 : Int) ≤ i) && decide (i ≤ 6)) = false := by
          rw [Bool.eq_false_iff]
          intro z
          rw [Bool.and_eq_true] at z
          exact hi ⟨of_decide_eq_true z.1, of_decide_eq_true z.2⟩
        rw [e]
        refine ⟨false, rfl, iteT ?_⟩
        exact ⟨_, rfl, xin_mk fun dd nd => bad _ dd (Same.refl H) nd⟩
    · refine ⟨_, rfl, _, _, _, _, true, rfl, .own _, .base (ty_sig T sg), kit_sig T t, true, rfl, iteF ?_⟩
      refine ⟨_, rfl, _, 1, 6, rfl, .inl ⟨n, rfl, ?_⟩⟩
      rw [decide_eq_true n1, decide_eq_true n6]
      refine ⟨true, rfl, iteF ?_⟩
      have cx : Cls K (He.ga K "Spread") := cl_of T (.pair 1 t n)
      refine ⟨rfl, _, rfl, _, rfl, _, x, dx, [], _, rfl, hx, rfl, cx, sub_icon (sub_of T (.pair 1 t n)), _, rfl, _, rfl, (by show 2 ≤ sizeLine; decide), fun q nq => ?_⟩
      have s1 : Same H (upd H q (.tup [.ref p, .int n])) := same_upd nq
      have sn : Sz n := Nat.lt_of_le_of_lt (show n.natAbs ≤ 6 by omega) (by decide +kernel)
      have tw : wrS (wordOf 1) [t.tell, S (NumT.iL n)] = (Tree.pair 1 t n).tell := tell_pair 1 t n
      refine ⟨wordOf 1, q, [.ref p, .int n], [t.tell, S (NumT.iL n)], rfl, upd_same, rfl, by show (2 : Nat) ≤ 5; decide, fun i v s h1 h2 => ?_, by rw [tw]; exact tl, fun H2 s2 => ?_⟩
      · match i, h1, h2 with
        | 0, h1, h2 =>
          cases h1
          cases h2
          exact .sig (sg.same s1)
        | 1, h1, h2 =>
          cases h1
          cases h2
          exact .int sn
        | i + 2, h1, h2 => simp at h1
      · refine ⟨_, rfl, (by show 1 ≤ sizeLine; decide), fun tp ntp => ?_⟩
        have s3 : Same H (upd H2 tp (.tup [.ref p])) := (s1.trans s2).trans (same_upd ntp)
        rw [tw]
        exact ⟨_, rfl, d, x, tp, _, _, [t], [p], rfl, upd_same, sigs_one (sg.same s3), by show (1 : Nat) ≤ 5; decide, ov.same s3⟩
end
end K11

/-! repr of a list, a tuple or a dict of one item, an own instance whose class has a repr of its own. -/
namespace Hk
open PySem PySem.Spec PyProof.Rows L2 HotX L2H
/-- f is called with an instance below built-in code of the context X -/
def RunsBelow (X : Cx) (f : Addr) (sp : Sp) : Prop :=
  ∀ (A' : Around) (pins : List (Addr × Obj)) (σ : L2.St) (H : Hp) (s : Shared) (Q : VK) (E' : Value → Shared → Prop) (m : Addr), A'.handled = X.A.handled → A'.frames = X.A.frames → A'.depth ≤ X.A.depth + 2 → A'.units ≤ X.A.units + 8 →
    Inv X pins σ H s → sp [.ref m] H Q E0 → wpAny (model X.prog X.w) A' (call (.ref f) [.ref m]) (EP X pins σ Q) E' s
section
variable {X : Cx} {k : Nat} {C f : Addr} {fd : FuncData} {ps : List Str} {sp : Sp}
theorem runs_calm (F : FnOk X.prog X.w X.K X.mg X.base CX0 k f fd ps sp) (hb : Binds X.K fd ps []) (hr : Room (k + 1) X.A) : RunsBelow X f sp := by
  intro A' pins σ H s Q E' m h1 h2 h3 h4 I h
  have e := I.env0
  refine own_run (us := [.ref m]) (vs := [.ref m]) F ⟨by rw [h1]; exact hr.hd, by have := hr.dp; omega, by have := hr.un; omega⟩ ⟨by rw [h2]; exact e.frames, e.mod, e.bs, e.bsz, e.funs, e.frf, e.hok, e.bare⟩ hb I (.cons rfl .nil) h
theorem runs_hot (F : FnH X.prog X.w X.K X.mg X.base CX0 k f fd ps sp) (hb : Binds X.K fd ps []) (hr : RoomH (k + 1) X.A) (hc : HotC X) : RunsBelow X f sp := by
  intro A' pins σ H s Q E' m h1 h2 h3 h4 I h
  have e := I.env0
  obtain ⟨p, hot, hp⟩ := hc
  refine own_runH (us := [.ref m]) (vs := [.ref m]) F ⟨by have := hr.dp; omega, by have := hr.un; omega⟩ ⟨by rw [h1]; exact hot.1, hot.2⟩ hp ⟨by rw [h2]; exact e.frames, e.mod, e.bs, e.bsz, e.funs, e.frf, e.hok, e.bare⟩ hb I (.cons rfl .nil) h
/-- the item's own repr, below a container's -/
theorem under_own {A' : Around} {pins : List (Addr × Obj)} {σ : L2.St} {H : Hp} {s : Shared} {m dx : Addr} {fs : List (Str × V)} {b : Nat} {Q : Str → Hp → Prop} {R : Str → Shared → Prop} {E' : Value → Shared → Prop} (O : Own X.K C "__repr__" f) (RB : RunsBelow X f sp)
    (g1 : A'.handled = X.A.handled) (g2 : A'.frames = X.A.frames) (g3 : A'.depth ≤ X.A.depth + 2) (g4 : A'.units ≤ X.A.units + 8) (hu : A'.units < cLine) (hb : b ≤ sizeLine) (I : Inv X pins σ H s) (hm : H m = some (.ins C dx fs))
    (h : sp [.ref m] H (fun v H' => ∃ y, v = .str y ∧ Q y H') E0) (q : ∀ y s' H', Inv X pins σ H' s' → Q y H' → R y s') : wpAny (model X.prog X.w) A' (pyReprUnder b (.ref m)) R E' s := by
  obtain ⟨mA, M, _⟩ := ins_get I.hok hm
  obtain ⟨od, J, _⟩ := M.look
  refine wpAny_pyReprUnder_ref hb ?_
  unfold pyReprObjUnder pyReprObjBy
  refine wpAny_bind (wpAny_cRoomFor hu ?_)
  refine wpAny_bind (wpAny_bind (J.type.here ((PySem.W.looks_findIn I.kIn O.at_).here ?_)))
  show wpAny _ _ (if (some (Value.ref f)).isNone = true then _ else _) _ _ _
  rw [if_neg (by simp)]
  have fin : wpAny (model X.prog X.w) A' (call (.ref f) ([.ref m] ++ [])) (fun v s' => ∃ r, v = r ∧ wpAny (model X.prog X.w) A' (do if ← isInstance r (.type "str") then pure r else raiseError "TypeError" s!"__repr__ returned non-string (type {← typeNameOf r})") (fun v s' => ∃ x u, v = .str x u ∧ R x s') E' s') E' s := by
    refine wpAny_mono (RB A' pins σ H s _ E' m g1 g2 g3 g4 I h) (fun v s' z => ?_) fun _ _ z => z
    obtain ⟨z', H', I', rz, y, ey, qz⟩ := z
    subst ey
    obtain ⟨t, e⟩ := (show ∃ t, v = Value.str y t from rz)
    cases e
    exact ⟨_, rfl, wpAny_bind (wpAny_isInstance (T := "str") (b := true) rfl isSubtype_str_str (wpAny_pure ⟨_, _, rfl, q _ _ _ I' qz⟩))⟩
  refine wpAny_bind ?_
  simp only [callSpecialIfBoundBy?, bindSpecialIfBound?]
  refine wpAny_holding (wpAny_bind (wpAny_bind (wpAny_bind (J.type.here ((PySem.W.looks_findIn I.kIn O.at_).here ?_)))))
  refine wpAny_bind (wpAny_askSetting (wpAny_ite ?_))
  have fin2 : wpAny (model X.prog X.w) A' (call (.ref f) ([.ref m] ++ []) >>= fun v => pure (some v)) (fun o s' => wpAny (model X.prog X.w) A' (match o with
      | some r => (do if ← isInstance r (.type "str") then pure r else raiseError "TypeError" s!"__repr__ returned non-string (type {← typeNameOf r})")
      | none => unsupported "repr:special-get-raises") (fun v s' => ∃ x u, v = .str x u ∧ R x s') E' s') E' s :=
    wpAny_bind (wpAny_mono fin (fun v s' ⟨r, e, h'⟩ => by subst e; exact wpAny_pure h') fun _ _ h' => h')
  split
  · exact wpAny_bind ((PySem.W.bind_fn I.kIn _ (beq_iff_eq.mp O.fn)).here (wpAny_pure (by exact fin2)))
  · exact wpAny_tryCatch (wpAny_bind ((PySem.W.bind_fn I.kIn _ (beq_iff_eq.mp O.fn)).here (wpAny_pure (by exact fin2))))
end
end Hk

namespace Hk
open PySem PySem.Spec PyProof.Rows L2 HotX L2H
theorem quietLoop (args : Args) : (Code.builtin "list.__repr__.loop" args).quiet = true := PySem.F.quiet_list_repr_loop args
section
variable {X : Cx} {C f : Addr} {sp : Sp}
/-- a list, a tuple, a dict {x: ..} of one instance with its own repr -/
def rOne (C : Addr) (sp : Sp) : List V → Hp → VK → Prop := fun xs H Q => ∃ (a m dx : Addr) (fs : List (Str × V)), xs = [.ref a] ∧ H m = some (.ins C dx fs) ∧
  ((H a = some (.lst [.ref m]) ∧ sp [.ref m] H (fun v H' => ∃ y, v = .str y ∧ H' a = some (.lst [.ref m]) ∧ (listText [y]).length ≤ sizeLine ∧ Q (.str (listText [y])) H') E0) ∨
   (H a = some (.tup [.ref m]) ∧ sp [.ref m] H (fun v H' => ∃ y, v = .str y ∧ (tupleText [y]).length ≤ sizeLine ∧ Q (.str (tupleText [y])) H') E0) ∨
   (∃ k y : Str, H a = some (.dK [(.inr k, .ref m)]) ∧ (reprText k).length + y.length + 100 ≤ sizeLine ∧ (∀ o, sp [.ref m] (upd H a (.frz o (.dK [(.inr k, .ref m)]))) (fun v H' => v = .str y ∧ H' = upd H a (.frz o (.dK [(.inr k, .ref m)]))) E0) ∧ Q (.str (dictText [reprText k ++ ": " ++ y])) H))
theorem call_list_rc {pins : List (Addr × Obj)} {σ : L2.St} {H : Hp} {s : Shared} {a m dx : Addr} {fs : List (Str × V)} {Q : VK} {E' : Value → Shared → Prop} (hc : Calm X.A) (hu : X.A.units + 200 < cLine) (O : Own X.K C "__repr__" f) (RB : RunsBelow X f sp)
    (I : Inv X pins σ H s) (hm : H m = some (.ins C dx fs)) (ha : H a = some (.lst [.ref m]))
    (h : sp [.ref m] H (fun v H' => ∃ y, v = .str y ∧ H' a = some (.lst [.ref m]) ∧ (listText [y]).length ≤ sizeLine ∧ Q (.str (listText [y])) H') E0) : wpAny (model X.prog X.w) X.A (call (.builtin "repr") [.ref a]) (EP X pins σ Q) E' s := by
  obtain ⟨_, its, n, rv, hg⟩ := (show ObjOk X.prog X.w H s.heap a (.lst [.ref m]) from I.hok a _ ha)
  obtain ⟨u, rfl, ru⟩ := Vals.one rv
  cases (show u = Value.ref m from ru)
  have hTy : s.TypeIs (.ref a) "list" := ⟨_, hg, rfl⟩
  refine call_repr_slot (by omega) hTy F.slot_list_repr.toG (wpAny_call (codeAny_call_builtin F.slot_list_repr.plain F.entry_list_repr (F.slot_list_repr.check _ _ _ _ _ _ _ _ hTy (F.args_list_repr_1 _) ?_)))
  refine wpAny_list_repr_head (b := 0) (g := []) hc (fun v rest kw hm => nomatch hm) hg rfl ?_
  refine wpAny_bind (m := newList []) (wpAny_newObj_type ?_)
  refine wpAny_pure ⟨quietLoop _, ?_⟩
  obtain ⟨P, hP⟩ : ∃ P, P = s.heap.objs.size := ⟨_, rfl⟩
  have hpsz : a ≠ P := by rw [hP]; exact Nat.ne_of_lt (Heap.lt_size hg)
  have k1 : ∀ b o, s.heap.get? b = some o → (s.heap.push { cls := .type "list", data := .seq #[] }).get? b = some o := fun b o e => Heap.get?_push_of_some _ e
  have I1 : Inv X ((P, { cls := .type "list", data := .seq #[] }) :: pins) σ H { s with heap := s.heap.push { cls := .type "list", data := .seq #[] }, toks := s.toks } := by
    have J := I.kept (t' := s.toks) k1
    refine ⟨J.ok, J.os, J.bare, J.base, J.loc, J.cell, J.free, J.freeC, fun p hp => ?_, J.hok, J.len⟩
    rcases List.mem_append.mp hp with h1 | h1
    · exact J.pin p (List.mem_append_left _ h1)
    · rcases List.mem_cons.mp h1 with rfl | h2
      · refine ⟨by rw [hP]; exact Heap.get?_push_size _ rfl, by rw [hP]; exact I.fresh, by rw [hP]; exact Nat.ne_of_gt I.lt, by rw [hP]; exact I.nofs (Nat.le_refl _), fun v z => nomatch z⟩
      · exact J.pin p (List.mem_append_right _ h2)
  rw [← hP]
  refine codeAny_builtin F.entry_list_repr_loop ?_
  show wpAny _ _ (Builtin.«list.__repr__.loop» ⟨[.ref a, .int (0 : Nat) 0, .ref P, .int (0 : Nat) 0], []⟩) _ _ _
  rw [repr_loop_tree]
  refine wpAny_bind (wpAny_listItems (k1 _ _ hg) rfl ?_)
  dsimp only [List.getElem?_toArray, Int.toNat_natCast, List.getElem?_cons_zero]
  refine wpAny_bind (wpAny_holding ?_)
  refine under_own (X := X) (C := C) (f := f) (sp := sp) (H := H) (dx := dx) (fs := fs) (Q := fun y H' => H' a = some (.lst [.ref m]) ∧ (listText [y]).length ≤ sizeLine ∧ Q (.str (listText [y])) H') O RB rfl rfl ?_ ?_ ?_ (by decide) (I1.tok _) hm h (fun y s' H' I' hq => ?_)
  · show X.A.depth + 1 ≤ _
    omega
  · show X.A.units + 1 + 1 ≤ _
    omega
  · show X.A.units + 1 + 1 < _
    omega
  obtain ⟨ha', hz, hq⟩ := hq
  have lt0 : (listText [y]).length = y.length + 2 := by
    show ((("[" : Str) ++ "" ++ y) ++ ("]" : Str)).length = _
    rw [strLen_append, strLen_append, strLen_append]
    show 1 + 0 + y.length + 1 = _
    omega
  obtain ⟨_, its, n', rv', hg'⟩ := (show ObjOk X.prog X.w H' s'.heap a (.lst [.ref m]) from I'.hok a _ ha')
  obtain ⟨u', rfl, ru'⟩ := Vals.one rv'
  cases (show u' = Value.ref m from ru')
  obtain ⟨p1, p2, p3, p4, p5⟩ := I'.pin _ (List.mem_append_right _ List.mem_cons_self)
  refine wpAny_bind (wpAny_mkStr ?_ (by omega))
  refine wpAny_bind ?_
  show wpAny _ _ (updateSeq P _) _ _ _
  refine wpAny_updateSeq p1 rfl (wpAny_pure ⟨quietLoop _, ?_⟩) (by decide)
  refine codeAny_builtin F.entry_list_repr_loop ?_
  show wpAny _ _ (Builtin.«list.__repr__.loop» ⟨[.ref a, .int ((0 : Nat) + 1) 0, .ref P, .int _ 0], []⟩) _ _ _
  rw [repr_loop_tree]
  refine wpAny_bind (wpAny_listItems ((Heap.get?_update_other _ _ (fun h : P = a => hpsz h.symm)).trans hg') rfl ?_)
  dsimp only
  have e1 : ((([Value.ref m] : List Value).toArray)[(((0 : Nat) : Int) + 1).toNat]? : Option Value) = none := rfl
  rw [e1]
  dsimp only
  unfold reprEnd
  refine wpAny_bind (wpAny_listItems (Heap.get?_update_self _ p1 rfl) rfl ?_)
  have es : ((#[] : Array Value).push (.str y s'.toks)).toList = strValues [(y, s'.toks)] := rfl
  rw [es, repr_fold]
  refine wpAny_bind (wpAny_pure ?_)
  refine wpAny_bind (wpAny_mkStr (wpAny_pure ?_) hz)
  refine ⟨_, _, rfl, .str _, H', ?_, ⟨_, rfl⟩, hq⟩
  have J : Inv X pins σ H' s' := ⟨I'.ok, I'.os, I'.bare, I'.base, I'.loc, I'.cell, I'.free, I'.freeC, fun p hp => I'.pin p ((List.mem_append.mp hp).elim (List.mem_append_left _) fun z => List.mem_append_right _ (List.mem_cons_of_mem _ z)), I'.hok, I'.len⟩
  refine Inv.turned (h' := s'.heap.update P (Obj.mapSeq fun x => x.push (Value.str y s'.toks))) (t' := s'.toks + 1 + 1) (s := s') (it := P) J (fun b o hb e => (Heap.get?_update_other _ _ (Ne.symm hb)).trans e) p2 p3 (.inr (by rw [hP]; exact I.sz)) (fun x c e z => ?_) (fun p hp z => ?_)
  · obtain ⟨v, o, ho, _⟩ := I.cell x c e
    rw [z, hP] at ho
    exact absurd (Heap.lt_size ho) (Nat.lt_irrefl _)
  · obtain ⟨ho, _⟩ := I.pin p hp
    rw [z, hP] at ho
    exact absurd (Heap.lt_size ho) (Nat.lt_irrefl _)
theorem call_tup_rc {pins : List (Addr × Obj)} {σ : L2.St} {H : Hp} {s : Shared} {a m dx : Addr} {fs : List (Str × V)} {Q : VK} {E' : Value → Shared → Prop} (hc : Calm X.A) (hu : X.A.units + 200 < cLine) (O : Own X.K C "__repr__" f) (RB : RunsBelow X f sp)
    (I : Inv X pins σ H s) (hm : H m = some (.ins C dx fs)) (ha : H a = some (.tup [.ref m]))
    (h : sp [.ref m] H (fun v H' => ∃ y, v = .str y ∧ (tupleText [y]).length ≤ sizeLine ∧ Q (.str (tupleText [y])) H') E0) : wpAny (model X.prog X.w) X.A (call (.builtin "repr") [.ref a]) (EP X pins σ Q) E' s := by
  obtain ⟨_, its, rv, o, hg, ho1, n, ho2⟩ := (show ObjOk X.prog X.w H s.heap a (.tup [.ref m]) from I.hok a _ ha)
  obtain ⟨u, rfl, ru⟩ := Vals.one rv
  cases (show u = Value.ref m from ru)
  have hTy : s.TypeIs (.ref a) "tuple" := ⟨_, hg, ho1⟩
  refine call_repr_slot (by omega) hTy F.slot_tuple_repr (wpAny_call (codeAny_call_builtin_own (Code.quiet_builtin _ (by decide +kernel)) F.entry_tuple_repr (F.slot_tuple_repr.check _ _ _ _ _ _ _ _ hTy (F.args_tuple_repr_1 _) ?_)))
  show wpOwn _ _ _ (Builtin.tupleReprAt 0 ⟨[.ref a], []⟩) _ _ _
  rw [tuple_repr_tree, tupleReprUnderWay_eq]
  refine wpOwn_bind (wpOwn_stackTailAny (g := []) hc (tupGuardF_off _) (tupGuardF_pos _) ?_)
  refine wpOwn_of_wpAny ?_
  show wpAny _ _ (tupleReprRest 0 (.ref a)) _ _ s
  unfold tupleReprRest Builtin.Tuple.tupleItemsOf
  refine wpAny_bind (wpAny_bind (wpAny_seqItems hg ho2 (wpAny_pure ?_)))
  rw [← Array.forIn_toList]
  dsimp only
  rw [List.forIn_cons]
  refine wpAny_bind (wpAny_bind (wpAny_bind ?_))
  refine under_own (X := X) (C := C) (f := f) (sp := sp) (H := H) (dx := dx) (fs := fs) (Q := fun y H' => (tupleText [y]).length ≤ sizeLine ∧ Q (.str (tupleText [y])) H') O RB rfl rfl ?_ ?_ ?_ (by decide) I hm h (fun y s' H' I' hq => ?_)
  · show X.A.depth + 1 ≤ _
    omega
  · show X.A.units + 1 + 1 ≤ _
    omega
  · show X.A.units + 1 + 1 < _
    omega
  obtain ⟨hz, hq⟩ := hq
  refine wpAny_pure ?_
  dsimp only
  rw [List.forIn_nil]
  refine wpAny_pure ?_
  refine wpAny_bind (wpAny_mkStr (wpAny_pure ?_) (by simpa [tupleText] using hz))
  refine ⟨_, _, rfl, .str _, H', I'.tok _, ⟨_, rfl⟩, ?_⟩
  simpa [tupleText] using hq
theorem inv_frz {pins : List (Addr × Obj)} {σ : L2.St} {H : Hp} {s : Shared} {a : Addr} {kvs : List (Key × V)} {o : Obj} (I : Inv X pins σ H s) (ha : H a = some (.dK kvs)) (ho : s.heap.get? a = some o) : Inv X pins σ (upd H a (.frz o (.dK kvs))) s := by
  have ob := I.hok a _ ha
  have hn : ∀ b u, H b = some u → (∀ ks, u ≠ .dK ks) → upd H a (.frz o (.dK kvs)) b = some u := fun b u e n => by
    rw [upd_ne (fun z => by rw [z, ha] at e; cases e; exact n _ rfl)]
    exact e
  refine I.un (h' := s.heap) (t' := s.toks) ⟨fun b o q _ _ _ => q, fun b o q _ _ _ => ⟨o.slots, q⟩, fun b o q n _ => ?_, fun b o q _ => ⟨o, q⟩, fun b xs e => hn b _ e (fun ks z => nomatch z), fun b o u e => hn b _ e (fun ks z => nomatch z), fun b ps e => ⟨#[], by rw [hn b _ e (fun ks z => nomatch z)]; simp⟩⟩ (fun b u e => ?_)
  · rw [upd_ne (fun z => by rw [z, ha] at n; cases n)]
    exact n
  · by_cases hb : b = a
    · subst hb
      rw [upd_same] at e
      cases e
      exact ⟨ho, ob.stay (fun _ _ _ q => q) (fun c e => hn c _ e (fun ks z => nomatch z)) fun c xs e => hn c _ e (fun ks z => nomatch z)⟩
    · rw [upd_ne hb] at e
      exact (I.hok b u e).stay (fun _ _ _ q => q) (fun c e => hn c _ e (fun ks z => nomatch z)) fun c xs e => hn c _ e (fun ks z => nomatch z)
/-- .. and back -/
theorem inv_thaw {pins : List (Addr × Obj)} {σ : L2.St} {H : Hp} {s0 s : Shared} {a : Addr} {kvs : List (Key × V)} {o : Obj} (I0 : Inv X pins σ H s0) (ha : H a = some (.dK kvs)) (I : Inv X pins σ (upd H a (.frz o (.dK kvs))) s) : Inv X pins σ H s := by
  have eq : ∀ b, b ≠ a → upd H a (.frz o (.dK kvs)) b = H b := fun b hb => upd_ne hb
  have back : ∀ c u, (∀ o u', u ≠ .frz o u') → upd H a (.frz o (.dK kvs)) c = some u → H c = some u := fun c u n e => by
    by_cases hc : c = a
    · subst hc
      rw [upd_same] at e
      cases e
      exact absurd rfl (n _ _)
    · rw [eq c hc] at e
      exact e
  refine ⟨I.ok, I.os, I.bare, ⟨I.base.keep, I.base.slot, I0.base.free, I.base.there, I0.base.tups, I0.base.frzs, I0.base.tbls⟩, I.loc, I.cell, I0.free, I0.freeC, fun p hp => ?_, fun b u e => ?_, I.len⟩
  · obtain ⟨q1, _, q3, q4, q5⟩ := I.pin p hp
    exact ⟨q1, (I0.pin p hp).2.1, q3, q4, q5⟩
  · by_cases hb : b = a
    · subst hb
      rw [ha] at e
      cases e
      obtain ⟨_, q⟩ := (show ObjOk X.prog X.w _ s.heap b (.frz o (.dK kvs)) from I.hok b _ upd_same)
      exact q.stay (fun _ _ _ q => q) (fun c e => back c _ (fun o u' z => nomatch z) e) fun c xs e => back c _ (fun o u' z => nomatch z) e
    · have e' := e
      rw [← eq b hb] at e'
      exact (I.hok b u e').stay (fun _ _ _ q => q) (fun c e => back c _ (fun o u' z => nomatch z) e) fun c xs e => back c _ (fun o u' z => nomatch z) e
theorem call_dct_rc {pins : List (Addr × Obj)} {σ : L2.St} {H : Hp} {s : Shared} {a m dx : Addr} {fs : List (Str × V)} {k : Str} {Q : VK} {E' : Value → Shared → Prop} (hc : Calm X.A) (hu : X.A.units + 200 < cLine) (O : Own X.K C "__repr__" f) (RB : RunsBelow X f sp)
    (I : Inv X pins σ H s) (hm : H m = some (.ins C dx fs)) (ha : H a = some (.dK [(.inr k, .ref m)])) (hkz : (reprText k).length + 100 ≤ sizeLine)
    {y : Str} (hyz : (reprText k).length + y.length + 100 ≤ sizeLine) (h : ∀ o, sp [.ref m] (upd H a (.frz o (.dK [(.inr k, .ref m)]))) (fun v H' => v = .str y ∧ H' = upd H a (.frz o (.dK [(.inr k, .ref m)]))) E0) (hq : Q (.str (dictText [reprText k ++ ": " ++ y])) H) : wpAny (model X.prog X.w) X.A (call (.builtin "repr") [.ref a]) (EP X pins σ Q) E' s := by
  have shape : ∀ {H' : Hp} {s' : Shared}, Inv X pins σ H' s' → H' a = some (.dK [(.inr k, .ref m)]) → ∃ (o : Obj) (e : DictEntry) (ep : Nat) (t : Tok), s'.heap.get? a = some o ∧ o.ExactDict ∧ o.data = .dict #[e] ep ∧ e.key = .str k t ∧ e.val = .ref m ∧ (a == sysModules) = false := by
    intro H' s' I' ha'
    obtain ⟨_, hsm, vs, kv, o, es, ep, h1, h2, h3, h4, h5, h6⟩ := (show ObjOk X.prog X.w H' s'.heap a (.dK [(.inr k, .ref m)]) from I'.hok a _ ha')
    cases kv with
    | cons r t =>
      cases t
      obtain ⟨r1, r2⟩ := r
      rename_i q
      obtain ⟨q1, q2⟩ := q
      cases (show q2 = Value.ref m from r2)
      have r1' : Sum.inr k = q1 := r1
      subst r1'
      generalize hl : es.toList = l at h5
      cases h5 with
      | cons c1 c2 c3 =>
        cases c3
        rename_i e
        have ee : es = #[e] := by
          have := congrArg List.toArray hl
          simpa using this
        rw [ee] at h3
        have c1' : Value.isStrOf k e.key = true := c1
        obtain ⟨t, et⟩ : ∃ t, e.key = .str k t := by
          cases ek : e.key with
          | str x t =>
            rw [ek] at c1'
            have : x = k := by simpa [Value.isStrOf] using c1'
            exact ⟨t, by rw [this]⟩
          | _ => rw [ek] at c1'; simp [Value.isStrOf] at c1'
        exact ⟨o, e, ep, t, h1, h2, h3, et, c2, hsm⟩
  obtain ⟨o, e, ep, t, hg, ho1, ho2, hk, hv, hsm⟩ := shape I ha
  have hTy : s.TypeIs (.ref a) "dict" := ⟨_, hg, ho1.1⟩
  refine call_repr_slot (by omega) hTy F.slot_dict_repr (wpAny_call (codeAny_call_builtin_own (Code.quiet_builtin _ (by decide +kernel)) F.entry_dict_repr (F.slot_dict_repr.check _ _ _ _ _ _ _ _ hTy (F.args_dict_repr_1 _) ?_)))
  show wpOwn _ _ _ (Builtin.dictReprAt 0 ⟨[.ref a], []⟩) _ _ _
  unfold Builtin.dictReprAt
  refine wpOwn_bind (wpOwn_of_wpAny ?_)
  unfold Builtin.Dict.dictSlotNone
  refine wpAny_bind (wpAny_notOrdered_dict hTy ?_)
  show wpAny _ _ (pure (Value.ref a)) _ _ s
  refine wpAny_pure ?_
  rw [dictReprRunning_eq]
  refine wpOwn_bind (wpOwn_stackTailAny (g := []) hc (dictGuardF_off _) (dictGuardF_pos _) ?_)
  refine wpOwn_of_wpAny ?_
  show wpAny _ _ (Builtin.Dict.addrOf (.ref a) >>= _) _ _ s
  refine wpAny_bind (wpAny_pure ?_)
  show wpAny _ _ (Builtin.Dict.showsAll a >>= _) _ _ s
  unfold Builtin.Dict.showsAll
  rw [if_neg (by rw [hsm]; exact Bool.false_ne_true)]
  refine wpAny_bind (wpAny_pure ?_)
  refine wpAny_bind (wpAny_dictEpoch hg ho2 ?_)
  refine wpAny_bind (wpAny_dictEntries hg ho2 ?_)
  refine wpAny_bind ?_
  rw [Std.Legacy.Range.forIn_eq_forIn_range']
  simp only [Std.Legacy.Range.size, Nat.sub_zero, Nat.add_sub_cancel, Nat.div_one]
  have er : List.range' 0 (#[e] : Array DictEntry).size = [0] := rfl
  show wpAny _ _ (forIn [0] _ _) _ _ _
  rw [List.forIn_cons]
  refine wpAny_bind (wpAny_bind (wpAny_dictEntries hg ho2 ?_))
  have e0 : (#[e] : Array DictEntry)[0]? = some e := rfl
  rw [e0]
  dsimp only
  rw [hk, hv]
  refine wpAny_bind (wpAny_holding (wpAny_bind ?_))
  rw [pyReprUnder_leaf (by decide) (by intro a; nofun)]
  refine PySem.wpAny_pyRepr_str ?_ (by omega)
  refine wpAny_bind ?_
  have hm1 : upd H a (.frz o (.dK [(.inr k, .ref m)])) m = some (.ins C dx fs) := by
    rw [upd_ne (fun z => by rw [z, ha] at hm; cases hm)]
    exact hm
  refine under_own (X := X) (C := C) (f := f) (sp := sp) (H := upd H a (.frz o (.dK [(.inr k, .ref m)]))) (dx := dx) (fs := fs) (Q := fun z H' => z = y ∧ H' = upd H a (.frz o (.dK [(.inr k, .ref m)]))) O RB rfl rfl ?_ ?_ ?_ (by omega) ((inv_frz I ha hg).tok _) hm1 ?_ (fun z s' H' I' hq' => ?_)
  · show X.A.depth + 1 ≤ _
    omega
  · show X.A.units + 1 + 1 ≤ _
    omega
  · show X.A.units + 1 + 1 < _
    omega
  · have e : (fun (v : V) (H' : Hp) => ∃ z, v = V.str z ∧ z = y ∧ H' = upd H a (.frz o (.dK [(.inr k, .ref m)]))) = (fun v H' => v = .str y ∧ H' = upd H a (.frz o (.dK [(.inr k, .ref m)]))) := by
      funext v H'
      exact propext ⟨fun ⟨z, h1, h2, h3⟩ => ⟨by rw [h1, h2], h3⟩, fun ⟨h1, h2⟩ => ⟨y, h1, rfl, h2⟩⟩
    rw [e]
    exact h o
  obtain ⟨rfl, rfl⟩ := hq'
  have hg' : s'.heap.get? a = some o := ((show ObjOk X.prog X.w _ s'.heap a (.frz o (.dK [(.inr k, .ref m)])) from I'.hok a _ upd_same)).1
  have J := inv_thaw I ha I'
  refine wpAny_pure ?_
  refine wpAny_bind (wpAny_dictEpoch hg' ho2 ?_)
  rw [if_neg (by simp)]
  refine wpAny_pure ?_
  dsimp only
  rw [List.forIn_nil]
  refine wpAny_pure ?_
  have ez : ((#[] : Array Str).push (reprText k ++ ": " ++ z)).toList = [reprText k ++ ": " ++ z] := rfl
  dsimp only
  rw [ez]
  have lz : (("{" : Str) ++ Str.join ", " [reprText k ++ ": " ++ z] ++ ("}" : Str)).length ≤ sizeLine := by
    show (("{" : Str) ++ (reprText k ++ ": " ++ z) ++ ("}" : Str)).length ≤ _
    rw [strLen_append, strLen_append, strLen_append, strLen_append]
    show 1 + ((reprText k).length + 2 + z.length) + 1 ≤ _
    omega
  refine wpAny_bind (wpAny_mkStr (wpAny_pure ?_) lz)
  exact ⟨_, _, rfl, .str _, H, J.tok _, ⟨_, rfl⟩, hq⟩
theorem call_reprOne (hc : Calm X.A) (hu : X.A.units + 200 < cLine) (O : Own X.K C "__repr__" f) (RB : RunsBelow X f sp) : CallR X (.builtin "repr") (rOne C sp) := by
  intro pins s σ H xs us Q I r h
  obtain ⟨a, m, dx, fs, rfl, hm, h⟩ := h
  obtain ⟨u, rfl, ru⟩ := r.one
  cases (show u = Value.ref a from ru)
  rcases h with ⟨ha, h⟩ | ⟨ha, h⟩ | ⟨k, y, ha, hz, h, q⟩
  · exact call_list_rc hc hu O RB I hm ha h
  · exact call_tup_rc hc hu O RB I hm ha h
  · exact call_dct_rc hc hu O RB I hm ha (by omega) hz h q
end
end Hk

/-! repr of data or of an empty dict, no bound on what is handled (K04f's, apart). -/
namespace Hk
open PySem PySem.Spec PyProof.Rows L2
theorem call_reprSU {X : Cx} (hc : Calm X.A) (hu : X.A.units + 200 < cLine) : CallR X (.builtin "repr") (rShow X.K) := by
  intro pins s σ H xs us Q I r h
  obtain ⟨x, z, rfl, hz, q⟩ := h
  rcases hz with ⟨d, hd, h1, h2, h3, rfl⟩ | ⟨a, rfl, ha, rfl⟩
  · exact call_reprDU hc hu pins s σ H [x] us Q I r ⟨x, d, rfl, hd, h1, h2, h3, q⟩
  · obtain ⟨u, rfl, ru⟩ := r.one
    cases (show u = Value.ref a from ru)
    obtain ⟨_, hsm, vs, kv, o, es, ep, h1, h2, h3, h4, h5, h6⟩ := (show ObjOk X.prog X.w H s.heap a (.dK []) from I.hok a _ ha)
    cases kv
    have e0 : es.toList = [] := by
      cases e : es.toList with
      | nil => rfl
      | cons k r =>
        rw [e] at h5
        exact nomatch h5
    have hrd : Reads s.heap (.ref a) (.dict []) (a :: [] ++ []) := Reads.dict h1 h2.1 h3 (by rw [e0]; exact .nil) (by rw [e0]; exact .nil)
    refine PySem.repr_of_reads' hrd (by simp [PyData.showable, PyData.showableKv]) (fun _ => ?_) hc ?_ (fun b o z => z) (fun h' u tk kp => ⟨.str _, H, I.kept kp, ⟨_, rfl⟩, q⟩) ?_
    · intro hm
      have e : sysModules = a := by simpa using hm
      rw [← e] at hsm
      simp at hsm
    · have e : (PyData.dict []).depth ≤ 1 := by simp [PyData.depth, PyData.depthKv]
      omega
    · decide +kernel
end Hk

namespace K11
open PySem PySem.Spec PyProof.Rows L2 Hk NumM NumT SX L2H LamX
section
variable {P : Program} {w : World} {K : Fr} {mg : Str → Option Value} {base : Heap}
theorem f_repr (T : Tx K mg) : ∃ fd, DAt K d_Number_repr fd ∧ FnOk P w K mg base CX0 4 (d_Number_repr.ad K) fd ["self"] (spGet (CN K) fun t b => .str (("Number(" : Str) ++ S (fL t b) ++ (")" : Str))) := by
  obtain ⟨fd, D⟩ := a_Number_repr T.c
  obtain ⟨fs, Ds, Fs⟩ := f_str (P := P) (w := w) (base := base) T
  have bs : Binds K fs ["self"] [] := FunD.bindsN Ds fun _ _ _ _ _ _ us hl => match us, hl with | [_], _ => rfl
  refine ⟨fd, D, ok_of (N := ["self"]) D sc_Number_repr (fun vs H Q E h => ?_) (fun cdv A outer s H vs Q E hr h => ?_)⟩
  · obtain ⟨p, t, b, rfl, _⟩ := h
    rfl
  · obtain ⟨p, t, b, rfl, N, st, sb, k⟩ := h
    obtain ⟨dx, hp⟩ := id N.at_
    refine ⟨_, (pss_one (ps_ret (pe_joined (.cons pe_str (.cons (pe_fmt (pe_callTy (call_strO (own_ok (f_meth_str T.c)) Fs bs hr) (by rfl) (n_str T) bo_str (pa_cons (pv 0) pa_nil))) (.cons pe_str .nil)))))), ?_⟩
    have l := f_len st sb
    have e1 : Str.empty ++ ("Number(" : Str) = ("Number(" : Str) := by decide +kernel
    have l1 : ("Number(" : Str).length = 7 := by decide +kernel
    have l2 : (")" : Str).length = 1 := by decide +kernel
    have lap : ∀ x y : Str, (x ++ y).length = x.length + y.length := fun x y => by
      show (x.cps ++ y.cps).size = _
      rw [Array.size_append]
      rfl
    refine ⟨_, rfl, ?_, _, rfl, p, dx, _, rfl, hp, p, t, b, rfl, N, st, sb, _, rfl, .inl ⟨_, rfl, ?_, _, rfl, ?_, _, rfl, ?_, ?_⟩⟩
    · rw [e1, l1]
      exact line_ge (by decide)
    · rw [S_len]
      exact line_ge (by omega)
    · rw [e1, lap, l1, S_len]
      exact line_ge (by omega)
    · rw [e1, lap, lap, l1, l2, S_len]
      exact line_ge (by omega)
    · show Q (.str _) H
      rw [e1]
      exact k
theorem f_strH (T : Tx K mg) : ∃ fd, DAt K d_Number_str fd ∧ FnH P w K mg base CX0 1 (d_Number_str.ad K) fd ["self"] (spGet (CN K) fun t b => .str (S (fL t b))) := by
  obtain ⟨fd, D⟩ := a_Number_str T.c
  refine ⟨fd, D, okh_n (N := ["self"]) D sc_Number_str (fun vs H Q E h => ?_) (fun cdv A outer s H vs Q E pp hot hr h => ?_)⟩
  · obtain ⟨p, t, b, rfl, _⟩ := h
    rfl
  · obtain ⟨p, t, b, rfl, ⟨⟨dx, hp⟩, _, _⟩, st, sb, k⟩ := h
    refine ⟨_, (pss_cons (ps_if (pt_cmpR op_eq (pe_fld (pv 0) rfl) pe_int (nomark _)) (pss_one (ps_ret (pe_callTy call_str_int (by rfl) (n_str T) bo_str (pa_cons (pe_fld (pv 0) rfl) pa_nil)))) pss_nil)
      (pss_one (ps_ret (pe_joined (.cons (pe_fmt (pe_fld (pv 0) rfl)) (.cons pe_str (.cons (pe_fmt (pe_fld (pv 0) rfl)) .nil))))))), ?_⟩
    refine ⟨_, rfl, p, CN K, dx, _, _, rfl, hp, cl T, nB T, numF_bot _ _, rfl, _, rfl, ?_⟩
    have l1 := i_len st
    have l2 := i_len sb
    refine ite2 (fun z => ?_) (fun z => ?_)
    · have e : b = 1 := V.int.inj (of_decide_eq_true z)
      refine ⟨_, rfl, p, CN K, dx, _, _, rfl, hp, cl T, nT T, numF_top _ _, _, rfl, log2_small st, ?_⟩
      show Q (.str _) H
      rw [toS]
      have k' : Q (.str (S (fL t b))) H := k
      unfold fL at k'
      rw [if_pos e] at k'
      exact k'
    · have e : ¬ b = 1 := fun q => z (decide_eq_true (by rw [q]))
      refine ⟨_, rfl, p, CN K, dx, _, _, rfl, hp, cl T, nT T, numF_top _ _, .inr ⟨_, rfl, log2_small st, _, rfl, ?_, _, rfl, ?_, ?_⟩⟩
      · rw [toS, empty_S, S_cat, S_len]
        exact line_ge (by rw [List.nil_append]; omega)
      · rw [toS, empty_S, slash_S, S_cat, S_cat, S_len]
        exact line_ge (by rw [List.nil_append, List.length_append]; simp; omega)
      · refine ⟨_, rfl, p, CN K, dx, _, _, rfl, hp, cl T, nB T, numF_bot _ _, .inr ⟨_, rfl, log2_small sb, _, rfl, ?_, ?_⟩⟩
        · rw [toS, toS, empty_S, slash_S, S_cat, S_cat, S_cat, S_len]
          exact line_ge (by rw [List.nil_append, List.length_append, List.length_append]; simp; omega)
        · show Q (.str _) H
          rw [toS, toS, empty_S, slash_S, S_cat, S_cat, S_cat, List.nil_append, List.append_assoc]
          have k' : Q (.str (S (fL t b))) H := k
          unfold fL at k'
          rw [if_neg e] at k'
          exact k'
theorem f_reprH (T : Tx K mg) : ∃ fd, DAt K d_Number_repr fd ∧ FnH P w K mg base CX0 4 (d_Number_repr.ad K) fd ["self"] (spGet (CN K) fun t b => .str (("Number(" : Str) ++ S (fL t b) ++ (")" : Str))) := by
  obtain ⟨fd, D⟩ := a_Number_repr T.c
  obtain ⟨fs, Ds, Fs⟩ := f_strH (P := P) (w := w) (base := base) T
  have bs : Binds K fs ["self"] [] := FunD.bindsN Ds fun _ _ _ _ _ _ us hl => match us, hl with | [_], _ => rfl
  refine ⟨fd, D, okh_n (N := ["self"]) D sc_Number_repr (fun vs H Q E h => ?_) (fun cdv A outer s H vs Q E pp hot hr h => ?_)⟩
  · obtain ⟨p, t, b, rfl, _⟩ := h
    rfl
  · obtain ⟨p, t, b, rfl, N, st, sb, k⟩ := h
    obtain ⟨dx, hp⟩ := id N.at_
    refine ⟨_, (pss_one (ps_ret (pe_joined (.cons pe_str (.cons (pe_fmt (pe_callTy (call_strOH (own_ok (f_meth_str T.c)) Fs bs (hr.mono (by decide)) (hotC_n hot List.mem_cons_self)) (by rfl) (n_str T) bo_str (pa_cons (pv 0) pa_nil))) (.cons pe_str .nil)))))), ?_⟩
    have l := f_len st sb
    have e1 : Str.empty ++ ("Number(" : Str) = ("Number(" : Str) := by decide +kernel
    have l1 : ("Number(" : Str).length = 7 := by decide +kernel
    have l2 : (")" : Str).length = 1 := by decide +kernel
    have lap : ∀ x y : Str, (x ++ y).length = x.length + y.length := fun x y => by
      show (x.cps ++ y.cps).size = _
      rw [Array.size_append]
      rfl
    refine ⟨_, rfl, ?_, _, rfl, p, dx, _, rfl, hp, p, t, b, rfl, N, st, sb, _, rfl, .inl ⟨_, rfl, ?_, _, rfl, ?_, _, rfl, ?_, ?_⟩⟩
    · rw [e1, l1]
      exact line_ge (by decide)
    · rw [S_len]
      exact line_ge (by omega)
    · rw [e1, lap, l1, S_len]
      exact line_ge (by omega)
    · rw [e1, lap, lap, l1, l2, S_len]
      exact line_ge (by omega)
    · show Q (.str _) H
      rw [e1]
      exact k
theorem f_sgreprH (T : Tx K mg) : ∃ fd, DAt K d_Signal_repr fd ∧ FnH P w K mg base CX0 1 (d_Signal_repr.ad K) fd ["self"] (spSg K fun t => .str t.shown) := by
  obtain ⟨fd, D⟩ := a_Signal_repr T.c
  refine ⟨fd, D, okh_n (N := ["self"]) D sc_Signal_repr (fun vs H Q E h => ?_) (fun cdv A outer s H vs Q E pp hot hr h => ?_)⟩
  · obtain ⟨d, t, x, rfl, _⟩ := h
    rfl
  · obtain ⟨d, t, x, rfl, I, k⟩ := h
    cases I with
    | mk h ht hl n5 ne tl hk =>
      refine ⟨_, pss_one (ps_ret (pe_joined (.cons pe_str (.cons (pe_fmt (pe_fld (pv 0) rfl)) (.cons pe_str .nil))))), ?_⟩
      have l1 : ("Signal(" : Str).length = 7 := rfl
      have l2 : (")" : Str).length = 1 := rfl
      refine ⟨_, rfl, ?_, _, rfl, x, _, _, _, _, rfl, h, cl_of T t, na_of T t (by simp), rfl, .inl ⟨_, rfl, big6 (by omega), _, rfl, ?_, _, rfl, ?_, ?_⟩⟩
      · rw [empty_app]
        exact big6 (by omega)
      · rw [empty_app, str_len]
        exact big6 (by omega)
      · rw [empty_app, str_len, str_len]
        exact big6 (by omega)
      · rw [empty_app]
        exact k
/-- what repr gives: data, {}, a Number, a signal, a container of one signal -/
abbrev spNS (K : Fr) : Sp := spGet (CN K) fun t b => .str (("Number(" : Str) ++ S (fL t b) ++ (")" : Str))
abbrev spSS (K : Fr) : Sp := spSg K fun t => .str t.shown
def rOneA (K : Fr) (f : Addr) (sp : Sp) : List V → Hp → VK → Prop := fun xs H Q => ∃ C, Own K C "__repr__" f ∧ rOne C sp xs H Q
def rA (K : Fr) : List V → Hp → VK → Prop := fun xs H Q => rShow K xs H Q ∨ (rText (CN K) (spNS K) xs H Q ∨ (rTextA K "__repr__" (d_Signal_repr.ad K) (spSS K) xs H Q ∨ rOneA K (d_Signal_repr.ad K) (spSS K) xs H Q))
theorem rr_calm {X : Cx} (T : Tx X.K X.mg) (hc : Calm X.A) (hr : Room 6 X.A) : CallR X (.builtin "repr") (rA X.K) := by
  obtain ⟨fp, Dp', Fp⟩ := f_repr (P := X.prog) (w := X.w) (base := X.base) T
  obtain ⟨fs, Ds, Fs⟩ := f_sgrepr (P := X.prog) (w := X.w) (base := X.base) T
  have bp : Binds X.K fp ["self"] [] := FunD.bindsN Dp' fun _ _ _ _ _ _ us hl => match us, hl with | [_], _ => rfl
  have bs : Binds X.K fs ["self"] [] := FunD.bindsN Ds fun _ _ _ _ _ _ us hl => match us, hl with | [_], _ => rfl
  have hu : X.A.units + 200 < cLine := by
    have := hr.un
    omega
  refine callr_or (call_reprSU hc hu) (callr_or (call_reprO (own_ok (f_meth_repr T.c)) Fp bp (hr.mono (by decide))) (callr_or (call_reprA Fs bs (hr.mono (by decide))) ?_))
  intro pins s σ H xs us Q I r h
  obtain ⟨C, O, h⟩ := h
  exact call_reprOne hc hu O (runs_calm Fs bs (hr.mono (by decide))) pins s σ H xs us Q I r h
theorem rr_hot {X : Cx} (T : Tx X.K X.mg) (hc : Calm X.A) (hr : RoomH 6 X.A) (hot : HotC X) : CallR X (.builtin "repr") (rA X.K) := by
  obtain ⟨fp, Dp', Fp⟩ := f_reprH (P := X.prog) (w := X.w) (base := X.base) T
  obtain ⟨fs, Ds, Fs⟩ := f_sgreprH (P := X.prog) (w := X.w) (base := X.base) T
  have bp : Binds X.K fp ["self"] [] := FunD.bindsN Dp' fun _ _ _ _ _ _ us hl => match us, hl with | [_], _ => rfl
  have bs : Binds X.K fs ["self"] [] := FunD.bindsN Ds fun _ _ _ _ _ _ us hl => match us, hl with | [_], _ => rfl
  have hu : X.A.units + 200 < cLine := by
    have := hr.un
    omega
  refine callr_or (call_reprSU hc hu) (callr_or (call_reprOH (own_ok (f_meth_repr T.c)) Fp bp (hr.mono (by decide)) hot) (callr_or ?_ ?_))
  · intro pins s σ H xs us Q I r h
    obtain ⟨C, O, h⟩ := h
    exact call_reprOH O Fs bs (hr.mono (by decide)) hot pins s σ H xs us Q I r h
  · intro pins s σ H xs us Q I r h
    obtain ⟨C, O, h⟩ := h
    exact call_reprOne hc hu O (runs_hot Fs bs (hr.mono (by decide)) hot) pins s σ H xs us Q I r h
end
end K11

namespace K11
open PySem PySem.Spec PyProof.Rows L2 Hk NumM NumT SX L2H LamX
/-- all but the object at a (the source) and the tables is kept -/
def Kp (a : Addr) (H H' : Hp) : Prop := ∀ b o, H b = some o → b ≠ a → (∀ ps, o ≠ .tbl ps) → H' b = some o
theorem Kp.refl (a : Addr) (H : Hp) : Kp a H H := fun _ _ h _ _ => h
theorem Kp.trans {a : Addr} {H H1 H2 : Hp} (s : Kp a H H1) (t : Kp a H1 H2) : Kp a H H2 := fun b o h n m => t b o (s b o h n m) n m
theorem Kp.old {a : Addr} {H H1 : Hp} (s : Old a H H1) : Kp a H H1 := fun b o h n _ => s b o h n
theorem Kp.same {a : Addr} {H H1 : Hp} (s : Same H H1) : Kp a H H1 := fun b o h _ _ => s b o h
theorem Kp.ext {a : Addr} {H H1 : Hp} (s : ExtN H H1) : Kp a H H1 := fun b o h _ m => s b o h m
theorem sig_kp {K : Fr} {H H' : Hp} {a n d : Nat} {t : Tree} {x : Addr} (I : SigAt K H d t x) (s : SrcAt a n H) (k : Kp a H H') : SigAt K H' d t x := by
  obtain ⟨d1, e1, c1, hs, _⟩ := s
  have ne : ∀ {b : Addr} {o : HO}, H b = some o → (∀ xs, o ≠ .lst xs) → b ≠ a := fun {b o} h n z => by
    rw [z, hs] at h
    exact n _ (Option.some.inj h).symm
  induction I with
  | mk h ht hl n5 nm tl hk ih => exact .mk (k _ _ h (ne h fun xs z => nomatch z) fun ps z => nomatch z) (k _ _ ht (ne ht fun xs z => nomatch z) fun ps z => nomatch z) hl n5 nm tl ih
/-- scalars -/
inductive Flat : V → PyData → Prop
  | non : Flat .non .none
  | bl (b : Bool) : Flat (.bl b) (.bool b)
  | int (i : Int) : Flat (.int i) (.int i)
  | str (x : Str) : Flat (.str x) (.str x)
inductive Flats : List V → List PyData → Prop
  | nil : Flats [] []
  | cons {x : V} {d : PyData} {xs : List V} {ds : List PyData} (h : Flat x d) (r : Flats xs ds) : Flats (x :: xs) (d :: ds)
theorem Flat.dp {K : Fr} {H : Hp} {x : V} {d : PyData} (h : Flat x d) : Dp K H x d := by
  cases h with
  | non => exact .non
  | bl b => exact .bl b
  | int i => exact .int i
  | str x => exact .str x
theorem Flats.dp {K : Fr} {H : Hp} {xs : List V} {ds : List PyData} (h : Flats xs ds) : DpAll K H xs ds := by
  induction h with
  | nil => exact .nil
  | cons h r ih => exact .cons h.dp ih
/-- what repr may show of a text -/
structure Txt (y : PyData) : Prop where
  s : y.showable = true
  d : y.depth ≤ 60
  l : y.shown.length ≤ 2000
  a : Asc y.shown
/-- repr of x gives z -/
inductive Shows (K : Fr) (H : Hp) : V → Str → Prop
  | flat {x : V} {d : PyData} (h : Flat x d) (t : Txt d) : Shows K H x d.shown
  | tup {p : Addr} {xs : List V} {ds : List PyData} (e : H p = some (.tup xs)) (h : Flats xs ds) (t : Txt (.tuple ds)) : Shows K H (.ref p) (PyData.tuple ds).shown
  | lst {p : Addr} {xs : List V} {ds : List PyData} (e : H p = some (.lst xs)) (h : Flats xs ds) (t : Txt (.list ds)) : Shows K H (.ref p) (PyData.list ds).shown
  | dct {p : Addr} (e : H p = some (.dK [])) : Shows K H (.ref p) (PyData.dict []).shown
  | num {q : Addr} {t b : Int} (N : NumAt (CN K) H q t b) (st : Sz t) (sb : Sz b) : Shows K H (.ref q) (("Number(" : Str) ++ S (fL t b) ++ (")" : Str))
  | sig {d : Nat} {t : Tree} {p : Addr} (I : SigAt K H d t p) (az : Asc t.shown) (l : t.shown.length ≤ 2000) : Shows K H (.ref p) t.shown
  | tupS {q : Addr} {d : Nat} {t : Tree} {p : Addr} (e : H q = some (.tup [.ref p])) (I : SigAt K H d t p) (az : Asc t.shown) (l : t.shown.length ≤ 2000) : Shows K H (.ref q) (tupleText [t.shown])
  | lstS {q : Addr} {d : Nat} {t : Tree} {p : Addr} (e : H q = some (.lst [.ref p])) (I : SigAt K H d t p) (az : Asc t.shown) (l : t.shown.length ≤ 2000) : Shows K H (.ref q) (listText [t.shown])
  | dctS {q : Addr} {d : Nat} {t : Tree} {p : Addr} (e : H q = some (.dK [(.inr "x", .ref p)])) (I : SigAt K H d t p) (az : Asc t.shown) (l : t.shown.length ≤ 2000) : Shows K H (.ref q) (dictText [reprText "x" ++ ": " ++ t.shown])
theorem Shows.asc {K : Fr} {H : Hp} {x : V} {z : Str} (h : Shows K H x z) : Asc z := by
  cases h with
  | flat h t => exact t.a
  | tup e h t => exact t.a
  | lst e h t => exact t.a
  | dct e => exact lit_asc (by decide +kernel)
  | num N st sb => exact ((lit_asc (by decide +kernel)).app (S_asc (fL_small _ _))).app (lit_asc (by decide +kernel))
  | sig I az l => exact az
  | tupS e I az l => exact ((lit_asc (x := "(") (by decide +kernel)).app az).app (lit_asc (x := ",)") (by decide +kernel))
  | lstS e I az l => exact (((lit_asc (x := "[") (by decide +kernel)).app (lit_asc (x := "") (by decide +kernel))).app az).app (lit_asc (x := "]") (by decide +kernel))
  | dctS e I az l => exact ((lit_asc (x := "{") (by decide +kernel)).app (((lit_asc (x := reprText "x") (by decide +kernel)).app (lit_asc (x := ": ") (by decide +kernel))).app az)).app (lit_asc (x := "}") (by decide +kernel))
theorem num_kp {C : Addr} {H H' : Hp} {a p : Addr} {n : Nat} {t b : Int} (N : NumAt C H p t b) (s : SrcAt a n H) (k : Kp a H H') : NumAt C H' p t b := by
  obtain ⟨⟨dx, hp⟩, c, q⟩ := N
  obtain ⟨d1, e1, c1, hs, _⟩ := s
  exact ⟨⟨dx, k _ _ hp (fun z => by rw [z, hs] at hp; cases hp) (fun ps z => nomatch z)⟩, c, q⟩
theorem Shows.kp {K : Fr} {H H' : Hp} {a n : Nat} {x : V} {z : Str} (h : Shows K H x z) (s : SrcAt a n H) (ne : x ≠ .ref a) (k : Kp a H H') : Shows K H' x z := by
  have nr : ∀ {p : Addr}, (V.ref p ≠ .ref a) → p ≠ a := fun {p} h z => h (by rw [z])
  cases h with
  | flat h t => exact .flat h t
  | tup e h t => exact .tup (k _ _ e (nr ne) fun ps z => nomatch z) h t
  | lst e h t => exact .lst (k _ _ e (nr ne) fun ps z => nomatch z) h t
  | dct e => exact .dct (k _ _ e (nr ne) fun ps z => nomatch z)
  | num N st sb => exact .num (num_kp N s k) st sb
  | sig I az l => exact .sig (sig_kp I s k) az l
  | tupS e I az l => exact .tupS (k _ _ e (nr ne) fun ps z => nomatch z) (sig_kp I s k) az l
  | lstS e I az l => exact .lstS (k _ _ e (nr ne) fun ps z => nomatch z) (sig_kp I s k) az l
  | dctS e I az l => exact .dctS (k _ _ e (nr ne) fun ps z => nomatch z) (sig_kp I s k) az l
theorem sig_in {K : Fr} {H : Hp} {d : Nat} {t : Tree} {p : Addr} (I : SigAt K H d t p) : ∃ dx fs, H p = some (.ins (CT K t) dx fs) := by
  cases I with
  | mk h ht hl n5 nm tl hk => exact ⟨_, _, h⟩
theorem sig_frz {K : Fr} {H : Hp} {d : Nat} {t : Tree} {p q : Addr} {o : Obj} {kvs : List (Key × V)} (I : SigAt K H d t p) (e : H q = some (.dK kvs)) : SigAt K (upd H q (.frz o (.dK kvs))) d t p := by
  have ne : ∀ {b : Addr} {u : HO}, H b = some u → (∀ ks, u ≠ .dK ks) → upd H q (.frz o (.dK kvs)) b = some u := fun {b u} h n => by
    rw [upd_ne (fun z => by rw [z, e] at h; exact n _ (Option.some.inj h).symm)]
    exact h
  induction I with
  | mk h ht hl n5 nm tl hk ih => exact .mk (ne h fun ks z => nomatch z) (ne ht fun ks z => nomatch z) hl n5 nm tl ih
theorem len2000 {n : Nat} (h : n ≤ 3000) : n ≤ sizeLine := Nat.le_trans h (by decide)
/-- so repr's reading is met -/
theorem Shows.rA {K : Fr} {mg : Str → Option Value} (T : Tx K mg) {H : Hp} {x : V} {z : Str} {Q : VK} (h : Shows K H x z) (q : Q (.str z) H) : rA K [x] H Q := by
  have ow : ∀ t : Tree, Own K (CT K t) "__repr__" (d_Signal_repr.ad K) := fun t => sub_own (sub_of T t) (by simp)
  cases h with
  | flat h t => exact .inl ⟨_, _, rfl, .inl ⟨_, h.dp, t.s, t.d, len2000 (by have := t.l; omega), rfl⟩, q⟩
  | tup e h t => exact .inl ⟨_, _, rfl, .inl ⟨_, .tup (.inl (.inl e)) h.dp, t.s, t.d, len2000 (by have := t.l; omega), rfl⟩, q⟩
  | lst e h t => exact .inl ⟨_, _, rfl, .inl ⟨_, .lst (.inl (.inl e)) h.dp, t.s, t.d, len2000 (by have := t.l; omega), rfl⟩, q⟩
  | dct e => exact .inl ⟨_, _, rfl, .inr ⟨_, rfl, e, rfl⟩, q⟩
  | num N st sb =>
    obtain ⟨dx, hp⟩ := id N.at_
    exact .inr (.inl ⟨_, dx, _, rfl, hp, _, _, _, rfl, N, st, sb, _, rfl, q⟩)
  | @sig d t p I az l =>
    obtain ⟨dx, fs, hp⟩ := sig_in I
    exact .inr (.inr (.inl ⟨_, ow t, _, dx, fs, rfl, hp, d, t, p, rfl, I, _, rfl, q⟩))
  | @tupS a d t p e I az l =>
    obtain ⟨dx, fs, hp⟩ := sig_in I
    refine .inr (.inr (.inr ⟨_, ow t, a, p, dx, fs, rfl, hp, .inr (.inl ⟨e, d, t, p, rfl, I, _, rfl, ?_, q⟩)⟩))
    refine len2000 ?_
    show ((("(" : Str) ++ t.shown) ++ (",)" : Str)).length ≤ _
    rw [strLen_append, strLen_append]
    show 1 + t.shown.length + 2 ≤ _
    omega
  | @lstS a d t p e I az l =>
    obtain ⟨dx, fs, hp⟩ := sig_in I
    refine .inr (.inr (.inr ⟨_, ow t, a, p, dx, fs, rfl, hp, .inl ⟨e, d, t, p, rfl, I, _, rfl, e, ?_, q⟩⟩))
    refine len2000 ?_
    show ((("[" : Str) ++ "" ++ t.shown) ++ ("]" : Str)).length ≤ _
    rw [strLen_append, strLen_append, strLen_append]
    show 1 + 0 + t.shown.length + 1 ≤ _
    omega
  | @dctS a d t p e I az l =>
    obtain ⟨dx, fs, hp⟩ := sig_in I
    refine .inr (.inr (.inr ⟨_, ow t, a, p, dx, fs, rfl, hp, .inr (.inr ⟨"x", t.shown, e, ?_, fun o => ⟨d, t, p, rfl, sig_frz I e, rfl, rfl⟩, q⟩)⟩))
    refine len2000 ?_
    have e3 : (reprText "x").length = 3 := by decide +kernel
    omega
theorem tyx_kp {K : Fr} {H H' : Hp} {a : Addr} {x : V} {ty : Value} (h : TyX K H x ty) (ne : x ≠ .ref a) (k : Kp a H H') : TyX K H' x ty := by
  have nr : ∀ {p : Addr}, (V.ref p ≠ .ref a) → p ≠ a := fun {p} h z => h (by rw [z])
  cases h with
  | base e =>
    cases e with
    | lst e => exact .base (.lst (k _ _ e (nr ne) fun ps z => nomatch z))
    | frz e => exact .base (.frz (k _ _ e (nr ne) fun ps z => nomatch z))
    | tup e => exact .base (.tup (k _ _ e (nr ne) fun ps z => nomatch z))
    | dK e => exact .base (.dK (k _ _ e (nr ne) fun ps z => nomatch z))
    | dT e => exact .base (.dT (k _ _ e (nr ne) fun ps z => nomatch z))
    | ins e c1 c2 c3 c4 c5 => exact .base (.ins (k _ _ e (nr ne) fun ps z => nomatch z) c1 c2 c3 c4 c5)
    | _ => exact .base (by constructor)
  | byt b => exact .byt b
  | set e => exact .set (k _ _ e (nr ne) fun ps z => nomatch z)
  | kList e c => exact .kList e c
  | kTuple e c => exact .kTuple e c
  | kDict e c => exact .kDict e c
  | fTuple e => exact .fTuple (k _ _ e (nr ne) fun ps z => nomatch z)
  | fDict e => exact .fDict (k _ _ e (nr ne) fun ps z => nomatch z)
end K11

namespace K11
open PySem PySem.Spec PyProof.Rows L2 Hk NumM NumT SX L2H LamX
/-- a value that is no expression -/
structure OddAt (K : Fr) (H : Hp) (a : Addr) (y : V) (z : Str) : Prop where
  sh : Shows K H y z
  ne : y ≠ .ref a
  ns : NotSig K H y
theorem OddAt.kp {K : Fr} {H H' : Hp} {a n : Addr} {y : V} {z : Str} (h : OddAt K H a y z) (s : SrcAt a n H) (k : Kp a H H') : OddAt K H' a y z := by
  obtain ⟨ty, h1, h2⟩ := h.ns
  exact ⟨h.sh.kp s h.ne k, h.ne, ty, tyx_kp h1 h.ne k, h2⟩
section
variable {P : Program} {w : World} {K : Fr} {mg : Str → Option Value} {base : Heap}
theorem kS_str (T : Tx K mg) : PySem.W.kitOne K (.type "str") (.ref (He.ga K "Signal")) = some false := of_decide_eq_true (tAll_at (f_kitS T.c) 0)
theorem kS_non (T : Tx K mg) : PySem.W.kitOne K (.type "NoneType") (.ref (He.ga K "Signal")) = some false := of_decide_eq_true (tAll_at (f_kitS T.c) 1)
theorem kS_int (T : Tx K mg) : PySem.W.kitOne K (.type "int") (.ref (He.ga K "Signal")) = some false := of_decide_eq_true (tAll_at (f_kitS T.c) 2)
theorem kS_tup (T : Tx K mg) : PySem.W.kitOne K (.type "tuple") (.ref (He.ga K "Signal")) = some false := of_decide_eq_true (tAll_at (f_kitS T.c) 3)
theorem kS_lst (T : Tx K mg) : PySem.W.kitOne K (.type "list") (.ref (He.ga K "Signal")) = some false := of_decide_eq_true (tAll_at (f_kitS T.c) 4)
theorem kS_num (T : Tx K mg) : PySem.W.kitOne K (.ref (CN K)) (.ref (He.ga K "Signal")) = some false := of_decide_eq_true (tAll_at (f_kitS T.c) 5)
theorem kS_bl (T : Tx K mg) : PySem.W.kitOne K (.type "bool") (.ref (He.ga K "Signal")) = some false := of_decide_eq_true (tAll_at (f_kitS2 T.c) 0)
theorem kS_dct (T : Tx K mg) : PySem.W.kitOne K (.type "dict") (.ref (He.ga K "Signal")) = some false := of_decide_eq_true (tAll_at (f_kitS2 T.c) 1)
theorem ty_num (T : Tx K mg) {H : Hp} {q : Addr} {t b : Int} (N : NumAt (CN K) H q t b) : TyX K H (.ref q) (.ref (CN K)) := by
  obtain ⟨dx, hp⟩ := id N.at_
  exact .base (ins_ok (f_ins T.c) hp (cl T))
theorem txt_non : Txt .none := ⟨rfl, by decide +kernel, by decide +kernel, lit_asc (by decide +kernel)⟩
theorem txt_bl (b : Bool) : Txt (.bool b) := by
  cases b
  · exact ⟨rfl, by decide +kernel, by decide +kernel, lit_asc (by decide +kernel)⟩
  · exact ⟨rfl, by decide +kernel, by decide +kernel, lit_asc (by decide +kernel)⟩
def spOdd (K : Fr) : Sp := fun vs H Q _ => ∃ (a m : Addr) (n d : Nat) (t : Tree), vs = [.ref a, .ref m] ∧ SrcAt a n H ∧ n < 2 ^ 40 ∧ SigAt K H d t m ∧ Asc t.shown ∧ t.shown.length ≤ 2000 ∧
  ∀ (y : V) (z : Str) (H' : Hp), Old a H H' → SrcAt a (n + 1) H' → OddAt K H' a y z → (∀ p, y = .ref p → H p = none) → Q y H'
theorem c_odd (T : Tx K mg) : Cal P w K mg base 4 "_law_odd" (gAd "_law_odd" K) ["_law_source_here", "_law_mate"] (spOdd K) := by
  have C_l_pick := c_pick (P := P) (w := w) (base := base) T
  obtain ⟨f0, D0, F0⟩ := f_init (P := P) (w := w) (base := base) T
  obtain ⟨ds, Vd, B0⟩ := b_init1 D0
  refine cal_of (d := d_l_odd) (N := ["_law_source_here", "_law_mate", "_law_some"]) (a_l_odd T.c) rfl sc_l_odd (g_l_odd T) (fun _ _ _ _ _ _ us hl => match us, hl with | [_, _], _ => rfl) (fun vs H Q E h => ?_) (fun cdv A outer s H vs Q E hr h => ?_)
  · obtain ⟨a, m, n, d, t, rfl, _⟩ := h
    rfl
  · obtain ⟨a, m, n, d, t, rfl, hs, hn, sg, az, lz, k⟩ := h
    refine ⟨_, (pss_cons (ps_set (i := 2) sc_l_odd.nd rfl (.inl rfl) (pe_lst (pa_cons pe_non (pa_cons pe_str (pa_cons pe_str (pa_cons pe_bl (pa_cons pe_bl (pa_cons (pe_tup pa_nil) (pa_cons (pe_lst pa_nil) (pa_cons pe_dnewK (pa_cons (pe_tup (pa_cons (pv 1) pa_nil)) (pa_cons (pe_lst (pa_cons (pv 1) pa_nil)) (pa_cons (pe_disp (pps_cons pe_str (pv 1) pps_nil) rfl rfl (by intro z; cases z) (by decide)) (pa_cons (pe_num (mkN T) F0 hr (g_Number T) B0 Vd (pa_cons pe_int pa_nil)) (pa_cons pe_str (pa_cons (pe_lst (pa_cons pe_int pa_nil)) (pa_cons (pe_tup (pa_cons pe_int pa_nil)) pa_nil)))))))))))))))))
 (pss_one (ps_ret (pe_ix ix_list (pv 2) (pe_c C_l_pick (hr.mono (by decide)) (pa_cons (pv 0) (pa_cons pe_int pa_nil))) (fun _ _ => rfl))))), ?_⟩
    obtain ⟨G0, hG0⟩ : ∃ G0 : Hp, G0 = H := ⟨_, rfl⟩
    rw [← hG0] at hs sg ⊢
    have k0 : ∀ (y : V) (z : Str) (H' : Hp), Old a G0 H' → SrcAt a (n + 1) H' → OddAt K H' a y z → (∀ p, y = .ref p → G0 p = none) → Q y H' := by
      rw [hG0]
      exact k
    clear k hG0
    refine ⟨(by show 0 ≤ sizeLine; decide), fun p1 n1 => ?_⟩
    have e1 : Same G0 (upd G0 p1 (HO.tup [])) := same_upd n1
    have c1 : (upd G0 p1 (HO.tup [])) p1 = some (HO.tup []) := upd_same
    generalize hG1 : (upd G0 p1 (HO.tup [])) = G1 at e1 c1 ⊢
    clear hG1
    refine ⟨(by show 0 ≤ sizeLine; decide), fun p2 n2 => ?_⟩
    have e2 : Same G1 (upd G1 p2 (HO.lst [])) := same_upd n2
    have c2 : (upd G1 p2 (HO.lst [])) p2 = some (HO.lst []) := upd_same
    generalize hG2 : (upd G1 p2 (HO.lst [])) = G2 at e2 c2 ⊢
    clear hG2
    intro p3 n3
    have e3 : Same G2 (upd G2 p3 (HO.dK [])) := same_upd n3
    have c3 : (upd G2 p3 (HO.dK [])) p3 = some (HO.dK []) := upd_same
    generalize hG3 : (upd G2 p3 (HO.dK [])) = G3 at e3 c3 ⊢
    clear hG3
    refine ⟨_, rfl, (by show 1 ≤ sizeLine; decide), fun p4 n4 => ?_⟩
    have e4 : Same G3 (upd G3 p4 (HO.tup [V.ref m])) := same_upd n4
    have c4 : (upd G3 p4 (HO.tup [V.ref m])) p4 = some (HO.tup [V.ref m]) := upd_same
    generalize hG4 : (upd G3 p4 (HO.tup [V.ref m])) = G4 at e4 c4 ⊢
    clear hG4
    refine ⟨_, rfl, (by show 1 ≤ sizeLine; decide), fun p5 n5 => ?_⟩
    have e5 : Same G4 (upd G4 p5 (HO.lst [V.ref m])) := same_upd n5
    have c5 : (upd G4 p5 (HO.lst [V.ref m])) p5 = some (HO.lst [V.ref m]) := upd_same
    generalize hG5 : (upd G4 p5 (HO.lst [V.ref m])) = G5 at e5 c5 ⊢
    clear hG5
    intro p6 n6
    refine ⟨_, rfl, upd_same, [(.inr "x", .ref m)], rfl, by show 1 ≤ 15; decide, ?_⟩
    rw [upd_upd]
    have em : mergeK [] [((.inr "x" : Key), V.ref m)] = [(.inr "x", .ref m)] := rfl
    rw [em]
    have e6 : Same G5 (upd G5 p6 (HO.dK [(.inr "x", V.ref m)])) := same_upd n6
    have c6 : (upd G5 p6 (HO.dK [(.inr "x", V.ref m)])) p6 = some (HO.dK [(.inr "x", V.ref m)]) := upd_same
    generalize hG6 : (upd G5 p6 (HO.dK [(.inr "x", V.ref m)])) = G6 at e6 c6 ⊢
    clear hG6
    refine ⟨1, 1, rfl, by decide, sz1, fun G7 p7 e7 n7 N7 => ?_⟩
    rw [(low_one 1).1, (low_one 1).2] at N7
    refine ⟨(by show 1 ≤ sizeLine; decide), fun p8 n8 => ?_⟩
    have e8 : Same G7 (upd G7 p8 (HO.lst [V.int 1])) := same_upd n8
    have c8 : (upd G7 p8 (HO.lst [V.int 1])) p8 = some (HO.lst [V.int 1]) := upd_same
    generalize hG8 : (upd G7 p8 (HO.lst [V.int 1])) = G8 at e8 c8 ⊢
    clear hG8
    refine ⟨(by show 1 ≤ sizeLine; decide), fun p9 n9 => ?_⟩
    have e9 : Same G8 (upd G8 p9 (HO.tup [V.int 1])) := same_upd n9
    have c9 : (upd G8 p9 (HO.tup [V.int 1])) p9 = some (HO.tup [V.int 1]) := upd_same
    generalize hG9 : (upd G8 p9 (HO.tup [V.int 1])) = G9 at e9 c9 ⊢
    clear hG9
    refine ⟨(by show 15 ≤ sizeLine; decide), fun pL nL => ?_⟩
    have eL := same_upd (o := HO.lst [V.non, .str "x", .str "sum(x)", .bl true, .bl false, .ref p1, .ref p2, .ref p3, .ref p4, .ref p5, .ref p6, .ref p7, .str "1", .ref p8, .ref p9]) nL
    have cL : (upd G9 pL (HO.lst [V.non, .str "x", .str "sum(x)", .bl true, .bl false, .ref p1, .ref p2, .ref p3, .ref p4, .ref p5, .ref p6, .ref p7, .str "1", .ref p8, .ref p9])) pL = _ := upd_same
    generalize hGL : upd G9 pL (HO.lst [V.non, .str "x", .str "sum(x)", .bl true, .bl false, .ref p1, .ref p2, .ref p3, .ref p4, .ref p5, .ref p6, .ref p7, .str "1", .ref p8, .ref p9]) = GL at eL cL ⊢
    clear hGL
    have s9L := e9.trans eL
    have s8L := e8.trans (s9L)
    have s7L := e7.trans (s8L)
    have t6 := s7L
    have t5 := e6.trans t6
    have t4 := e5.trans t5
    have t3 := e4.trans t4
    have t2 := e3.trans t3
    have t1 := e2.trans t2
    have t0 := e1.trans t1
    have r1 := e1
    have r2 := r1.trans e2
    have r3 := r2.trans e3
    have r4 := r3.trans e4
    have r5 := r4.trans e5
    have r6 := r5.trans e6
    have r7 := r6.trans e7
    have r8 := r7.trans e8
    have hsL := hs.same t0
    have sgL := sg.same t0
    -- none of the new objects is the source
    have src : ∃ d1 e c1 : Int, G0 a = some (.lst (srcL d1 e c1)) := by
      obtain ⟨d1, e, c1, h1, _⟩ := hs
      exact ⟨d1, e, c1, h1⟩
    obtain ⟨d1, ee, c0, ha⟩ := src
    have a1 := e1 _ _ ha
    have a2 := e2 _ _ a1
    have a3 := e3 _ _ a2
    have a4 := e4 _ _ a3
    have a5 := e5 _ _ a4
    have a6 := e6 _ _ a5
    have a7 := e7 _ _ a6
    have a8 := e8 _ _ a7
    have a9 := e9 _ _ a8
    have nn : ∀ {G : Hp} {p : Addr}, G a = some (.lst (srcL d1 ee c0)) → G p = none → V.ref p ≠ V.ref a := fun {G p} h1 h2 z => by
      cases z
      rw [h1] at h2
      cases h2
    have hLa : pL ≠ a := fun z => nn a9 nL (by rw [z])
    refine ⟨_, rfl, _, rfl, a, 15, n, rfl, hsL, hn, by decide, by decide, fun v H2 v0 v1 o2 s2 => ?_⟩
    obtain ⟨j, rfl⟩ := Int.eq_ofNat_of_zero_le v0
    have hj : j < 15 := by omega
    have key : ∃ (y : V) (z : Str), ([V.non, .str "x", .str "sum(x)", .bl true, .bl false, .ref p1, .ref p2, .ref p3, .ref p4, .ref p5, .ref p6, .ref p7, .str "1", .ref p8, .ref p9] : List V)[j]? = some y ∧ OddAt K GL a y z ∧ (∀ p, y = .ref p → G0 p = none) := by
      clear v1 o2 s2 cL
      match j, hj with
      | 0, _ => exact ⟨_, _, rfl, ⟨.flat .non txt_non, (fun z => nomatch z), _, .base .non, kS_non T⟩, fun p z => nomatch z⟩
      | 1, _ => exact ⟨_, _, rfl, ⟨.flat (.str "x") ⟨by decide +kernel, by decide +kernel, by decide +kernel, lit_asc (by decide +kernel)⟩, (fun z => nomatch z), _, .base (.str _), kS_str T⟩, fun p z => nomatch z⟩
      | 2, _ => exact ⟨_, _, rfl, ⟨.flat (.str "sum(x)") ⟨by decide +kernel, by decide +kernel, by decide +kernel, lit_asc (by decide +kernel)⟩, (fun z => nomatch z), _, .base (.str _), kS_str T⟩, fun p z => nomatch z⟩
      | 3, _ => exact ⟨_, _, rfl, ⟨.flat (.bl true) (txt_bl true), (fun z => nomatch z), _, .base (.bl _), kS_bl T⟩, fun p z => nomatch z⟩
      | 4, _ => exact ⟨_, _, rfl, ⟨.flat (.bl false) (txt_bl false), (fun z => nomatch z), _, .base (.bl _), kS_bl T⟩, fun p z => nomatch z⟩
      | 5, _ => exact ⟨_, _, rfl, ⟨.tup (t1 _ _ c1) .nil ⟨by decide +kernel, by decide +kernel, by decide +kernel, lit_asc (by decide +kernel)⟩, nn ha n1, _, .base (.tup (t1 _ _ c1)), kS_tup T⟩, fun p z => (by cases z; exact n1)⟩
      | 6, _ => exact ⟨_, _, rfl, ⟨.lst (t2 _ _ c2) .nil ⟨by decide +kernel, by decide +kernel, by decide +kernel, lit_asc (by decide +kernel)⟩, nn a1 n2, _, .base (.lst (t2 _ _ c2)), kS_lst T⟩, fun p z => (by cases z; exact none_of r1 n2)⟩
      | 7, _ => exact ⟨_, _, rfl, ⟨.dct (t3 _ _ c3), nn a2 n3, _, .base (.dK (t3 _ _ c3)), kS_dct T⟩, fun p z => (by cases z; exact none_of r2 n3)⟩
      | 8, _ => exact ⟨_, _, rfl, ⟨.tupS (t4 _ _ c4) sgL az lz, nn a3 n4, _, .base (.tup (t4 _ _ c4)), kS_tup T⟩, fun p z => (by cases z; exact none_of r3 n4)⟩
      | 9, _ => exact ⟨_, _, rfl, ⟨.lstS (t5 _ _ c5) sgL az lz, nn a4 n5, _, .base (.lst (t5 _ _ c5)), kS_lst T⟩, fun p z => (by cases z; exact none_of r4 n5)⟩
      | 10, _ => exact ⟨_, _, rfl, ⟨.dctS (t6 _ _ c6) sgL az lz, nn a5 n6, _, .base (.dK (t6 _ _ c6)), kS_dct T⟩, fun p z => (by cases z; exact none_of r5 n6)⟩
      | 11, _ => exact ⟨_, _, rfl, ⟨.num (N7.same s8L) sz1 sz1, nn a6 n7, _, ty_num T (N7.same s8L), kS_num T⟩, fun p z => (by cases z; exact none_of r6 n7)⟩
      | 12, _ => exact ⟨_, _, rfl, ⟨.flat (.str "1") ⟨by decide +kernel, by decide +kernel, by decide +kernel, lit_asc (by decide +kernel)⟩, (fun z => nomatch z), _, .base (.str _), kS_str T⟩, fun p z => nomatch z⟩
      | 13, _ => exact ⟨_, _, rfl, ⟨.lst (s9L _ _ c8) (.cons (.int 1) .nil) ⟨by decide +kernel, by decide +kernel, by decide +kernel, lit_asc (by decide +kernel)⟩, nn a7 n8, _, .base (.lst (s9L _ _ c8)), kS_lst T⟩, fun p z => (by cases z; exact none_of r7 n8)⟩
      | 14, _ => exact ⟨_, _, rfl, ⟨.tup (eL _ _ c9) (.cons (.int 1) .nil) ⟨by decide +kernel, by decide +kernel, by decide +kernel, lit_asc (by decide +kernel)⟩, nn a8 n9, _, .base (.tup (eL _ _ c9)), kS_tup T⟩, fun p z => (by cases z; exact none_of r8 n9)⟩
    obtain ⟨y, z, hy, od, fy⟩ := key
    exact ⟨pL, _, _, y, rfl, rfl, .inl (.inl (o2 _ _ cL hLa)), atI_nat hy, k0 y z H2 ((Old.same t0).trans o2) s2 (od.kp hsL (Kp.old o2)) fy⟩
end
end K11

namespace K11
open PySem PySem.Spec PyProof.Rows L2 Hk NumM NumT SX L2H LamX
abbrev TR (K : Fr) : List (Addr × Str) := TS.map fun d => (pOf d K, d.ql ++ ".<locals>." ++ "<lambda>")
section
variable {P : Program} {w : World} {K : Fr} {mg : Str → Option Value} {base : Heap}
abbrev LX (P : Program) (w : World) (K : Fr) (mg : Str → Option Value) (base : Heap) (d : Dx) (N : List Str) (A : Around) (outer : List Env) (s : Shared) (H : Hp) (E : XK) : Cx := (cxOf CX0 P w K mg base N d.ql (defScope d.st) (d.ad K) (.ref (cOf d K)) A outer s H E).nox
theorem pe_caught {d : Dx} {N : List Str} {i : Nat} {A : Around} {outer : List Env} {s : Shared} {H : Hp} {E0' : XK} {params : Arguments} {body : Expr} {scope : Scope} {t : XK → TE} {p lpos pos : Pos} {ft : FuncData} (T : Tx K mg) (hd : TS[i]? = some d) (TB : TabB base mg (cOf d K) (pOf d K))
    (hr : Room 10 (A.deeper (envOfC d.ql (defScope d.st) s.heap.objs.size (d.ad K) (.ref (cOf d K))))) (hc : Calm (A.deeper (envOfC d.ql (defScope d.st) s.heap.objs.size (d.ad K) (.ref (cOf d K))))) (Dt : DAt K d_l_caught ft)
    (L : LamS (defScope d.st) scope) (hdef : defaultsOf params (LX P w K mg base d N A outer s H E0').env = ([], []))
    (hbind : ∀ (q : Str) (cl : List (Str × Addr)) (pm cv ctv : Value), bindArgs (PySem.W.kla_fn "<lambda>" q params body scope cl pm cv ctv) ⟨[], []⟩ = pure [])
    (hbody : ∀ (A' : Around) (outer' : List Env) (s' : Shared) (H' : Hp) (E : XK) (f c' : Addr), Room 8 (A'.deeper (lamEnv (LX P w K mg base d N A outer s H E0') scope s'.heap.objs.size f c')) → PE (lamCxN (LX P w K mg base d N A outer s H E0') A' outer' s' H' E scope f c') body (t E)) (hg : Gl (LX P w K mg base d N A outer s H E0') "_law_caught" := by rfl) :
    PE (LX P w K mg base d N A outer s H E0') (.Call (.Name "_law_caught" p) [.Lambda params body scope lpos] [] pos) (tLam (TR K) (TTc K (rA K)) t) := by
  have bt : Binds K ft ["_law_act"] [] := FunD.bindsN Dt fun _ _ _ _ _ _ us hl => match us, hl with | [_], _ => rfl
  have mem : (pOf d K, d.ql ++ ".<locals>." ++ "<lambda>") ∈ TR K := List.mem_map.mpr ⟨d, List.mem_of_getElem? hd, rfl⟩
  have uq : ∀ p ∈ TR K, p.1 = pOf d K → p.2 = d.ql ++ ".<locals>." ++ "<lambda>" := fun p hp e => by
    obtain ⟨d', hd', rfl⟩ := List.mem_map.mp hp
    obtain ⟨j, hj⟩ := List.mem_iff_getElem?.mp hd'
    have ij := tabs_ne (f_ne_tabs T.c) hj hd e
    rw [ij, hd] at hj
    cases hj
    rfl
  exact pe_lamN (X := LX P w K mg base d N A outer s H E0') (T := TR K) (TT := TTc K (rA K)) (x := "_law_caught") (a := "_law_act") (d := d_l_caught) (k := 8) (Ng := N_caught) (c := cOf d K) (P := pOf d K) hg (g_l_caught T) Dt rfl rfl bt sc_l_caught rfl (.inl rfl)
    (fun cdv => g_caught (P := P) (w := w) (mg := mg) (base := base) T rfl rfl rfl rfl rfl _ cdv (fun s H h => rr_calm T hc (h.mono (by decide))) fun s H a oe cls d pn h hz hf => rr_hot T hc (roomH_mark (h.mono (by decide)) _) (hotC_suite hz hf)) TB rfl mem uq hr L hdef hbind hbody
end
end K11

namespace K11
open PySem PySem.Spec PyProof.Rows L2 Hk NumM NumT SX L2H LamX
theorem Shows.same {K : Fr} {H H' : Hp} {x : V} {z : Str} (h : Shows K H x z) (s : Same H H') : Shows K H' x z := by
  cases h with
  | flat h t => exact .flat h t
  | tup e h t => exact .tup (s _ _ e) h t
  | lst e h t => exact .lst (s _ _ e) h t
  | dct e => exact .dct (s _ _ e)
  | num N st sb => exact .num (N.same s) st sb
  | sig I az l => exact .sig (I.same s) az l
  | tupS e I az l => exact .tupS (s _ _ e) (I.same s) az l
  | lstS e I az l => exact .lstS (s _ _ e) (I.same s) az l
  | dctS e I az l => exact .dctS (s _ _ e) (I.same s) az l
theorem OddAt.same {K : Fr} {H H' : Hp} {a : Addr} {y : V} {z : Str} (h : OddAt K H a y z) (s : Same H H') : OddAt K H' a y z := by
  obtain ⟨ty, h1, h2⟩ := h.ns
  exact ⟨h.sh.same s, h.ne, ty, tyx_same s h1, h2⟩
theorem ns_same {K : Fr} {H H' : Hp} {y : V} (h : NotSig K H y) (s : Same H H') : NotSig K H' y := by
  obtain ⟨ty, h1, h2⟩ := h
  exact ⟨ty, tyx_same s h1, h2⟩
theorem ni_same {K : Fr} {H H' : Hp} {y : V} (h : NotInt K H y) (s : Same H H') : NotInt K H' y := by
  rcases h with h | ⟨ty, h1, h2⟩
  · exact .inl h
  · exact .inr ⟨ty, tyx_same s h1, h2⟩
theorem nstr_same {K : Fr} {H H' : Hp} {y : V} (h : NotStr K H y) (s : Same H H') : NotStr K H' y := by
  obtain ⟨ty, h1, h2⟩ := h
  exact ⟨ty, tyx_same s h1, h2⟩
theorem bg_same {K : Fr} {H H' : Hp} {y : V} (h : BadGain K H y) (s : Same H H') : BadGain K H' y := by
  rcases h with ⟨n, ty, h1, h2⟩ | ⟨u, c, o, r⟩
  · exact .inl ⟨ni_same n s, ty, tyx_same s h1, h2⟩
  · exact .inr ⟨u, c, o.same s, r⟩
/-- the list of two that _law_caught makes -/
abbrev Two (H : Hp) (Q : VK) (x z : Str) : Prop := ∀ (G : Hp) (l : Addr), Same H G → G l = none → Q (.ref l) (upd G l (.lst [.str x, .str z]))
abbrev ECH (K : Fr) (Q : VK) : XK := fun cls d H' => ∃ x v, ErrIs K cls d H' x v ∧ ∀ G, Same H' G → Told (rA K) Q x v G
theorem bad_told {K : Fr} {mg : Str → Option Value} (T : Tx K mg) {c f : Str} {H : Hp} {Q : VK} {v : V} {z : Str} (er : ∀ {d : Addr} {H' : Hp}, H' d = some (.xd [(f, v)]) → ErrIs K (.ref (He.ga K c)) (some d) H' c v) (sh : Shows K H v z) (k : Two H Q c z) : Bad c f K H (ECH K Q) v := by
  intro H' d s nd
  refine ⟨c, v, er upd_same, fun G sG => Shows.rA T (sh.same ((s.trans (same_upd nd)).trans sG)) ⟨by show 2 ≤ sizeLine; decide, fun l nl => k G l ((s.trans (same_upd nd)).trans sG) nl⟩⟩
section
variable {K : Fr} {mg : Str → Option Value} (T : Tx K mg) {H : Hp} {Q : VK} {v : V} {z : Str}
include T
theorem b_name (sh : Shows K H v z) (k : Two H Q "InvalidName" z) : Bad "InvalidName" "value" K H (ECH K Q) v := bad_told T (fun h => err_InvalidName T h rfl) sh k
theorem b_step (sh : Shows K H v z) (k : Two H Q "InvalidStep" z) : Bad "InvalidStep" "value" K H (ECH K Q) v := bad_told T (fun h => err_InvalidStep T h rfl) sh k
theorem b_gain (sh : Shows K H v z) (k : Two H Q "InvalidGain" z) : Bad "InvalidGain" "value" K H (ECH K Q) v := bad_told T (fun h => err_InvalidGain T h rfl) sh k
theorem b_count (sh : Shows K H v z) (k : Two H Q "InvalidCount" z) : Bad "InvalidCount" "value" K H (ECH K Q) v := bad_told T (fun h => err_InvalidCount T h rfl) sh k
theorem b_sig (sh : Shows K H v z) (k : Two H Q "NotASignal" z) : Bad "NotASignal" "value" K H (ECH K Q) v := bad_told T (fun h => err_NotASignal T h rfl) sh k
theorem b_terms (sh : Shows K H v z) (k : Two H Q "InvalidTerms" z) : Bad "InvalidTerms" "index" K H (ECH K Q) v := bad_told T (fun h => err_InvalidTerms T h rfl) sh k
theorem b_many (sh : Shows K H v z) (k : Two H Q "TooMany" z) : Bad "TooMany" "limit" K H (ECH K Q) v := bad_told T (fun h => err_TooMany T h rfl) sh k
end
/-! ### what a maker makes of wrong arguments -/
abbrev MadeX (sp : Sp) (C : Addr) (H : Hp) (Q : Addr → VK) (E : XK) (vs : List V) : Prop := ∀ x dx, H x = Option.none → H dx = Option.none → dx ≠ x → sp (V.ref x :: vs) (upd (upd H dx (.own x)) x (.ins C dx [])) (Q x) E
section
variable {K : Fr} {H : Hp} {Q : Addr → VK} {E : XK} {a b : V} {C : Addr}
theorem x_name (h : (∃ l, a = .str (S l) ∧ l.length ≤ 1000 ∧ nmL l = false) ∨ NotStr K H a) (bad : Bad "InvalidName" "value" K H E a) : MadeX (spNmX K) C H Q E [a] := fun x dx nx nd ne =>
  ⟨x, a, rfl, h.imp id fun n => nstr_same n (same_new nx nd), bad.same (same_new nx nd)⟩
theorem x_gain (h : BadGain K H a) (bad : Bad "InvalidGain" "value" K H E a) : MadeX (spTmX K) C H Q E [a, b] := fun x dx nx nd ne =>
  ⟨x, a, b, rfl, .inl ⟨bg_same h (same_new nx nd), bad.same (same_new nx nd)⟩⟩
theorem x_tmsig {u c : Int} (o : Opd (CN K) H a u c) (g : GainOk u c) (h : NotSig K H b) (bad : Bad "NotASignal" "value" K H E b) : MadeX (spTmX K) C H Q E [a, b] := fun x dx nx nd ne =>
  ⟨x, a, b, rfl, .inr (.inl ⟨u, c, o.same (same_new nx nd), g, ns_same h (same_new nx nd), bad.same (same_new nx nd)⟩)⟩
theorem x_tmover {u c : Int} {d : Nat} {p : Addr} {t : Tree} (o : Opd (CN K) H a u c) (g : GainOk u c) (sg : SigAt K H d t p) (tl : (Tree.times u c t).tell.length ≤ 1000000) (ov : Over K H E [t]) : MadeX (spTmX K) (He.ga K "Times") H Q E [a, .ref p] := fun x dx nx nd ne =>
  ⟨x, a, _, rfl, .inr (.inr ⟨d, p, dx, t, u, c, rfl, upd_same, o.same (same_new nx nd), g, sg.same (same_new nx nd), tl, ov.same (same_new nx nd)⟩)⟩
theorem x_prsig {w : Nat} {y c : Str} {m : Int} (h : NotSig K H a) (bad : Bad "NotASignal" "value" K H E a) : MadeX (spPrX K w y c m) C H Q E [a, b] := fun x dx nx nd ne =>
  ⟨x, a, b, rfl, .inl ⟨ns_same h (same_new nx nd), bad.same (same_new nx nd)⟩⟩
theorem x_prnum {w : Nat} {y c : Str} {m : Int} {d : Nat} {p : Addr} {t : Tree} (sg : SigAt K H d t p) (h : NotInt K H b ∨ ∃ i, b = .int i ∧ ¬ (m ≤ i ∧ i ≤ 6)) (bad : Bad c "value" K H E b) : MadeX (spPrX K w y c m) C H Q E [.ref p, b] := fun x dx nx nd ne =>
  ⟨x, _, b, rfl, .inr (.inl ⟨d, p, t, rfl, sg.same (same_new nx nd), h.imp (fun n => ni_same n (same_new nx nd)) id, bad.same (same_new nx nd)⟩)⟩
theorem x_prover {w : Nat} {y c : Str} {m n : Int} {d : Nat} {p : Addr} {t : Tree} (sg : SigAt K H d t p) (h1 : m ≤ n) (h0 : 0 ≤ m) (h6 : n ≤ 6) (tl : (Tree.pair w t n).tell.length ≤ 1000000) (ov : Over K H E [t]) : MadeX (spPrX K w y c m) (He.ga K y) H Q E [.ref p, .int n] := fun x dx nx nd ne =>
  ⟨x, _, _, rfl, .inr (.inr ⟨d, p, dx, t, n, rfl, rfl, upd_same, sg.same (same_new nx nd), h1, h0, h6, tl, ov.same (same_new nx nd)⟩)⟩
end
section
variable {K : Fr} {H : Hp} {Q : Addr → VK} {E : XK} {C : Addr} {ys : List V}
theorem x_smlen (hz : ys.length ≤ 1000) (h : ¬ (1 ≤ ys.length ∧ ys.length ≤ 5)) (bad : Bad "InvalidTerms" "index" K H E .non) : MadeX (spSmXR K) C H Q E ys := fun x dx nx nd ne =>
  ⟨[.ref x], ys, rfl, rfl, Nat.le_trans hz (by decide), fun p np => ⟨x, p, ys, rfl, upd_same, hz, .inl ⟨h, (bad.same (same_new nx nd)).same (same_upd np)⟩⟩⟩
theorem x_smodd {i : Nat} {y : V} (h1 : 1 ≤ ys.length) (h5 : ys.length ≤ 5) (hy : ys[i]? = some y) (hn : NotSig K H y) (hj : ∀ j z, j < i → ys[j]? = some z → ∃ d t p, z = .ref p ∧ SigAt K H d t p) (bad : Bad "InvalidTerms" "index" K H E (.int i)) : MadeX (spSmXR K) C H Q E ys := fun x dx nx nd ne =>
  ⟨[.ref x], ys, rfl, rfl, Nat.le_trans h5 (by decide), fun p np => by
    have s := (same_new (C := C) nx nd).trans (same_upd (o := .tup ys) np)
    refine ⟨x, p, ys, rfl, upd_same, by omega, .inr (.inl ⟨i, y, h1, h5, hy, ns_same hn s, fun j z hl hz => ?_, bad.same s⟩)⟩
    obtain ⟨d, t, q, e, sg⟩ := hj j z hl hz
    exact ⟨d, t, q, e, sg.same s⟩⟩
theorem x_smover {d : Nat} {ts : List Tree} {xs : List Addr} (sg : SigsAt K H d ts xs) (h1 : 1 ≤ ts.length) (h5 : ts.length ≤ 5) (tl : (Tree.sum ts).tell.length ≤ 1000000) (ov : Over K H E ts) : MadeX (spSmXR K) (He.ga K "Sum") H Q E (xs.map V.ref) := fun x dx nx nd ne =>
  ⟨[.ref x], xs.map V.ref, rfl, rfl, Nat.le_trans (by rw [List.length_map, sg.1]; exact h5) (by decide), fun p np => by
    have s := (same_new (C := He.ga K "Sum") nx nd).trans (same_upd (o := .tup (xs.map V.ref)) np)
    refine ⟨x, p, _, rfl, upd_same, by rw [List.length_map, sg.1]; omega, .inr (.inr ⟨d, dx, ts, xs, rfl, ?_, sg.same s, h1, h5, tl, ov.same s⟩)⟩
    exact (same_upd (o := .tup (xs.map V.ref)) np) _ _ upd_same⟩
end
end K11

namespace K11
open PySem PySem.Spec PyProof.Rows L2 Hk NumM NumT SX L2H LamX
structure BadAt (K : Fr) (H : Hp) (a : Addr) (y : V) (z : Str) : Prop where
  sh : Shows K H y z
  ne : y ≠ .ref a
  ni : NotInt K H y ∨ ∃ i, y = .int i ∧ ¬ (0 ≤ i ∧ i ≤ 6)
structure GnAt (K : Fr) (H : Hp) (a : Addr) (y : V) (z : Str) : Prop where
  sh : Shows K H y z
  ne : y ≠ .ref a
  bg : BadGain K H y
theorem ni_kp {K : Fr} {H H' : Hp} {a : Addr} {y : V} (h : NotInt K H y) (ne : y ≠ .ref a) (k : Kp a H H') : NotInt K H' y := by
  rcases h with h | ⟨ty, h1, h2⟩
  · exact .inl h
  · exact .inr ⟨ty, tyx_kp h1 ne k, h2⟩
theorem BadAt.kp {K : Fr} {H H' : Hp} {a n : Addr} {y : V} {z : Str} (h : BadAt K H a y z) (s : SrcAt a n H) (k : Kp a H H') : BadAt K H' a y z :=
  ⟨h.sh.kp s h.ne k, h.ne, h.ni.imp (fun n => ni_kp n h.ne k) id⟩
theorem opd_kp {C : Addr} {H H' : Hp} {a n : Addr} {y : V} {u c : Int} (o : Opd C H y u c) (s : SrcAt a n H) (k : Kp a H H') : Opd C H' y u c := by
  rcases o with ⟨q, rfl, N⟩ | h
  · exact .inl ⟨q, rfl, num_kp N s k⟩
  · exact .inr h
theorem GnAt.kp {K : Fr} {H H' : Hp} {a n : Addr} {y : V} {z : Str} (h : GnAt K H a y z) (s : SrcAt a n H) (k : Kp a H H') : GnAt K H' a y z := by
  refine ⟨h.sh.kp s h.ne k, h.ne, ?_⟩
  rcases h.bg with ⟨ni, ty, h1, h2⟩ | ⟨u, c, o, r⟩
  · exact .inl ⟨ni_kp ni h.ne k, ty, tyx_kp h1 h.ne k, h2⟩
  · exact .inr ⟨u, c, opd_kp o s k, r⟩
theorem src_ext {a n : Addr} {H H' : Hp} (s : SrcAt a n H) (e : ExtN H H') : SrcAt a n H' := by
  obtain ⟨d, ee, c, h1, h2⟩ := s
  exact ⟨d, ee, c, e _ _ h1 (fun ps z => nomatch z), h2⟩
/-! lists of what was told -/
abbrev two (w z : Str) : PyData := .list [.str w, .str z]
theorem dp_two {K : Fr} {H : Hp} {l : Addr} {w z : Str} (h : H l = some (.lst [.str w, .str z])) : Dp K H (.ref l) (two w z) := .lst (.inl (.inl h)) (.cons (.str w) (.cons (.str z) .nil))
theorem eqv_two {w z : Str} : PyData.eqv (two w z) (two w z) = true := by
  simp [PyData.eqv, PyData.eqvAll]
theorem asc_w {x : Str} (h : x.cps.toList.all (fun c => decide (c < 128)) = true) : Asc x := lit_asc h
theorem shaped_two {w z : Str} (hw : Asc w) (hz : Asc z) : SeqAt.shaped (two w z) = true := by
  have h1 := hw.ok
  have h2 := hz.ok
  simp [SeqAt.shaped, PyData.canLay0, PyData.canLayAll0, PyData.depth, PyData.depthAll, h1, h2]
/-- n times the same told -/
abbrev many (n : Nat) (w z : Str) : PyData := .list (List.replicate n (two w z))
theorem eqv_many {n : Nat} {w z : Str} : PyData.eqv (many n w z) (many n w z) = true := by
  have : ∀ n, PyData.eqvAll (List.replicate n (two w z)) (List.replicate n (two w z)) = true := fun n => by
    induction n with
    | zero => rfl
    | succ n ih =>
      rw [List.replicate_succ]
      show (PyData.eqv (two w z) (two w z) && PyData.eqvAll _ _) = true
      rw [eqv_two, ih]
      rfl
  simp only [PyData.eqv]
  exact this n
theorem shaped_2 {w z : Str} (hw : Asc w) (hz : Asc z) : SeqAt.shaped (many 2 w z) = true := by
  have h1 := hw.ok
  have h2 := hz.ok
  simp [SeqAt.shaped, PyData.canLay0, PyData.canLayAll0, PyData.depth, PyData.depthAll, h1, h2, List.replicate]
theorem shaped_3 {w z : Str} (hw : Asc w) (hz : Asc z) : SeqAt.shaped (many 3 w z) = true := by
  have h1 := hw.ok
  have h2 := hz.ok
  simp [SeqAt.shaped, PyData.canLay0, PyData.canLayAll0, PyData.depth, PyData.depthAll, h1, h2, List.replicate]
theorem shaped_5 {w z : Str} (hw : Asc w) (hz : Asc z) : SeqAt.shaped (many 5 w z) = true := by
  have h1 := hw.ok
  have h2 := hz.ok
  simp [SeqAt.shaped, PyData.canLay0, PyData.canLayAll0, PyData.depth, PyData.depthAll, h1, h2, List.replicate]
/-- what a check of the law asks of the state, and keeps -/
def spChk (K : Fr) : Sp := fun vs H Q _ => ∃ (a : Addr) (n : Nat), vs = [.ref a] ∧ SrcAt a n H ∧ n + 300 < 2 ^ 40 ∧ Tabs (TR K) H ∧ ∀ H' : Hp, Kp a H H' → SrcAt a (n + 200) H' → Tabs (TR K) H' → Q (.bl true) H'
section
variable {P : Program} {w : World} {K : Fr} {mg : Str → Option Value} {base : Heap}
theorem tabs_old {L : List (Addr × Str)} {a n : Addr} {H H' : Hp} (h : Tabs L H) (s : SrcAt a n H) (o : Old a H H') : Tabs L H' := fun p hp => by
  obtain ⟨d, e, c, hs, _⟩ := s
  obtain ⟨ps, e1, e2, e3⟩ := h p hp
  have ne : ∀ {b : Addr} {u : HO}, H b = some u → (∀ xs, u ≠ .lst xs) → b ≠ a := fun {b u} h n z => by
    rw [z, hs] at h
    exact n _ (Option.some.inj h).symm
  refine ⟨ps, o _ _ e1 (ne e1 fun xs z => nomatch z), e2, fun pos cv hc => ?_⟩
  obtain ⟨c', r, g⟩ := e3 pos cv hc
  exact ⟨c', r, o _ _ g (ne g fun xs z => nomatch z)⟩
theorem shown_name_asc {l : List Nat} (nm : Nm l) : Asc (Tree.name l).shown := by
  have e : (Tree.name l).tell = S l := by rw [Tree.tell]
  show Asc (("Signal(" : Str) ++ (Tree.name l).tell ++ (")" : Str))
  rw [e]
  exact ((lit_asc (by decide +kernel)).app (nm_asc nm)).app (lit_asc (by decide +kernel))
theorem shown_name_len {l : List Nat} (nm : Nm l) : (Tree.name l).shown.length ≤ 2000 := by
  have e : (Tree.name l).tell = S l := by rw [Tree.tell]
  show (("Signal(" : Str) ++ (Tree.name l).tell ++ (")" : Str)).length ≤ _
  rw [e, strLen_append, strLen_append, S_len]
  have := nm.hi
  show 7 + l.length + 1 ≤ _
  omega
theorem sz100 : Sz 100 := by decide +kernel
theorem sz99 : Sz 99 := by decide +kernel
theorem szm100 : Sz (-100) := by decide +kernel
/-- what stands while the pairs are checked -/
structure PF (K : Fr) (a : Addr) (n : Nat) (m : Addr) (l : List Nat) (odd : V) (zo : Str) (bad : V) (zb : Str) (gain : V) (zg : Str) (H : Hp) : Prop where
  S : SrcAt a n H
  T : Tabs (TR K) H
  sg : SigAt K H 1 (.name l) m
  od : OddAt K H a odd zo
  bd : BadAt K H a bad zb
  gn : GnAt K H a gain zg
  mn : V.ref m ≠ V.ref a
section
variable {K : Fr} {a m : Addr} {n : Nat} {l : List Nat} {odd bad gain : V} {zo zb zg : Str} {H H' : Hp}
theorem PF.kp (F : PF K a n m l odd zo bad zb gain zg H) (k : Kp a H H') (s : SrcAt a n H') (t : Tabs (TR K) H') : PF K a n m l odd zo bad zb gain zg H' :=
  ⟨s, t, sig_kp F.sg F.S k, F.od.kp F.S k, F.bd.kp F.S k, F.gn.kp F.S k, F.mn⟩
theorem PF.ext (F : PF K a n m l odd zo bad zb gain zg H) (e : ExtN H H') (t : Tabs (TR K) H') : PF K a n m l odd zo bad zb gain zg H' := F.kp (Kp.ext e) (src_ext F.S e) t
theorem PF.same (F : PF K a n m l odd zo bad zb gain zg H) (s : Same H H') : PF K a n m l odd zo bad zb gain zg H' := F.kp (Kp.same s) (F.S.same s) (F.T.ext s)
theorem PF.put (F : PF K a n m l odd zo bad zb gain zg H) {p : Addr} {o : HO} (np : H p = none) : PF K a n m l odd zo bad zb gain zg (upd H p o) := F.same (same_upd np)
end
theorem gain1 : GainOk 1 1 := ⟨by decide, by decide, by decide, by decide⟩
structure StAt (K : Fr) (H : Hp) (a : Addr) (y : V) (z : Str) : Prop where
  sh : Shows K H y z
  ne : y ≠ .ref a
  ni : NotInt K H y ∨ ∃ i, y = .int i ∧ ¬ (1 ≤ i ∧ i ≤ 6)
theorem kp_put {a m : Addr} {o : HO} {H0 H : Hp} (k : Kp a H0 H) (n0 : H0 m = none) : Kp a H0 (upd H m o) := fun b o' h n nt => by
  rw [upd_ne (ne_of_none h n0)]
  exact k b o' h n nt
theorem tabs_put {L : List (Addr × Str)} {m : Addr} {xs : List V} {o : HO} {H : Hp} (h : Tabs L H) (hm : H m = some (.lst xs)) : Tabs L (upd H m o) := fun p hp => by
  obtain ⟨ps, e1, e2, e3⟩ := h p hp
  refine ⟨ps, by rw [upd_ne (ne_of e1 hm (by intro z; exact nomatch z))]; exact e1, e2, fun pos cv hc => ?_⟩
  obtain ⟨c', r, g⟩ := e3 pos cv hc
  exact ⟨c', r, by rw [upd_ne (ne_of g hm (by intro z; exact nomatch z))]; exact g⟩
abbrev N_pairs : List Str := ["_law_source_here", "_law_mate", "_law_odd_here", "_law_bad", "_law_gain", "_law_found", "_law_wrong"]
theorem c_pairs (T : Tx K mg) (TB : TabB base mg (cOf d_l_pairs_right K) (pOf d_l_pairs_right K)) : CalG P w K mg base 11 "_law_pairs_right" (gAd "_law_pairs_right" K) ["_law_source_here"] (spChk K) := by
  have C_l_pick := c_pick (P := P) (w := w) (base := base) T
  have C_l_tag := c_tag (P := P) (w := w) (base := base) T
  have C_l_odd := c_odd (P := P) (w := w) (base := base) T
  obtain ⟨f0, D0, F0⟩ := f_init (P := P) (w := w) (base := base) T
  obtain ⟨ds, Vd, B0⟩ := b_init1 D0
  obtain ⟨fdN, D_Name, F_Name⟩ := f_nminit (P := P) (w := w) (base := base) T
  obtain ⟨xt, XD_Times, X_Times⟩ := f_tmX (P := P) (w := w) (base := base) T
  obtain ⟨xl, XD_Late, X_Late⟩ := f_ltX (P := P) (w := w) (base := base) T
  obtain ⟨xe, XD_Every, X_Every⟩ := f_evX (P := P) (w := w) (base := base) T
  obtain ⟨xs, XD_Spread, X_Spread⟩ := f_spX (P := P) (w := w) (base := base) T
  obtain ⟨ft, Dt⟩ := a_l_caught T.c
  refine calg_c (d := d_l_pairs_right) (N := N_pairs) (a_l_pairs_right T.c) rfl sc_l_pairs_right (g_l_pairs_right T) (fun _ _ _ _ _ _ us hl => match us, hl with | [_], _ => rfl) (fun vs H Q E h => ?_) (fun A outer s H vs Q E hr hc h => ?_)
  · obtain ⟨a, n, rfl, _⟩ := h
    rfl
  · obtain ⟨a, n, rfl, hs, hn, hT, k⟩ := h
    have RR : CallR (LX P w K mg base d_l_pairs_right N_pairs A outer s H E) (.builtin "repr") (rA K) := rr_calm T hc (hr.mono (by decide))
    refine ⟨_, (pss_cons (ps_set (i := 1) sc_l_pairs_right.nd rfl (.inr rfl) (pe_make (mk_Name T) F_Name (hr.mono (by decide)) rfl (g_Name T) (b_Name D_Name) .nil pass0 (pa_cons (pe_c C_l_tag (hr.mono (by decide)) (pa_cons (pv 0) pa_nil)) pa_nil)))
 (pss_cons (ps_asg (pe_tup (pa_cons (pe_c C_l_odd (hr.mono (by decide)) (pa_cons (pv 0) (pa_cons (pv 1) pa_nil))) (pa_cons (pe_ix ix_list (pe_lst (pa_cons pe_non (pa_cons pe_str (pa_cons pe_bl (pa_cons (pe_tup (pa_cons pe_int pa_nil)) (pa_cons (pe_un un_neg pe_int) (pa_cons pe_int (pa_cons (pe_op op_pow pe_int pe_int) (pa_cons (pe_num (mkN T) F0 (hr.mono (by decide)) (g_Number T) B0 Vd (pa_cons pe_int pa_nil)) (pa_cons (pv 1) pa_nil)))))))))) (pe_c C_l_pick (hr.mono (by decide)) (pa_cons (pv 0) (pa_cons pe_int pa_nil))) (fun _ _ => rfl)) pa_nil))) (pg_tup (by rfl) (pgs_cons (pg_name (i := 2) sc_l_pairs_right.nd rfl (.inr rfl)) (pgs_cons (pg_name (i := 3) sc_l_pairs_right.nd rfl (.inr rfl)) pgs_nil))))
 (pss_cons (ps_set (i := 4) sc_l_pairs_right.nd rfl (.inr rfl) (pe_ix ix_list (pe_lst (pa_cons pe_non (pa_cons pe_str (pa_cons pe_bl (pa_cons (pe_tup (pa_cons pe_int (pa_cons pe_int pa_nil))) (pa_cons pe_int (pa_cons (pe_un un_neg pe_int) (pa_cons (pe_num (mkN T) F0 (hr.mono (by decide)) (g_Number T) (b_init2 D0) .nil (pa_cons pe_int (pa_cons pe_int pa_nil))) (pa_cons (pe_num (mkN T) F0 (hr.mono (by decide)) (g_Number T) (b_init2 D0) .nil (pa_cons (pe_un un_neg pe_int) (pa_cons pe_int pa_nil))) (pa_cons (pv 1) pa_nil)))))))))) (pe_c C_l_pick (hr.mono (by decide)) (pa_cons (pv 0) (pa_cons pe_int pa_nil))) (fun _ _ => rfl)))
 (pss_cons (ps_set (i := 5) sc_l_pairs_right.nd rfl (.inl rfl) (pe_lst (pa_cons (pe_caught (i := 2) T rfl TB hr hc Dt (lamS_by (by decide +kernel)) rfl (fun _ _ _ _ _ => rfl) (fun A outer s H E f c' hr' => (pe_make (E := E) (mk_Times T) X_Times (hr'.mono (by decide)) rfl (g_Times T) (b_Times XD_Times) .nil (L2N.passes_call takes_lam (fun _ _ _ _ z => z)) (pa_cons (pv 4) (pa_cons (pv 1) pa_nil))))) (pa_cons (pe_caught (i := 2) T rfl TB hr hc Dt (lamS_by (by decide +kernel)) rfl (fun _ _ _ _ _ => rfl) (fun A outer s H E f c' hr' => (pe_makeK0 (E := E) (mk_Times T) X_Times (hr'.mono (by decide)) rfl (g_Times T) (kb_Times XD_Times) (L2N.passes_call takes_lam (fun _ _ _ _ z => z)) (pk_cons (pv 2) (pk_cons (pv 4) pk_nil))))) pa_nil))))
 (pss_cons (ps_if (pt_cmpR (op_neD hr.units) (pv 5) (pe_op op_rep (pe_lst (pa_cons (pe_lst (pa_cons pe_str (pa_cons (pe_callB RR (by rfl) (n_repr T) bo_repr (pa_cons (pv 4) pa_nil)) pa_nil))) pa_nil)) pe_int) (nomark _))
 (pss_one (ps_ret pe_bl))
 pss_nil)
 (pss_cons (ps_set (i := 5) sc_l_pairs_right.nd rfl (.inl rfl) (pe_lst (pa_cons (pe_caught (i := 2) T rfl TB hr hc Dt (lamS_by (by decide +kernel)) rfl (fun _ _ _ _ _ => rfl) (fun A outer s H E f c' hr' => (pe_make (E := E) (mk_Times T) X_Times (hr'.mono (by decide)) rfl (g_Times T) (b_Times XD_Times) .nil (L2N.passes_call takes_lam (fun _ _ _ _ z => z)) (pa_cons pe_int (pa_cons (pv 2) pa_nil))))) (pa_cons (pe_caught (i := 2) T rfl TB hr hc Dt (lamS_by (by decide +kernel)) rfl (fun _ _ _ _ _ => rfl) (fun A outer s H E f c' hr' => (pe_make (E := E) (mk_Late T) X_Late (hr'.mono (by decide)) rfl (g_Late T) (b_Late XD_Late) .nil (L2N.passes_call takes_lam (fun _ _ _ _ z => z)) (pa_cons (pv 2) (pa_cons (pv 3) pa_nil))))) pa_nil))))
 (pss_cons (ps_set (i := 5) sc_l_pairs_right.nd rfl (.inl rfl) (pe_op op_cat (pv 5) (pe_lst (pa_cons (pe_caught (i := 2) T rfl TB hr hc Dt (lamS_by (by decide +kernel)) rfl (fun _ _ _ _ _ => rfl) (fun A outer s H E f c' hr' => (pe_make (E := E) (mk_Every T) X_Every (hr'.mono (by decide)) rfl (g_Every T) (b_Every XD_Every) .nil (L2N.passes_call takes_lam (fun _ _ _ _ z => z)) (pa_cons (pv 2) (pa_cons pe_int pa_nil))))) (pa_cons (pe_caught (i := 2) T rfl TB hr hc Dt (lamS_by (by decide +kernel)) rfl (fun _ _ _ _ _ => rfl) (fun A outer s H E f c' hr' => (pe_make (E := E) (mk_Every T) X_Every (hr'.mono (by decide)) rfl (g_Every T) (b_Every XD_Every) .nil (L2N.passes_call takes_lam (fun _ _ _ _ z => z)) (pa_cons (pv 2) (pa_cons (pv 3) pa_nil))))) pa_nil)))))
 (pss_cons (ps_expr (pe_bm PySem.F.plainAttrs_list PySem.F.slot_list_append PySem.F.type_list_append mt_append (pv 5) (pa_cons (pe_caught (i := 2) T rfl TB hr hc Dt (lamS_by (by decide +kernel)) rfl (fun _ _ _ _ _ => rfl) (fun A outer s H E f c' hr' => (pe_makeK0 (E := E) (mk_Spread T) X_Spread (hr'.mono (by decide)) rfl (g_Spread T) (kb_Spread XD_Spread) (L2N.passes_call takes_lam (fun _ _ _ _ z => z)) (pk_cons (pv 3) (pk_cons (pv 2) pk_nil))))) pa_nil)))
 (pss_cons (ps_if (pt_cmpR (op_neD hr.units) (pv 5) (pe_op op_rep (pe_lst (pa_cons (pe_lst (pa_cons pe_str (pa_cons (pe_callB RR (by rfl) (n_repr T) bo_repr (pa_cons (pv 2) pa_nil)) pa_nil))) pa_nil)) pe_int) (nomark _))
 (pss_one (ps_ret pe_bl))
 pss_nil)
 (pss_cons (ps_if (pt_cmpR (op_neD hr.units) (pe_caught (i := 2) T rfl TB hr hc Dt (lamS_by (by decide +kernel)) rfl (fun _ _ _ _ _ => rfl) (fun A outer s H E f c' hr' => (pe_make (E := E) (mk_Late T) X_Late (hr'.mono (by decide)) rfl (g_Late T) (b_Late XD_Late) .nil (L2N.passes_call takes_lam (fun _ _ _ _ z => z)) (pa_cons (pv 1) (pa_cons (pv 3) pa_nil))))) (pe_lst (pa_cons pe_str (pa_cons (pe_callB RR (by rfl) (n_repr T) bo_repr (pa_cons (pv 3) pa_nil)) pa_nil))) (nomark _))
 (pss_one (ps_ret pe_bl))
 pss_nil)
 (pss_cons (ps_for PassesOwn.never rfl (pi_list (pe_lst (pa_cons (pv 3) (pa_cons pe_int pa_nil)))) (pg_name (i := 6) sc_l_pairs_right.nd rfl (.inr rfl))
 (pss_cons (ps_set (i := 5) sc_l_pairs_right.nd rfl (.inl rfl) (pe_lst (pa_cons (pe_caught (i := 2) T rfl TB hr hc Dt (lamS_by (by decide +kernel)) rfl (fun _ _ _ _ _ => rfl) (fun A outer s H E f c' hr' => (pe_make (E := E) (mk_Every T) X_Every (hr'.mono (by decide)) rfl (g_Every T) (b_Every XD_Every) .nil (L2N.passes_call takes_lam (fun _ _ _ _ z => z)) (pa_cons (pv 1) (pa_cons (pv 6) pa_nil))))) (pa_cons (pe_caught (i := 2) T rfl TB hr hc Dt (lamS_by (by decide +kernel)) rfl (fun _ _ _ _ _ => rfl) (fun A outer s H E f c' hr' => (pe_makeK0 (E := E) (mk_Spread T) X_Spread (hr'.mono (by decide)) rfl (g_Spread T) (kb_Spread XD_Spread) (L2N.passes_call takes_lam (fun _ _ _ _ z => z)) (pk_cons (pv 6) (pk_cons (pv 1) pk_nil))))) pa_nil))))
 (pss_one (ps_if (pt_cmpR (op_neD hr.units) (pv 5) (pe_op op_rep (pe_lst (pa_cons (pe_lst (pa_cons pe_str (pa_cons (pe_callB RR (by rfl) (n_repr T) bo_repr (pa_cons (pv 6) pa_nil)) pa_nil))) pa_nil)) pe_int) (nomark _))
 (pss_one (ps_ret pe_bl))
 pss_nil))))
 (pss_one (ps_ret pe_bl))))))))))))), ?_⟩
    refine ⟨_, rfl, a, n, rfl, hs, by omega, fun l H1 nm o1 s1 => ?_⟩
    refine fun m dm nx nd ne => ⟨m, dm, l, rfl, upd_same, nm, fun H2 om sgs => ⟨rfl, ?_⟩⟩
    have e2 : Same H1 H2 := old_same nx (same_new nx nd) om
    have sg : SigAt K H2 1 (.name l) m := sgs 0
    have k2 : Kp a H H2 := (Kp.old o1).trans (Kp.same e2)
    have S2 := s1.same e2
    have T2 : Tabs (TR K) H2 := (tabs_old hT hs o1).ext e2
    have az : Asc (Tree.name l).shown := shown_name_asc nm
    have lz : (Tree.name l).shown.length ≤ 2000 := shown_name_len nm
    -- odd
    refine ⟨_, rfl, _, rfl, a, m, n + 10, 1, .name l, rfl, S2, by omega, sg, az, lz, fun odd zo H3 o3 S3 od3 fo3 => ?_⟩
    have k3 := k2.trans (Kp.old o3)
    have sg3 := sig_kp sg S2 (Kp.old o3)
    have T3 : Tabs (TR K) H3 := tabs_old T2 S2 o3
    refine ⟨(by show 1 ≤ sizeLine; decide), fun p1 n1 => ?_⟩
    have w1 : Same H3 (upd H3 p1 (.tup [.int 2])) := same_upd n1
    have c1 : (upd H3 p1 (.tup [.int 2])) p1 = some (.tup [.int 2]) := upd_same
    generalize hG1 : upd H3 p1 (HO.tup [.int 2]) = G1 at w1 c1 ⊢
    clear hG1
    refine ⟨1, rfl, _, _, rfl, rfl, ⟨by decide, by decide, by decide⟩, 2, 1, rfl, by decide, sz1, fun G2 p2 w2 n2 N2 => ⟨_, rfl, (by show 9 ≤ sizeLine; decide), fun pL nL => ?_⟩⟩
    rw [(low_one 2).1, (low_one 2).2] at N2
    have wL := same_upd (o := HO.lst ([V.non, .str "2", .bl true, .ref p1, .int (-1), .int 7, .int (10 ^ (30 : Int).toNat), .ref p2, .ref m] : List V)) nL
    have cL : (upd G2 pL (HO.lst ([V.non, .str "2", .bl true, .ref p1, .int (-1), .int 7, .int (10 ^ (30 : Int).toNat), .ref p2, .ref m] : List V))) pL = _ := upd_same
    generalize hGL : upd G2 pL (HO.lst ([V.non, .str "2", .bl true, .ref p1, .int (-1), .int 7, .int (10 ^ (30 : Int).toNat), .ref p2, .ref m] : List V)) = GL at wL cL ⊢
    clear hGL
    have v3 : Same H3 GL := (w1.trans w2).trans wL
    have nn : ∀ {G G' : Hp} {p n : Addr}, SrcAt a n G → Same G G' → G' p = none → V.ref p ≠ V.ref a := fun {G G' p n} h1 h2 h3 z => by
      cases z
      obtain ⟨d, e, c, q, _⟩ := h1.same h2
      rw [q] at h3
      cases h3
    have hmn : V.ref m ≠ V.ref a := fun z => by
      cases z
      obtain ⟨d, e, c, q, _⟩ := S2
      obtain ⟨dx, fs, q2⟩ := sig_in sg
      rw [q] at q2
      cases q2
    have sz2 : Sz 2 := by decide +kernel
    refine ⟨_, rfl, a, 9, n + 10 + 1, rfl, S3.same v3, by omega, by decide, by decide, fun v H4 v0 v1 o4 S4 => ?_⟩
    obtain ⟨j, rfl⟩ := Int.eq_ofNat_of_zero_le v0
    have hj : j < 9 := by omega
    have sgL := sg3.same v3
    have keyB : ∃ (y : V) (z : Str), ([V.non, .str "2", .bl true, .ref p1, .int (-1), .int 7, .int (10 ^ (30 : Int).toNat), .ref p2, .ref m] : List V)[j]? = some y ∧ BadAt K GL a y z := by
      clear v1 o4 S4 cL
      match j, hj with
      | 0, _ => exact ⟨_, _, rfl, .flat .non txt_non, (fun z => nomatch z), .inl (.inr ⟨_, .base .non, kit_ty (a := "NoneType") (b := "int") (by decide +kernel)⟩)⟩
      | 1, _ => exact ⟨_, _, rfl, .flat (.str "2") ⟨by decide +kernel, by decide +kernel, by decide +kernel, lit_asc (by decide +kernel)⟩, (fun z => nomatch z), .inl (.inr ⟨_, .base (.str _), kit_ty (a := "str") (b := "int") (by decide +kernel)⟩)⟩
      | 2, _ => exact ⟨_, _, rfl, .flat (.bl true) (txt_bl true), (fun z => nomatch z), .inl (.inl ⟨true, rfl⟩)⟩
      | 3, _ => exact ⟨_, _, rfl, .tup ((w2.trans wL) _ _ c1) (.cons (.int 2) .nil) ⟨by decide +kernel, by decide +kernel, by decide +kernel, lit_asc (by decide +kernel)⟩, nn S3 (Same.refl _) n1, .inl (.inr ⟨_, .base (.tup ((w2.trans wL) _ _ c1)), kit_ty (a := "tuple") (b := "int") (by decide +kernel)⟩)⟩
      | 4, _ => exact ⟨_, _, rfl, .flat (.int (-1)) ⟨by decide +kernel, by decide +kernel, by decide +kernel, lit_asc (by decide +kernel)⟩, (fun z => nomatch z), .inr ⟨-1, rfl, by decide⟩⟩
      | 5, _ => exact ⟨_, _, rfl, .flat (.int 7) ⟨by decide +kernel, by decide +kernel, by decide +kernel, lit_asc (by decide +kernel)⟩, (fun z => nomatch z), .inr ⟨7, rfl, by decide⟩⟩
      | 6, _ => exact ⟨_, _, rfl, .flat (.int (10 ^ (30 : Int).toNat)) ⟨by decide +kernel, by decide +kernel, by decide +kernel, lit_asc (by decide +kernel)⟩, (fun z => nomatch z), .inr ⟨_, rfl, by decide⟩⟩
      | 7, _ => exact ⟨_, _, rfl, .num (N2.same wL) sz2 sz1, nn S3 w1 n2, .inl (.inr ⟨_, ty_num T (N2.same wL), of_decide_eq_true (f_kitB_int T.c)⟩)⟩
      | 8, _ => exact ⟨_, _, rfl, .sig sgL az lz, hmn, .inl (.inr ⟨_, .base (ty_sig T sgL), of_decide_eq_true (f_kitB_Name_int T.c)⟩)⟩
    obtain ⟨bad, zb, hbad, bd⟩ := keyB
    have hLa : pL ≠ a := fun z => nn S3 (w1.trans w2) nL (by rw [z])
    refine ⟨pL, _, _, bad, rfl, rfl, .inl (.inl (o4 _ _ cL hLa)), atI_nat hbad, ?_⟩
    have k4 : Kp a H3 H4 := (Kp.same v3).trans (Kp.old o4)
    have od4 := od3.kp S3 k4
    have sg4 := sig_kp sg3 S3 k4
    have bd4 := bd.kp (S3.same v3) (Kp.old o4)
    have T4 : Tabs (TR K) H4 := tabs_old (T3.ext v3) (S3.same v3) o4
    have k04 : Kp a H H4 := k3.trans k4
    clear cL hbad bd sgL
    refine ⟨(by show 2 ≤ sizeLine; decide), fun tp ntp => ⟨tp, [odd, bad], rfl, .inl (.inl upd_same), rfl, odd, [bad], rfl, bad, [], rfl, rfl, ?_⟩⟩
    have wt := same_upd (o := HO.tup [odd, bad]) ntp
    generalize hG5 : upd H4 tp (HO.tup [odd, bad]) = H5 at wt ⊢
    clear hG5
    have S5 := S4.same wt
    have T5 := T4.ext wt
    have od5 := od4.same wt
    have sg5 := sg4.same wt
    have bd5 := bd4.kp S4 (Kp.same wt)
    have k05 : Kp a H H5 := k04.trans (Kp.same wt)
    refine ⟨(by show 2 ≤ sizeLine; decide), fun p3 n3 => ?_⟩
    have u1 : Same H5 (upd H5 p3 (.tup [.int 1, .int 2])) := same_upd n3
    have d1 : (upd H5 p3 (.tup [.int 1, .int 2])) p3 = some (.tup [.int 1, .int 2]) := upd_same
    generalize hG1 : upd H5 p3 (HO.tup [.int 1, .int 2]) = G3 at u1 d1 ⊢
    clear hG1
    refine ⟨100, rfl, 1, 100, rfl, by decide, sz100, fun G4 p4 u2 n4 M4 => ⟨100, rfl, -100, 99, rfl, by decide, sz99, fun G5 p5 u3 n5 M5 => ⟨_, rfl, (by show 9 ≤ sizeLine; decide), fun pL nL => ?_⟩⟩⟩
    rw [(low_red (t := 1) (b := 100) (by decide) (by decide)).1, (low_red (t := 1) (b := 100) (by decide) (by decide)).2] at M4
    rw [(low_red (t := -100) (b := 99) (by decide) (by decide)).1, (low_red (t := -100) (b := 99) (by decide) (by decide)).2] at M5
    have uL := same_upd (o := HO.lst ([V.non, .str "1/2", .bl true, .ref p3, .int 100, .int (-100), .ref p4, .ref p5, .ref m] : List V)) nL
    have eL : (upd G5 pL (HO.lst ([V.non, .str "1/2", .bl true, .ref p3, .int 100, .int (-100), .ref p4, .ref p5, .ref m] : List V))) pL = _ := upd_same
    generalize hGL : upd G5 pL (HO.lst ([V.non, .str "1/2", .bl true, .ref p3, .int 100, .int (-100), .ref p4, .ref p5, .ref m] : List V)) = G6 at uL eL ⊢
    clear hGL
    have v5 : Same H5 G6 := ((u1.trans u2).trans u3).trans uL
    have sz2' : Sz 2 := by decide +kernel
    have sgL := sg5.same v5
    refine ⟨_, rfl, a, 9, n + 10 + 1 + 1, rfl, S5.same v5, by omega, by decide, by decide, fun v H6 v0 v1 o6 S6 => ?_⟩
    obtain ⟨j, rfl⟩ := Int.eq_ofNat_of_zero_le v0
    have hj : j < 9 := by omega
    have keyG : ∃ (y : V) (z : Str), ([V.non, .str "1/2", .bl true, .ref p3, .int 100, .int (-100), .ref p4, .ref p5, .ref m] : List V)[j]? = some y ∧ GnAt K G6 a y z := by
      clear v1 o6 S6 eL
      match j, hj with
      | 0, _ => exact ⟨_, _, rfl, .flat .non txt_non, (fun z => nomatch z), .inl ⟨.inr ⟨_, .base .non, kit_ty (a := "NoneType") (b := "int") (by decide +kernel)⟩, _, .base .non, of_decide_eq_true (tAll_at (f_kitN T.c) 0)⟩⟩
      | 1, _ => exact ⟨_, _, rfl, .flat (.str "1/2") ⟨by decide +kernel, by decide +kernel, by decide +kernel, lit_asc (by decide +kernel)⟩, (fun z => nomatch z), .inl ⟨.inr ⟨_, .base (.str _), kit_ty (a := "str") (b := "int") (by decide +kernel)⟩, _, .base (.str _), of_decide_eq_true (tAll_at (f_kitN T.c) 2)⟩⟩
      | 2, _ => exact ⟨_, _, rfl, .flat (.bl true) (txt_bl true), (fun z => nomatch z), .inl ⟨.inl ⟨true, rfl⟩, _, .base (.bl _), of_decide_eq_true (tAll_at (f_kitN T.c) 1)⟩⟩
      | 3, _ => exact ⟨_, _, rfl, .tup (((u2.trans u3).trans uL) _ _ d1) (.cons (.int 1) (.cons (.int 2) .nil)) ⟨by decide +kernel, by decide +kernel, by decide +kernel, lit_asc (by decide +kernel)⟩, nn S5 (Same.refl _) n3, .inl ⟨.inr ⟨_, .base (.tup (((u2.trans u3).trans uL) _ _ d1)), kit_ty (a := "tuple") (b := "int") (by decide +kernel)⟩, _, .base (.tup (((u2.trans u3).trans uL) _ _ d1)), of_decide_eq_true (tAll_at (f_kitN T.c) 3)⟩⟩
      | 4, _ => exact ⟨_, _, rfl, .flat (.int 100) ⟨by decide +kernel, by decide +kernel, by decide +kernel, lit_asc (by decide +kernel)⟩, (fun z => nomatch z), .inr ⟨100, 1, .inr ⟨rfl, rfl⟩, sz100, sz1, by decide, .inl (by decide)⟩⟩
      | 5, _ => exact ⟨_, _, rfl, .flat (.int (-100)) ⟨by decide +kernel, by decide +kernel, by decide +kernel, lit_asc (by decide +kernel)⟩, (fun z => nomatch z), .inr ⟨-100, 1, .inr ⟨rfl, rfl⟩, szm100, sz1, by decide, .inl (by decide)⟩⟩
      | 6, _ => exact ⟨_, _, rfl, .num (M4.same (u3.trans uL)) sz1 sz100, nn S5 u1 n4, .inr ⟨1, 100, .inl ⟨_, rfl, M4.same (u3.trans uL)⟩, sz1, sz100, by decide, .inr (by decide)⟩⟩
      | 7, _ => exact ⟨_, _, rfl, .num (M5.same uL) szm100 sz99, nn S5 (u1.trans u2) n5, .inr ⟨-100, 99, .inl ⟨_, rfl, M5.same uL⟩, szm100, sz99, by decide, .inl (by decide)⟩⟩
      | 8, _ => exact ⟨_, _, rfl, .sig sgL az lz, hmn, .inl ⟨.inr ⟨_, .base (ty_sig T sgL), of_decide_eq_true (f_kitB_Name_int T.c)⟩, _, .base (ty_sig T sgL), of_decide_eq_true (f_kitO_Name_Number T.c)⟩⟩
    obtain ⟨gain, zg, hgain, gn⟩ := keyG
    have hLb : pL ≠ a := fun z => nn S5 ((u1.trans u2).trans u3) nL (by rw [z])
    refine ⟨pL, _, _, gain, rfl, rfl, .inl (.inl (o6 _ _ eL hLb)), atI_nat hgain, ?_⟩
    have k5 : Kp a H5 H6 := (Kp.same v5).trans (Kp.old o6)
    have F6 : PF K a (n + 10 + 1 + 1 + 1) m l odd zo bad zb gain zg H6 := ⟨S6, tabs_old (T5.ext v5) (S5.same v5) o6, sig_kp sg5 S5 k5, od5.kp S5 k5, bd5.kp S5 k5, gn.kp (S5.same v5) (Kp.old o6), hmn⟩
    have k06 : Kp a H H6 := k05.trans k5
    clear eL hgain gn sgL v1 o6 S6 k5 uL u1 u2 u3 d1 n3 n4 n5 nL M4 M5 v5 hLb v0 hj
    clear od5 sg5 bd5 k05 T5 S5 wt od4 sg4 bd4 k04 T4 S4 k4 k3 od3 sg3 S3 T3 k2 S2 T2 sg sgs
    -- the multiples
    have kk6 := k06
    clear k06
    refine ⟨F6.T, fun A7 x t => ⟨_, rfl, _, rfl, x_gain (F6.ext x t).gn.bg (b_gain T (F6.ext x t).gn.sh fun B7 l7 s nl => ?_)⟩⟩
    have F7 := ((F6.ext x t).same s).put nl (o := HO.lst [.str "InvalidGain", .str zg])
    have kk7 : Kp a H _ := (kk6.trans (Kp.ext x)).trans (Kp.same (s.trans (same_upd nl (o := HO.lst [.str "InvalidGain", .str zg]))))
    have c7 : (upd B7 l7 (HO.lst [.str "InvalidGain", .str zg])) l7 = some (HO.lst [.str "InvalidGain", .str zg]) := upd_same
    generalize hG : upd B7 l7 (HO.lst [.str "InvalidGain", .str zg]) = W7 at F7 kk7  c7 ⊢
    clear hG nl s t x F6 kk6
    refine ⟨F7.T, fun A8 x t => ⟨_, rfl, _, rfl, rfl, rfl, x_gain (F7.ext x t).gn.bg (b_gain T (F7.ext x t).gn.sh fun B8 l8 s nl => ?_)⟩⟩
    have F8 := ((F7.ext x t).same s).put nl (o := HO.lst [.str "InvalidGain", .str zg])
    have kk8 : Kp a H _ := (kk7.trans (Kp.ext x)).trans (Kp.same (s.trans (same_upd nl (o := HO.lst [.str "InvalidGain", .str zg]))))
    have c7 := (s.trans (same_upd nl (o := HO.lst [.str "InvalidGain", .str zg]))) _ _ (x _ _ c7 (fun ps z => nomatch z))
    have c8 : (upd B8 l8 (HO.lst [.str "InvalidGain", .str zg])) l8 = some (HO.lst [.str "InvalidGain", .str zg]) := upd_same
    generalize hG : upd B8 l8 (HO.lst [.str "InvalidGain", .str zg]) = W8 at F8 kk8  c7 c8 ⊢
    clear hG nl s t x F7 kk7
    refine ⟨(by show 2 ≤ sizeLine; decide), fun L1 nl => ?_⟩
    have F9 := F8.put nl (o := HO.lst [.ref l7, .ref l8])
    have kk9 := kk8.trans (Kp.same (a := a) (same_upd nl (o := HO.lst [.ref l7, .ref l8])))
    have c7 := (same_upd nl (o := HO.lst [.ref l7, .ref l8])) _ _ c7
    have c8 := (same_upd nl (o := HO.lst [.ref l7, .ref l8])) _ _ c8
    have dL1 : (upd W8 L1 (HO.lst [.ref l7, .ref l8])) L1 = some (HO.lst [.ref l7, .ref l8]) := upd_same
    generalize hG : upd W8 L1 (HO.lst [.ref l7, .ref l8]) = W9 at F9 kk9  c7 c8 dL1 ⊢
    clear hG nl F8 kk8
    refine ⟨_, rfl, _, rfl, Shows.rA T F9.gn.sh ⟨(by show 2 ≤ sizeLine; decide), fun r nr => ⟨(by show 1 ≤ sizeLine; decide), fun q nq => ⟨q, 2, _, rfl, rfl, upd_same, by decide, by decide, (by show 2 ≤ sizeLine; decide), fun p np => ?_⟩⟩⟩⟩
    have e1 := same_upd (o := HO.lst [.str "InvalidGain", .str zg]) nr
    have e2 := e1.trans (same_upd (o := HO.lst [.ref r]) nq)
    have e3 : Same W9 (upd _ p (HO.lst (List.replicate (Int.toNat 2) [V.ref r]).flatten)) := e2.trans (same_upd np)
    have hr := ((same_upd (o := HO.lst [.ref r]) nq).trans (same_upd (o := HO.lst [.ref r, .ref r]) np)) r (HO.lst [.str "InvalidGain", .str zg]) upd_same
    refine ⟨many 2 "InvalidGain" zg, many 2 "InvalidGain" zg, .lst (.inl (.inl (e3 _ _ dL1))) ((.cons (dp_two (e3 _ _ c7)) (.cons (dp_two (e3 _ _ c8)) .nil))), .lst (.inl (.inl upd_same)) ((.cons (dp_two hr) (.cons (dp_two hr) .nil))), shaped_2 (asc_w (by decide +kernel)) F9.gn.sh.asc, shaped_2 (asc_w (by decide +kernel)) F9.gn.sh.asc, ?_⟩
    rw [eqv_many]
    refine ⟨_, rfl, iteF ?_⟩
    have F10 := F9.same e3
    have kk10 := kk9.trans (Kp.same (a := a) e3)
    generalize hG : upd _ p (HO.lst (List.replicate (Int.toNat 2) [V.ref r]).flatten) = W10 at F10 kk10 ⊢
    clear hG hr e3 e2 e1 np nq nr F9 kk9 c7 c8 dL1
    refine ⟨F10.T, fun A11 x t => ⟨_, rfl, x_tmsig (u := 1) (c := 1) (.inr ⟨rfl, rfl⟩) gain1 (F10.ext x t).od.ns (b_sig T (F10.ext x t).od.sh fun B11 l11 s nl => ?_)⟩⟩
    have F11 := ((F10.ext x t).same s).put nl (o := HO.lst [.str "NotASignal", .str zo])
    have kk11 : Kp a H _ := (kk10.trans (Kp.ext x)).trans (Kp.same (s.trans (same_upd nl (o := HO.lst [.str "NotASignal", .str zo]))))
    have c11 : (upd B11 l11 (HO.lst [.str "NotASignal", .str zo])) l11 = some (HO.lst [.str "NotASignal", .str zo]) := upd_same
    generalize hG : upd B11 l11 (HO.lst [.str "NotASignal", .str zo]) = W11 at F11 kk11  c11 ⊢
    clear hG nl s t x F10 kk10
    refine ⟨F11.T, fun A12 x t => ⟨_, rfl, _, rfl, x_prsig (F11.ext x t).od.ns (b_sig T (F11.ext x t).od.sh fun B12 l12 s nl => ?_)⟩⟩
    have F12 := ((F11.ext x t).same s).put nl (o := HO.lst [.str "NotASignal", .str zo])
    have kk12 : Kp a H _ := (kk11.trans (Kp.ext x)).trans (Kp.same (s.trans (same_upd nl (o := HO.lst [.str "NotASignal", .str zo]))))
    have c11 := (s.trans (same_upd nl (o := HO.lst [.str "NotASignal", .str zo]))) _ _ (x _ _ c11 (fun ps z => nomatch z))
    have c12 : (upd B12 l12 (HO.lst [.str "NotASignal", .str zo])) l12 = some (HO.lst [.str "NotASignal", .str zo]) := upd_same
    generalize hG : upd B12 l12 (HO.lst [.str "NotASignal", .str zo]) = W12 at F12 kk12  c11 c12 ⊢
    clear hG nl s t x F11 kk11
    refine ⟨(by show 2 ≤ sizeLine; decide), fun L2 nl => ?_⟩
    have F13 := F12.put nl (o := HO.lst [.ref l11, .ref l12])
    have kk13 := kk12.trans (Kp.same (a := a) (same_upd nl (o := HO.lst [.ref l11, .ref l12])))
    have c11 := (same_upd nl (o := HO.lst [.ref l11, .ref l12])) _ _ c11
    have c12 := (same_upd nl (o := HO.lst [.ref l11, .ref l12])) _ _ c12
    have dL2 : (upd W12 L2 (HO.lst [.ref l11, .ref l12])) L2 = some (HO.lst [.ref l11, .ref l12]) := upd_same
    generalize hG : upd W12 L2 (HO.lst [.ref l11, .ref l12]) = W13 at F13 kk13  c11 c12 dL2 ⊢
    clear hG nl F12 kk12
    refine ⟨_, rfl, ⟨F13.T, fun A14 x t => ⟨_, rfl, x_prsig (F13.ext x t).od.ns (b_sig T (F13.ext x t).od.sh fun B14 l14 s nl => ?_)⟩⟩⟩
    have F14 := ((F13.ext x t).same s).put nl (o := HO.lst [.str "NotASignal", .str zo])
    have kk14 : Kp a H _ := (kk13.trans (Kp.ext x)).trans (Kp.same (s.trans (same_upd nl (o := HO.lst [.str "NotASignal", .str zo]))))
    have c11 := (s.trans (same_upd nl (o := HO.lst [.str "NotASignal", .str zo]))) _ _ (x _ _ c11 (fun ps z => nomatch z))
    have c12 := (s.trans (same_upd nl (o := HO.lst [.str "NotASignal", .str zo]))) _ _ (x _ _ c12 (fun ps z => nomatch z))
    have dL2 := (s.trans (same_upd nl (o := HO.lst [.str "NotASignal", .str zo]))) _ _ (x _ _ dL2 (fun ps z => nomatch z))
    have c14 : (upd B14 l14 (HO.lst [.str "NotASignal", .str zo])) l14 = some (HO.lst [.str "NotASignal", .str zo]) := upd_same
    generalize hG : upd B14 l14 (HO.lst [.str "NotASignal", .str zo]) = W14 at F14 kk14  c11 c12 dL2 c14 ⊢
    clear hG nl s t x F13 kk13
    refine ⟨F14.T, fun A15 x t => ⟨_, rfl, _, rfl, x_prsig (F14.ext x t).od.ns (b_sig T (F14.ext x t).od.sh fun B15 l15 s nl => ?_)⟩⟩
    have F15 := ((F14.ext x t).same s).put nl (o := HO.lst [.str "NotASignal", .str zo])
    have kk15 : Kp a H _ := (kk14.trans (Kp.ext x)).trans (Kp.same (s.trans (same_upd nl (o := HO.lst [.str "NotASignal", .str zo]))))
    have c11 := (s.trans (same_upd nl (o := HO.lst [.str "NotASignal", .str zo]))) _ _ (x _ _ c11 (fun ps z => nomatch z))
    have c12 := (s.trans (same_upd nl (o := HO.lst [.str "NotASignal", .str zo]))) _ _ (x _ _ c12 (fun ps z => nomatch z))
    have dL2 := (s.trans (same_upd nl (o := HO.lst [.str "NotASignal", .str zo]))) _ _ (x _ _ dL2 (fun ps z => nomatch z))
    have c14 := (s.trans (same_upd nl (o := HO.lst [.str "NotASignal", .str zo]))) _ _ (x _ _ c14 (fun ps z => nomatch z))
    have c15 : (upd B15 l15 (HO.lst [.str "NotASignal", .str zo])) l15 = some (HO.lst [.str "NotASignal", .str zo]) := upd_same
    generalize hG : upd B15 l15 (HO.lst [.str "NotASignal", .str zo]) = W15 at F15 kk15  c11 c12 dL2 c14 c15 ⊢
    clear hG nl s t x F14 kk14
    refine ⟨(by show 2 ≤ sizeLine; decide), fun L3 nl => ?_⟩
    have F16 := F15.put nl (o := HO.lst [.ref l14, .ref l15])
    have kk16 := kk15.trans (Kp.same (a := a) (same_upd nl (o := HO.lst [.ref l14, .ref l15])))
    have c11 := (same_upd nl (o := HO.lst [.ref l14, .ref l15])) _ _ c11
    have c12 := (same_upd nl (o := HO.lst [.ref l14, .ref l15])) _ _ c12
    have dL2 := (same_upd nl (o := HO.lst [.ref l14, .ref l15])) _ _ dL2
    have c14 := (same_upd nl (o := HO.lst [.ref l14, .ref l15])) _ _ c14
    have c15 := (same_upd nl (o := HO.lst [.ref l14, .ref l15])) _ _ c15
    have dL3 : (upd W15 L3 (HO.lst [.ref l14, .ref l15])) L3 = some (HO.lst [.ref l14, .ref l15]) := upd_same
    generalize hG : upd W15 L3 (HO.lst [.ref l14, .ref l15]) = W16 at F16 kk16  c11 c12 dL2 c14 c15 dL3 ⊢
    clear hG nl F15 kk15
    refine ⟨L2, L3, _, _, rfl, rfl, dL2, dL3, (by show 4 ≤ sizeLine; decide), fun L4 nl => ?_⟩
    have F17 := F16.put nl (o := HO.lst ([V.ref l11, V.ref l12] ++ [V.ref l14, V.ref l15]))
    have kk17 := kk16.trans (Kp.same (a := a) (same_upd nl (o := HO.lst ([V.ref l11, V.ref l12] ++ [V.ref l14, V.ref l15]))))
    have nb := nl
    have rel : Kp a W16 _ := Kp.same (same_upd nl (o := HO.lst ([V.ref l11, V.ref l12] ++ [V.ref l14, V.ref l15])))
    have Fb := F16
    have kb := kk16
    have c11 := (same_upd nl (o := HO.lst ([V.ref l11, V.ref l12] ++ [V.ref l14, V.ref l15]))) _ _ c11
    have c12 := (same_upd nl (o := HO.lst ([V.ref l11, V.ref l12] ++ [V.ref l14, V.ref l15]))) _ _ c12
    have dL2 := (same_upd nl (o := HO.lst ([V.ref l11, V.ref l12] ++ [V.ref l14, V.ref l15]))) _ _ dL2
    have c14 := (same_upd nl (o := HO.lst ([V.ref l11, V.ref l12] ++ [V.ref l14, V.ref l15]))) _ _ c14
    have c15 := (same_upd nl (o := HO.lst ([V.ref l11, V.ref l12] ++ [V.ref l14, V.ref l15]))) _ _ c15
    have dL3 := (same_upd nl (o := HO.lst ([V.ref l11, V.ref l12] ++ [V.ref l14, V.ref l15]))) _ _ dL3
    have dL4 : (upd W16 L4 (HO.lst ([V.ref l11, V.ref l12] ++ [V.ref l14, V.ref l15]))) L4 = some (HO.lst ([V.ref l11, V.ref l12] ++ [V.ref l14, V.ref l15])) := upd_same
    generalize hG : upd W16 L4 (HO.lst ([V.ref l11, V.ref l12] ++ [V.ref l14, V.ref l15])) = W17 at F17 kk17 rel c11 c12 dL2 c14 c15 dL3 dL4 ⊢
    clear hG nl F16 kk16
    have dL4 : W17 L4 = some (HO.lst [V.ref l11, V.ref l12, V.ref l14, V.ref l15]) := dL4
    refine ⟨_, rfl, .inl ⟨rfl, _, .inl (.inl dL4)⟩, ⟨F17.T, fun A18 x t => ⟨_, rfl, _, rfl, rfl, rfl, x_prsig (F17.ext x t).od.ns (b_sig T (F17.ext x t).od.sh fun B18 l18 s nl => ?_)⟩⟩⟩
    have F18 := ((F17.ext x t).same s).put nl (o := HO.lst [.str "NotASignal", .str zo])
    have kk18 : Kp a H _ := (kk17.trans (Kp.ext x)).trans (Kp.same (s.trans (same_upd nl (o := HO.lst [.str "NotASignal", .str zo]))))
    have rel : Kp a _ _ := (rel.trans (Kp.ext x)).trans (Kp.same (s.trans (same_upd nl (o := HO.lst [.str "NotASignal", .str zo]))))
    have c11 := (s.trans (same_upd nl (o := HO.lst [.str "NotASignal", .str zo]))) _ _ (x _ _ c11 (fun ps z => nomatch z))
    have c12 := (s.trans (same_upd nl (o := HO.lst [.str "NotASignal", .str zo]))) _ _ (x _ _ c12 (fun ps z => nomatch z))
    have dL2 := (s.trans (same_upd nl (o := HO.lst [.str "NotASignal", .str zo]))) _ _ (x _ _ dL2 (fun ps z => nomatch z))
    have c14 := (s.trans (same_upd nl (o := HO.lst [.str "NotASignal", .str zo]))) _ _ (x _ _ c14 (fun ps z => nomatch z))
    have c15 := (s.trans (same_upd nl (o := HO.lst [.str "NotASignal", .str zo]))) _ _ (x _ _ c15 (fun ps z => nomatch z))
    have dL3 := (s.trans (same_upd nl (o := HO.lst [.str "NotASignal", .str zo]))) _ _ (x _ _ dL3 (fun ps z => nomatch z))
    have dL4 := (s.trans (same_upd nl (o := HO.lst [.str "NotASignal", .str zo]))) _ _ (x _ _ dL4 (fun ps z => nomatch z))
    have c18 : (upd B18 l18 (HO.lst [.str "NotASignal", .str zo])) l18 = some (HO.lst [.str "NotASignal", .str zo]) := upd_same
    generalize hG : upd B18 l18 (HO.lst [.str "NotASignal", .str zo]) = W18 at F18 kk18 rel c11 c12 dL2 c14 c15 dL3 dL4 c18 ⊢
    clear hG nl s t x F17 kk17
    refine ⟨L4, _, .ref l18, rfl, rfl, dL4, (by show 4 < sizeLine; decide), ?_⟩
    have am : a ≠ L4 := fun z => by
      obtain ⟨q1, q2, q3, q, _⟩ := Fb.S
      rw [z, nb] at q
      cases q
    have rel := kp_put (o := HO.lst ([V.ref l11, V.ref l12, V.ref l14, V.ref l15] ++ [V.ref l18])) rel nb
    have F19 := Fb.kp rel (srcAt_put (o := HO.lst ([V.ref l11, V.ref l12, V.ref l14, V.ref l15] ++ [V.ref l18])) F18.S am) (tabs_put (o := HO.lst ([V.ref l11, V.ref l12, V.ref l14, V.ref l15] ++ [V.ref l18])) F18.T dL4)
    have kk19 : Kp a H _ := kb.trans rel
    have c11 := (upd_ne (o := HO.lst ([V.ref l11, V.ref l12, V.ref l14, V.ref l15] ++ [V.ref l18])) (ne_of c11 dL4 (by intro z; exact nomatch z))).trans c11
    have c12 := (upd_ne (o := HO.lst ([V.ref l11, V.ref l12, V.ref l14, V.ref l15] ++ [V.ref l18])) (ne_of c12 dL4 (by intro z; exact nomatch z))).trans c12
    have dL2 := (upd_ne (o := HO.lst ([V.ref l11, V.ref l12, V.ref l14, V.ref l15] ++ [V.ref l18])) (ne_of dL2 dL4 (by intro z; exact nomatch z))).trans dL2
    have c14 := (upd_ne (o := HO.lst ([V.ref l11, V.ref l12, V.ref l14, V.ref l15] ++ [V.ref l18])) (ne_of c14 dL4 (by intro z; exact nomatch z))).trans c14
    have c15 := (upd_ne (o := HO.lst ([V.ref l11, V.ref l12, V.ref l14, V.ref l15] ++ [V.ref l18])) (ne_of c15 dL4 (by intro z; exact nomatch z))).trans c15
    have dL3 := (upd_ne (o := HO.lst ([V.ref l11, V.ref l12, V.ref l14, V.ref l15] ++ [V.ref l18])) (ne_of dL3 dL4 (by intro z; exact nomatch z))).trans dL3
    have c18 := (upd_ne (o := HO.lst ([V.ref l11, V.ref l12, V.ref l14, V.ref l15] ++ [V.ref l18])) (ne_of c18 dL4 (by intro z; exact nomatch z))).trans c18
    have dL4 : (upd W18 L4 (HO.lst ([V.ref l11, V.ref l12, V.ref l14, V.ref l15] ++ [V.ref l18]))) L4 = some (HO.lst ([V.ref l11, V.ref l12, V.ref l14, V.ref l15] ++ [V.ref l18])) := upd_same
    generalize hG : upd W18 L4 (HO.lst ([V.ref l11, V.ref l12, V.ref l14, V.ref l15] ++ [V.ref l18])) = W19 at F19 kk19 c11 c12 dL2 c14 c15 dL3 dL4 c18 ⊢
    clear hG F18 kk18 rel Fb kb nb am
    have dL4 : W19 L4 = some (HO.lst [V.ref l11, V.ref l12, V.ref l14, V.ref l15, V.ref l18]) := dL4
    refine ⟨_, rfl, _, rfl, Shows.rA T F19.od.sh ⟨(by show 2 ≤ sizeLine; decide), fun r nr => ⟨(by show 1 ≤ sizeLine; decide), fun q nq => ⟨q, 5, _, rfl, rfl, upd_same, by decide, by decide, (by show 5 ≤ sizeLine; decide), fun p np => ?_⟩⟩⟩⟩
    have e1 := same_upd (o := HO.lst [.str "NotASignal", .str zo]) nr
    have e2 := e1.trans (same_upd (o := HO.lst [.ref r]) nq)
    have e3 : Same W19 (upd _ p (HO.lst (List.replicate (Int.toNat 5) [V.ref r]).flatten)) := e2.trans (same_upd np)
    have hr := ((same_upd (o := HO.lst [.ref r]) nq).trans (same_upd (o := HO.lst [.ref r, .ref r, .ref r, .ref r, .ref r]) np)) r (HO.lst [.str "NotASignal", .str zo]) upd_same
    refine ⟨many 5 "NotASignal" zo, many 5 "NotASignal" zo, .lst (.inl (.inl (e3 _ _ dL4))) ((.cons (dp_two (e3 _ _ c11)) (.cons (dp_two (e3 _ _ c12)) (.cons (dp_two (e3 _ _ c14)) (.cons (dp_two (e3 _ _ c15)) (.cons (dp_two (e3 _ _ c18)) .nil)))))), .lst (.inl (.inl upd_same)) ((.cons (dp_two hr) (.cons (dp_two hr) (.cons (dp_two hr) (.cons (dp_two hr) (.cons (dp_two hr) .nil)))))), shaped_5 (asc_w (by decide +kernel)) F19.od.sh.asc, shaped_5 (asc_w (by decide +kernel)) F19.od.sh.asc, ?_⟩
    rw [eqv_many]
    refine ⟨_, rfl, iteF ?_⟩
    have F20 := F19.same e3
    have kk20 := kk19.trans (Kp.same (a := a) e3)
    generalize hG : upd _ p (HO.lst (List.replicate (Int.toNat 5) [V.ref r]).flatten) = W20 at F20 kk20 ⊢
    clear hG hr e3 e2 e1 np nq nr F19 kk19 c11 c12 dL2 c14 c15 dL3 dL4 c18
    refine ⟨F20.T, fun A21 x t => ⟨_, rfl, _, rfl, x_prnum (F20.ext x t).sg (F20.ext x t).bd.ni (b_count T (F20.ext x t).bd.sh fun B21 l21 s nl => ?_)⟩⟩
    have F21 := ((F20.ext x t).same s).put nl (o := HO.lst [.str "InvalidCount", .str zb])
    have kk21 : Kp a H _ := (kk20.trans (Kp.ext x)).trans (Kp.same (s.trans (same_upd nl (o := HO.lst [.str "InvalidCount", .str zb]))))
    have c21 : (upd B21 l21 (HO.lst [.str "InvalidCount", .str zb])) l21 = some (HO.lst [.str "InvalidCount", .str zb]) := upd_same
    generalize hG : upd B21 l21 (HO.lst [.str "InvalidCount", .str zb]) = W21 at F21 kk21  c21 ⊢
    clear hG nl s t x F20 kk20
    refine ⟨_, rfl, Shows.rA T F21.bd.sh ⟨(by show 2 ≤ sizeLine; decide), fun r nr => ?_⟩⟩
    have e3 := same_upd (o := HO.lst [.str "InvalidCount", .str zb]) nr
    refine ⟨_, _, dp_two (e3 _ _ c21), dp_two upd_same, shaped_two (asc_w (by decide +kernel)) F21.bd.sh.asc, shaped_two (asc_w (by decide +kernel)) F21.bd.sh.asc, ?_⟩
    rw [eqv_two]
    refine ⟨_, rfl, iteF ?_⟩
    have F22 := F21.same e3
    have kk22 := kk21.trans (Kp.same (a := a) e3)
    generalize hG : upd _ r (HO.lst [.str "InvalidCount", .str zb]) = W22 at F22 kk22 ⊢
    clear hG e3 nr F21 kk21 c21
    refine ⟨_, rfl, (by show 2 ≤ sizeLine; decide), fun LL nl => ⟨_, rfl, ⟨_, .inl (.inl upd_same)⟩, ?_⟩⟩
    have F23 := F22.put nl (o := HO.lst [bad, .int 0])
    have kk23 := kk22.trans (Kp.same (a := a) (same_upd nl (o := HO.lst [bad, .int 0])))
    have dLL : (upd W22 LL (HO.lst [bad, .int 0])) LL = some (HO.lst [bad, .int 0]) := upd_same
    generalize hG : upd W22 LL (HO.lst [bad, .int 0]) = W23 at F23 kk23 dLL ⊢
    clear hG nl F22 kk22
    refine for_list (a := LL) (xs := [bad, .int 0]) (fun i σ H' => Kp a H H' ∧ PF K a (n + 10 + 1 + 1 + 1) m l odd zo bad zb gain zg H' ∧ H' LL = some (.lst [bad, .int 0]) ∧ ∃ x5 x6, σ = [some (.ref a), some (.ref m), some odd, some bad, some gain, x5, x6]) ⟨kk23, F23, dLL, _, _, rfl⟩ (fun i σ H' _ h => .inl (.inl h.2.2.1)) ?_ ?_
    · rintro i x σ W0 hx ⟨kk0, F0, dLL, x5, x6, rfl⟩
      have hst : ∃ z, ∀ {G : Hp}, PF K a (n + 10 + 1 + 1 + 1) m l odd zo bad zb gain zg G → StAt K G a x z := by
        match i, hx with
        | 0, hx => cases hx; exact ⟨zb, fun F => ⟨F.bd.sh, F.bd.ne, F.bd.ni.imp id fun ⟨j, e, h⟩ => ⟨j, e, by omega⟩⟩⟩
        | 1, hx => cases hx; exact ⟨_, fun F => ⟨.flat (.int 0) ⟨by decide +kernel, by decide +kernel, by decide +kernel, lit_asc (by decide +kernel)⟩, (fun z => nomatch z), .inr ⟨0, rfl, by decide⟩⟩⟩
        | i + 2, hx => simp at hx
      obtain ⟨zw, hst⟩ := hst
      refine ⟨F0.T, fun A1 x t => ⟨_, rfl, _, rfl, x_prnum (F0.ext x t).sg (hst (F0.ext x t)).ni (b_step T (hst (F0.ext x t)).sh fun B1 l1 s nl => ?_)⟩⟩
      have F1 := ((F0.ext x t).same s).put nl (o := HO.lst [.str "InvalidStep", .str zw])
      have kk1 : Kp a H _ := (kk0.trans (Kp.ext x)).trans (Kp.same (s.trans (same_upd nl (o := HO.lst [.str "InvalidStep", .str zw]))))
      have dLL := (s.trans (same_upd nl (o := HO.lst [.str "InvalidStep", .str zw]))) _ _ (x _ _ dLL (fun ps z => nomatch z))
      have c1 : (upd B1 l1 (HO.lst [.str "InvalidStep", .str zw])) l1 = some (HO.lst [.str "InvalidStep", .str zw]) := upd_same
      generalize hG : upd B1 l1 (HO.lst [.str "InvalidStep", .str zw]) = W1 at F1 kk1  dLL c1 ⊢
      clear hG nl s t x F0 kk0
      refine ⟨F1.T, fun A2 x t => ⟨_, rfl, _, rfl, rfl, rfl, x_prnum (F1.ext x t).sg (hst (F1.ext x t)).ni (b_step T (hst (F1.ext x t)).sh fun B2 l2 s nl => ?_)⟩⟩
      have F2 := ((F1.ext x t).same s).put nl (o := HO.lst [.str "InvalidStep", .str zw])
      have kk2 : Kp a H _ := (kk1.trans (Kp.ext x)).trans (Kp.same (s.trans (same_upd nl (o := HO.lst [.str "InvalidStep", .str zw]))))
      have dLL := (s.trans (same_upd nl (o := HO.lst [.str "InvalidStep", .str zw]))) _ _ (x _ _ dLL (fun ps z => nomatch z))
      have c1 := (s.trans (same_upd nl (o := HO.lst [.str "InvalidStep", .str zw]))) _ _ (x _ _ c1 (fun ps z => nomatch z))
      have c2 : (upd B2 l2 (HO.lst [.str "InvalidStep", .str zw])) l2 = some (HO.lst [.str "InvalidStep", .str zw]) := upd_same
      generalize hG : upd B2 l2 (HO.lst [.str "InvalidStep", .str zw]) = W2 at F2 kk2  dLL c1 c2 ⊢
      clear hG nl s t x F1 kk1
      refine ⟨(by show 2 ≤ sizeLine; decide), fun L5 nl => ?_⟩
      have F3 := F2.put nl (o := HO.lst [.ref l1, .ref l2])
      have kk3 := kk2.trans (Kp.same (a := a) (same_upd nl (o := HO.lst [.ref l1, .ref l2])))
      have dLL := (same_upd nl (o := HO.lst [.ref l1, .ref l2])) _ _ dLL
      have c1 := (same_upd nl (o := HO.lst [.ref l1, .ref l2])) _ _ c1
      have c2 := (same_upd nl (o := HO.lst [.ref l1, .ref l2])) _ _ c2
      have dL5 : (upd W2 L5 (HO.lst [.ref l1, .ref l2])) L5 = some (HO.lst [.ref l1, .ref l2]) := upd_same
      generalize hG : upd W2 L5 (HO.lst [.ref l1, .ref l2]) = W3 at F3 kk3  dLL c1 c2 dL5 ⊢
      clear hG nl F2 kk2
      have dK := dLL
      refine ⟨_, rfl, _, rfl, Shows.rA T (hst F3).sh ⟨(by show 2 ≤ sizeLine; decide), fun r nr => ⟨(by show 1 ≤ sizeLine; decide), fun q nq => ⟨q, 2, _, rfl, rfl, upd_same, by decide, by decide, (by show 2 ≤ sizeLine; decide), fun p np => ?_⟩⟩⟩⟩
      have e1 := same_upd (o := HO.lst [.str "InvalidStep", .str zw]) nr
      have e2 := e1.trans (same_upd (o := HO.lst [.ref r]) nq)
      have e3 : Same W3 (upd _ p (HO.lst (List.replicate (Int.toNat 2) [V.ref r]).flatten)) := e2.trans (same_upd np)
      have hr := ((same_upd (o := HO.lst [.ref r]) nq).trans (same_upd (o := HO.lst [.ref r, .ref r]) np)) r (HO.lst [.str "InvalidStep", .str zw]) upd_same
      refine ⟨many 2 "InvalidStep" zw, many 2 "InvalidStep" zw, .lst (.inl (.inl (e3 _ _ dL5))) ((.cons (dp_two (e3 _ _ c1)) (.cons (dp_two (e3 _ _ c2)) .nil))), .lst (.inl (.inl upd_same)) ((.cons (dp_two hr) (.cons (dp_two hr) .nil))), shaped_2 (asc_w (by decide +kernel)) (hst F3).sh.asc, shaped_2 (asc_w (by decide +kernel)) (hst F3).sh.asc, ?_⟩
      rw [eqv_many]
      have dK := e3 _ _ dK
      refine ⟨_, rfl, iteF ?_⟩
      have F4 := F3.same e3
      have kk4 := kk3.trans (Kp.same (a := a) e3)
      generalize hG : upd _ p (HO.lst (List.replicate (Int.toNat 2) [V.ref r]).flatten) = W4 at F4 kk4 dK ⊢
      clear hG hr e3 e2 e1 np nq nr F3 kk3 c1 c2 dL5
      exact ⟨kk4, F4, dK, _, _, rfl⟩
    · rintro σ W0 ⟨kk0, F0, dLL, x5, x6, rfl⟩
      exact k W0 kk0 (F0.S.le (by omega)) F0.T
end
end K11

namespace Hk
open PySem PySem.Spec PyProof.Rows L2
/-- C() of a class whose __init__ takes any number -/
theorem pe_makeR0 {X : Cx} {CX : CXT} {k : Nat} {f C : Addr} {sp : Sp} {E : XK} {x : Str} {p pos : Pos} (M : Mk X.K C f) (F : FnR X.prog X.w X.K X.mg X.base CX k f sp) (hr : Room (k + 1) X.A) (hg : Gl X x) (hm : X.mg x = some (.ref C)) (hx : Passes CX X E)
    (hdb : (x == ("__debug__" : Str)) = false := by decide) : PE X (.Call (.Name x p) [] [] pos) (StX.tMakeR C sp E tNil) := by
  refine ⟨fun pins s σ H Q I h => ?_⟩
  refine wpAny_Call_Name_kw (ld_glob I hg hm ?_ hdb)
  exact PySem.W.callWith_K0 I.kIn M.kp (StX.run_makeR (us := []) M F hr hx I .nil h)
end Hk
namespace K11
open PySem PySem.Spec PyProof.Rows L2 Hk NumM NumT SX L2H LamX
/-! how long texts are at most -/
theorem pair_len {w : Nat} {x : Tree} {n : Int} (n0 : 0 ≤ n) (n6 : n ≤ 6) : (Tree.pair w x n).tell.length ≤ x.tell.length + 320 := by
  have := il_len n0 n6
  have := word_len (w := w)
  have eS : (S (iL n)).length = (iL n).length := by rw [S_len]
  rw [Tree.tell, str_len, str_len, str_len, str_len, str_len, eS, show ("(" : Str).length = 1 from rfl, show (", " : Str).length = 2 from rfl, show (")" : Str).length = 1 from rfl]
  omega
theorem times_len {u b : Int} {x : Tree} (g : GainOk u b) : (Tree.times u b x).tell.length ≤ x.tell.length + 620 := by
  have := fl_len g
  have eS : (S (fL u b)).length = (fL u b).length := by rw [S_len]
  rw [Tree.tell, str_len, str_len, str_len, str_len, eS, show ("times(" : Str).length = 6 from rfl, show (", " : Str).length = 2 from rfl, show (")" : Str).length = 1 from rfl]
  omega
theorem sum_len {ts : List Tree} {B : Nat} (n5 : ts.length ≤ 5) (h : ∀ t ∈ ts, t.tell.length ≤ B) : (Tree.sum ts).tell.length ≤ 5 * B + 20 := by
  rw [tell_sum, str_len, str_len]
  have key : ∀ us : List Tree, (∀ t ∈ us, t.tell.length ≤ B) → ((us.map Tree.tell).map (·.length)).sum ≤ us.length * B := fun us => by
    induction us with
    | nil => intro _; simp
    | cons u us ih =>
      intro hu
      have h1 := hu u List.mem_cons_self
      have h2 := ih fun t ht => hu t (List.mem_cons_of_mem _ ht)
      rw [List.map_cons, List.map_cons, List.sum_cons, List.length_cons, Nat.add_mul]
      omega
  have k1 := key ts h
  have k2 : ts.length * B ≤ 5 * B := Nat.mul_le_mul_right _ n5
  have k3 : (Str.join (", " : Str) (ts.map Tree.tell)).length ≤ ((ts.map Tree.tell).map (·.length)).sum + 5 * 2 := by
    cases ts with
    | nil => exact Nat.zero_le _
    | cons u us =>
      rw [List.map_cons, len_join_cons, show (", " : Str).length = 2 from rfl]
      have : us.length ≤ 4 := by simpa using n5
      have e : ((Tree.tell u :: us.map Tree.tell).map (·.length)).sum = (((u :: us).map Tree.tell).map (·.length)).sum := rfl
      rw [List.length_map]
      omega
  have e1 : ("sum(" : Str).length = 4 := rfl
  have e2 : (")" : Str).length = 1 := rfl
  rw [e1, e2]
  omega
theorem name_len {l : List Nat} (nm : Nm l) : (Tree.name l).tell.length ≤ 8 := by
  rw [Tree.tell, S_len]
  exact nm.hi
/-- _law_total of a list of which one item is no signal -/
def spTotX (K : Fr) : Sp := fun vs H _ E => ∃ (l : Addr) (ys : List V) (i : Nat) (y : V), vs = [.ref l] ∧ H l = some (.lst ys) ∧ 1 ≤ ys.length ∧ ys.length ≤ 5 ∧ ys[i]? = some y ∧ NotSig K H y ∧ (∀ j z, j < i → ys[j]? = some z → ∃ d t p, z = .ref p ∧ SigAt K H d t p) ∧ Bad "InvalidTerms" "index" K H E (.int i)
end K11

namespace K11
open PySem PySem.Spec PyProof.Rows L2 Hk NumM NumT SX L2H LamX
theorem word_asc (w : Nat) : Asc (wordOf w) := by
  unfold wordOf
  split
  · exact lit_asc (by decide +kernel)
  · split
    · exact lit_asc (by decide +kernel)
    · exact lit_asc (by decide +kernel)
theorem asc_name {l : List Nat} (nm : Nm l) : Asc (Tree.name l).tell := by
  rw [Tree.tell]
  exact nm_asc nm
theorem asc_sum {ts : List Tree} (h : ∀ t ∈ ts, Asc t.tell) : Asc (Tree.sum ts).tell := by
  rw [tell_sum]
  refine ((lit_asc (by decide +kernel)).app (join_asc (lit_asc (by decide +kernel)) fun z hz => ?_)).app (lit_asc (by decide +kernel))
  obtain ⟨t, ht, rfl⟩ := List.mem_map.mp hz
  exact h t ht
theorem asc_times {u b : Int} {x : Tree} (h : Asc x.tell) : Asc (Tree.times u b x).tell := by
  rw [Tree.tell]
  exact ((((lit_asc (by decide +kernel)).app (S_asc (fL_small u b))).app (lit_asc (by decide +kernel))).app h).app (lit_asc (by decide +kernel))
theorem asc_shown {t : Tree} (h : Asc t.tell) : Asc t.shown := ((lit_asc (by decide +kernel)).app h).app (lit_asc (by decide +kernel))
theorem len_shown {t : Tree} {n : Nat} (h : t.tell.length ≤ n) : t.shown.length ≤ n + 8 := by
  show (("Signal(" : Str) ++ t.tell ++ (")" : Str)).length ≤ _
  rw [str_len, str_len, show ("Signal(" : Str).length = 7 from rfl, show (")" : Str).length = 1 from rfl]
  omega
theorem gainI {b : Int} (h1 : 1 ≤ b) (h6 : b ≤ 6) : GainOk b 1 := ⟨by decide, by simp, by omega, by decide⟩
theorem gainm1 : GainOk (-1) 1 := ⟨by decide, by decide, by decide, by decide⟩
/-- an expression with it alone inside is too large -/
def Lim (t : Tree) (i : Int) : Prop := (i = 12 ∧ 12 < 1 + t.parts) ∨ (i = 5 ∧ 1 + t.parts ≤ 12 ∧ 5 < 1 + t.deep)
theorem over_of {K : Fr} {H : Hp} {E : XK} {t : Tree} {i : Int} (h : Lim t i) (bad : Bad "TooMany" "limit" K H E (.int i)) : Over K H E [t] := by
  rcases h with ⟨rfl, h⟩ | ⟨rfl, h1, h2⟩
  · exact .inl ⟨by simpa using h, bad⟩
  · exact .inr ⟨by simpa using h1, by simpa [maxL] using h2, bad⟩
section
variable {P : Program} {w : World} {K : Fr} {mg : Str → Option Value} {base : Heap}
def spNegS (K : Fr) : Sp := fun vs H Q _ => ∃ (d : Nat) (t : Tree) (x : Addr), vs = [.ref x] ∧ SigAt K H d t x ∧ (Tree.times (-1) 1 t).parts ≤ 12 ∧ (Tree.times (-1) 1 t).deep ≤ 5 ∧ (Tree.times (-1) 1 t).tell.length ≤ 1000000 ∧
  ∀ p H', Same H H' → SigAt K H' (d + 1) (.times (-1) 1 t) p → Q (.ref p) H'
theorem f_sgneg (T : Tx K mg) : ∃ fd, DAt K d_Signal_neg fd ∧ FnOk P w K mg base CX0 8 (d_Signal_neg.ad K) fd ["self"] (spNegS K) := by
  obtain ⟨fd, D⟩ := a_Signal_neg T.c
  obtain ⟨ft, D_Times, F_Times⟩ := f_tminit (P := P) (w := w) (base := base) T
  refine ⟨fd, D, ok_of (k := 7) (N := ["self"]) D sc_Signal_neg (fun vs H Q E h => ?_) (fun cdv A outer s H vs Q E hr h => ?_)⟩
  · obtain ⟨d, t, x, rfl, _⟩ := h
    rfl
  · obtain ⟨d, t, x, rfl, sg, p12, d5, tl, k⟩ := h
    refine ⟨_, pss_one (ps_ret (pe_make (mk_Times T) F_Times hr rfl (g_Times T) (b_Times D_Times) .nil pass0 (pa_cons (pe_un un_neg pe_int) (pa_cons (pv 0) pa_nil)))), ?_⟩
    refine ⟨1, rfl, _, rfl, ?_⟩
    have m := make_times (Q := Q) (y := .int (-1)) (u := -1) (b := 1) (c := x) (.inr ⟨rfl, rfl⟩) gainm1 sg p12 d5 tl k
    exact m
def spMulX (K : Fr) : Sp := fun vs H _ E => ∃ (x : Addr) (y : V), vs = [.ref x, y] ∧ BadGain K H y ∧ Bad "InvalidGain" "value" K H E y
theorem f_sgmulX (T : Tx K mg) : ∃ fd, DAt K d_Signal_mul fd ∧ FnOk P w K mg base (L2N.CX P w) 8 (d_Signal_mul.ad K) fd ["self", "other"] (spMulX K) := by
  obtain ⟨fd, D⟩ := a_Signal_mul T.c
  obtain ⟨ft, XD_Times, X_Times⟩ := f_tmX (P := P) (w := w) (base := base) T
  refine ⟨fd, D, okn_of (k := 7) (N := ["self", "other"]) D sc_Signal_mul (fun vs H Q E h => ?_) (fun cdv A outer s H vs Q E hr h => ?_)⟩
  · obtain ⟨x, y, rfl, _⟩ := h
    rfl
  · obtain ⟨x, y, rfl, bg, bad⟩ := h
    refine ⟨_, pss_one (ps_ret (pe_make (E := E) (mk_Times T) X_Times hr rfl (g_Times T) (b_Times XD_Times) .nil (L2N.passes_call tk0 (fun _ _ _ _ z => z)) (pa_cons (pv 1) (pa_cons (pv 0) pa_nil)))), ?_⟩
    exact ⟨_, rfl, _, rfl, x_gain bg bad⟩
theorem own_neg (T : Tx K mg) : Own K (He.ga K "Sum") "__neg__" (d_Signal_neg.ad K) := by
  have c1 : tMeth "Sum" "__neg__" K = true := tAll_at (f_neg_Sum T.c) 0
  have c2 := of_decide_eq_true (show tSame "Sum" "Signal" "__neg__" K = true from tAll_at (f_neg_Sum T.c) 1)
  have p := own_ok c1
  unfold mAd at p
  rw [c2] at p
  exact p
theorem bin_mul (T : Tx K mg) : BinF K (He.ga K "Every") "mul" (d_Signal_mul.ad K) := by
  have c2 := of_decide_eq_true (f_same_Every_mul T.c)
  have p := bin_ok (f_bin_Every_mul T.c)
  have e : mAd "Every" (PySem.dunder "mul") K = d_Signal_mul.ad K := c2
  rw [e] at p
  exact p
end
end K11

namespace K11
open PySem PySem.Spec PyProof.Rows L2 Hk NumM NumT SX L2H LamX
abbrev tN (l : List Nat) : Tree := .name l
abbrev tLt (l : List Nat) (b : Int) : Tree := .pair 2 (tN l) b
abbrev tTm (l : List Nat) (b : Int) : Tree := .times b 1 (tLt l b)
abbrev tSp (l : List Nat) (b : Int) : Tree := .pair 1 (tTm l b) b
abbrev tD (l : List Nat) (b : Int) : Tree := .pair 0 (tSp l b) b
abbrev t5 (l : List Nat) : Tree := .sum [tN l, tN l, tN l, tN l, tN l]
abbrev t3 (l : List Nat) : Tree := .sum [tN l, tN l, tN l]
abbrev t4 (l : List Nat) : Tree := .sum [tN l, tN l, tN l, tN l]
abbrev t11 (l : List Nat) : Tree := .sum [t5 l, t3 l]
abbrev t12 (l : List Nat) : Tree := .sum [t5 l, t4 l]
structure LF (K : Fr) (a : Addr) (n : Nat) (m : Addr) (l : List Nat) (b : Int) (pd p11 p12 : Addr) (y : V) (zy : Str) (H : Hp) : Prop where
  S : SrcAt a n H
  T : Tabs (TR K) H
  sm : SigAt K H 1 (tN l) m
  sd : SigAt K H 5 (tD l b) pd
  s11 : SigAt K H 3 (t11 l) p11
  s12 : SigAt K H 3 (t12 l) p12
  yo : OddAt K H a y zy
section
variable {K : Fr} {a m pd p11 p12 : Addr} {n : Nat} {l : List Nat} {b : Int} {y : V} {zy : Str} {H H' : Hp}
theorem LF.kp {n' : Nat} (F : LF K a n m l b pd p11 p12 y zy H) (k : Kp a H H') (s : SrcAt a n' H') (t : Tabs (TR K) H') : LF K a n' m l b pd p11 p12 y zy H' :=
  ⟨s, t, sig_kp F.sm F.S k, sig_kp F.sd F.S k, sig_kp F.s11 F.S k, sig_kp F.s12 F.S k, F.yo.kp F.S k⟩
theorem LF.ext (F : LF K a n m l b pd p11 p12 y zy H) (e : ExtN H H') (t : Tabs (TR K) H') : LF K a n m l b pd p11 p12 y zy H' := F.kp (Kp.ext e) (src_ext F.S e) t
theorem LF.same (F : LF K a n m l b pd p11 p12 y zy H) (s : Same H H') : LF K a n m l b pd p11 p12 y zy H' := F.kp (Kp.same s) (F.S.same s) (F.T.ext s)
theorem LF.put (F : LF K a n m l b pd p11 p12 y zy H) {p : Addr} {o : HO} (np : H p = none) : LF K a n m l b pd p11 p12 y zy (upd H p o) := F.same (same_upd np)
end
theorem sigs_nil {K : Fr} {H : Hp} {d : Nat} : SigsAt K H d [] [] := ⟨rfl, fun i y c h => by simp at h⟩
theorem sigs_cons {K : Fr} {H : Hp} {d : Nat} {t : Tree} {x : Addr} {ts : List Tree} {xs : List Addr} (h : SigAt K H d t x) (r : SigsAt K H d ts xs) : SigsAt K H d (t :: ts) (x :: xs) := ⟨by rw [List.length_cons, List.length_cons, r.1], fun i y c h1 h2 => by
  cases i with
  | zero =>
    cases h1
    cases h2
    exact h
  | succ i => exact r.2 i y c h1 h2⟩
theorem at_sig {K : Fr} {mg : Str → Option Value} (T : Tx K mg) {H : Hp} {d : Nat} {t : Tree} {p : Addr} {f : Str} {F : Tree → V} {v : V} {Q : VK} (J : SigAt K H d t p) (hf : f ∈ PL) (hv : F t = v) (q : Q v H) :
    ∃ (C a dx : Addr) (fs : List (Str × V)), V.ref p = .ref a ∧ H a = some (.ins C dx fs) ∧ Cls K C ∧ PropOf K C f (He.ma K (He.ga K "Signal") f) (getAd "Signal" f K) ∧ spSg K F [.ref a] H Q E0 := by
  obtain ⟨dx, fs, h⟩ := sig_in J
  exact ⟨_, p, dx, fs, rfl, h, cl_of T t, sub_prop (sub_of T t) hf, d, t, p, rfl, J, by rw [hv]; exact q⟩
theorem limD {l : List Nat} {b : Int} : Lim (tD l b) 5 := .inr ⟨rfl, by simp [parts_eq, Tree.kids], by simp [deep_eq, Tree.kids, maxL]⟩
theorem lim12 {l : List Nat} : Lim (t12 l) 12 := .inl ⟨rfl, by simp [parts_eq, Tree.kids]⟩
section
variable {P : Program} {w : World} {K : Fr} {mg : Str → Option Value} {base : Heap}
abbrev N_limits : List Str := ["_law_source_here", "_law_mate", "_law_by", "_law_deep", "_law_five", "_law_eleven", "_law_twelve", "_law_base", "_law_limit", "_law_found", "_law_wrong"]
theorem c_limits (T : Tx K mg) (TB : TabB base mg (cOf d_l_limits_right K) (pOf d_l_limits_right K)) : CalG P w K mg base 11 "_law_limits_right" (gAd "_law_limits_right" K) ["_law_source_here"] (spChk K) := by
  have C_l_pick := c_pick (P := P) (w := w) (base := base) T
  have C_l_tag := c_tag (P := P) (w := w) (base := base) T
  have C_l_odd := c_odd (P := P) (w := w) (base := base) T
  obtain ⟨fdN, D_Name, F_Name⟩ := f_nminit (P := P) (w := w) (base := base) T
  obtain ⟨fdT, D_Times, F_Times⟩ := f_tminit (P := P) (w := w) (base := base) T
  obtain ⟨fdL, D_Late, F_Late⟩ := f_ltinit (P := P) (w := w) (base := base) T
  obtain ⟨fdE, D_Every, F_Every⟩ := f_evinit (P := P) (w := w) (base := base) T
  obtain ⟨fdS, D_Spread, F_Spread⟩ := f_spinit (P := P) (w := w) (base := base) T
  have F_Sum := f_sminit (P := P) (w := w) (base := base) T
  obtain ⟨xt, XD_Times, X_Times⟩ := f_tmX (P := P) (w := w) (base := base) T
  obtain ⟨xl, XD_Late, X_Late⟩ := f_ltX (P := P) (w := w) (base := base) T
  obtain ⟨xe, XD_Every, X_Every⟩ := f_evX (P := P) (w := w) (base := base) T
  obtain ⟨xs, XD_Spread, X_Spread⟩ := f_spX (P := P) (w := w) (base := base) T
  have X_Sum := f_smX (P := P) (w := w) (base := base) T
  obtain ⟨fng, D_neg, F_neg⟩ := f_sgneg (P := P) (w := w) (base := base) T
  obtain ⟨fml, D_mul, X_mul⟩ := f_sgmulX (P := P) (w := w) (base := base) T
  have b_neg : Binds K fng ["self"] [] := FunD.bindsN D_neg fun _ _ _ _ _ _ us hl => match us, hl with | [_], _ => rfl
  have b_mul : Binds K fml ["self", "other"] [] := FunD.bindsN D_mul fun _ _ _ _ _ _ us hl => match us, hl with | [_, _], _ => rfl
  obtain ⟨fp, Dpp, Fp⟩ := f_sgparts (P := P) (w := w) (base := base) T
  obtain ⟨fe, De, Fe⟩ := f_sgdepth (P := P) (w := w) (base := base) T
  have bp : Binds K fp ["self"] [] := FunD.bindsN Dpp fun _ _ _ _ _ _ us hl => match us, hl with | [_], _ => rfl
  have be : Binds K fe ["self"] [] := FunD.bindsN De fun _ _ _ _ _ _ us hl => match us, hl with | [_], _ => rfl
  obtain ⟨ft, Dt⟩ := a_l_caught T.c
  refine calg_c (d := d_l_limits_right) (N := N_limits) (a_l_limits_right T.c) rfl sc_l_limits_right (g_l_limits_right T) (fun _ _ _ _ _ _ us hl => match us, hl with | [_], _ => rfl) (fun vs H Q E h => ?_) (fun A outer s H vs Q E hr hc h => ?_)
  · obtain ⟨a, n, rfl, _⟩ := h
    rfl
  · obtain ⟨a, n, rfl, hs, hn, hT, k⟩ := h
    refine ⟨_, (pss_cons (ps_asg (pe_tup (pa_cons (pe_make (mk_Name T) F_Name (hr.mono (by decide)) rfl (g_Name T) (b_Name D_Name) .nil pass0 (pa_cons (pe_c C_l_tag (hr.mono (by decide)) (pa_cons (pv 0) pa_nil)) pa_nil)) (pa_cons (pe_op op_add pe_int (pe_c C_l_pick (hr.mono (by decide)) (pa_cons (pv 0) (pa_cons pe_int pa_nil)))) pa_nil))) (pg_tup (by rfl) (pgs_cons (pg_name (i := 1) sc_l_limits_right.nd rfl (.inr rfl)) (pgs_cons (pg_name (i := 2) sc_l_limits_right.nd rfl (.inr rfl)) pgs_nil))))
 (pss_cons (ps_set (i := 3) sc_l_limits_right.nd rfl (.inr rfl) (pe_make (mk_Every T) F_Every (hr.mono (by decide)) rfl (g_Every T) (b_Every D_Every) .nil pass0 (pa_cons (pe_make (mk_Spread T) F_Spread (hr.mono (by decide)) rfl (g_Spread T) (b_Spread D_Spread) .nil pass0 (pa_cons (pe_make (mk_Times T) F_Times (hr.mono (by decide)) rfl (g_Times T) (b_Times D_Times) .nil pass0 (pa_cons (pv 2) (pa_cons (pe_make (mk_Late T) F_Late (hr.mono (by decide)) rfl (g_Late T) (b_Late D_Late) .nil pass0 (pa_cons (pv 1) (pa_cons (pv 2) pa_nil))) pa_nil))) (pa_cons (pv 2) pa_nil))) (pa_cons (pv 2) pa_nil))))
 (pss_cons (ps_set (i := 4) sc_l_limits_right.nd rfl (.inl rfl) (StX.pe_makeR (mkSm T) F_Sum (hr.mono (by decide)) rfl (g_Sum T) pass0 (pa_cons (pv 1) (pa_cons (pv 1) (pa_cons (pv 1) (pa_cons (pv 1) (pa_cons (pv 1) pa_nil)))))))
 (pss_cons (ps_asg (pe_tup (pa_cons (StX.pe_makeR (mkSm T) F_Sum (hr.mono (by decide)) rfl (g_Sum T) pass0 (pa_cons (pv 4) (pa_cons (StX.pe_makeR (mkSm T) F_Sum (hr.mono (by decide)) rfl (g_Sum T) pass0 (pa_cons (pv 1) (pa_cons (pv 1) (pa_cons (pv 1) pa_nil)))) pa_nil))) (pa_cons (StX.pe_makeR (mkSm T) F_Sum (hr.mono (by decide)) rfl (g_Sum T) pass0 (pa_cons (pv 4) (pa_cons (StX.pe_makeR (mkSm T) F_Sum (hr.mono (by decide)) rfl (g_Sum T) pass0 (pa_cons (pv 1) (pa_cons (pv 1) (pa_cons (pv 1) (pa_cons (pv 1) pa_nil))))) pa_nil))) pa_nil))) (pg_tup (by rfl) (pgs_cons (pg_name (i := 5) sc_l_limits_right.nd rfl (.inr rfl)) (pgs_cons (pg_name (i := 6) sc_l_limits_right.nd rfl (.inr rfl)) pgs_nil))))
 (pss_cons (ps_if (pt_cmpR (op_neD hr.units) (pe_lst (pa_cons (pe_propA (p := He.ma K (He.ga K "Signal") "depth") (pv 3) Fe (hr.mono (by decide)) be) (pa_cons (pe_propA (p := He.ma K (He.ga K "Signal") "parts") (pv 3) Fp (hr.mono (by decide)) bp) (pa_cons (pe_propA (p := He.ma K (He.ga K "Signal") "parts") (pv 5) Fp (hr.mono (by decide)) bp) (pa_cons (pe_propA (p := He.ma K (He.ga K "Signal") "parts") (pv 6) Fp (hr.mono (by decide)) bp) (pa_cons (pe_propA (p := He.ma K (He.ga K "Signal") "depth") (pv 6) Fe (hr.mono (by decide)) be) pa_nil)))))) (pe_lst (pa_cons pe_int (pa_cons pe_int (pa_cons pe_int (pa_cons pe_int (pa_cons pe_int pa_nil)))))) (nomark _))
 (pss_one (ps_ret pe_bl))
 pss_nil)
 (pss_cons (ps_for PassesOwn.never rfl (pi_list (pe_lst (pa_cons (pe_tup (pa_cons (pv 3) (pa_cons pe_str pa_nil))) (pa_cons (pe_tup (pa_cons (pv 6) (pa_cons pe_str pa_nil))) pa_nil)))) (pg_tup (by rfl) (pgs_cons (pg_name (i := 7) sc_l_limits_right.nd rfl (.inr rfl)) (pgs_cons (pg_name (i := 8) sc_l_limits_right.nd rfl (.inl rfl)) pgs_nil)))
 (pss_cons (ps_set (i := 9) sc_l_limits_right.nd rfl (.inl rfl) (pe_lst (pa_cons (pe_caught (i := 3) T rfl TB hr hc Dt (lamS_by (by decide +kernel)) rfl (fun _ _ _ _ _ => rfl) (fun A outer s H E f c' hr' => (StX.pe_makeR (E := E) (mkSm T) X_Sum (hr'.mono (by decide)) rfl (g_Sum T) (L2N.passes_call takes_lam (fun _ _ _ _ z => z)) (pa_cons (pv 7) pa_nil)))) (pa_cons (pe_caught (i := 3) T rfl TB hr hc Dt (lamS_by (by decide +kernel)) rfl (fun _ _ _ _ _ => rfl) (fun A outer s H E f c' hr' => (pe_make (E := E) (mk_Times T) X_Times (hr'.mono (by decide)) rfl (g_Times T) (b_Times XD_Times) .nil (L2N.passes_call takes_lam (fun _ _ _ _ z => z)) (pa_cons (pv 2) (pa_cons (pv 7) pa_nil))))) pa_nil))))
 (pss_cons (ps_set (i := 9) sc_l_limits_right.nd rfl (.inl rfl) (pe_op op_cat (pv 9) (pe_lst (pa_cons (pe_caught (i := 3) T rfl TB hr hc Dt (lamS_by (by decide +kernel)) rfl (fun _ _ _ _ _ => rfl) (fun A outer s H E f c' hr' => (pe_make (E := E) (mk_Late T) X_Late (hr'.mono (by decide)) rfl (g_Late T) (b_Late XD_Late) .nil (L2N.passes_call takes_lam (fun _ _ _ _ z => z)) (pa_cons (pv 7) (pa_cons (pv 2) pa_nil))))) (pa_cons (pe_caught (i := 3) T rfl TB hr hc Dt (lamS_by (by decide +kernel)) rfl (fun _ _ _ _ _ => rfl) (fun A outer s H E f c' hr' => (pe_make (E := E) (mk_Every T) X_Every (hr'.mono (by decide)) rfl (g_Every T) (b_Every XD_Every) .nil (L2N.passes_call takes_lam (fun _ _ _ _ z => z)) (pa_cons (pv 7) (pa_cons (pv 2) pa_nil))))) pa_nil)))))
 (pss_cons (ps_expr (pe_bm PySem.F.plainAttrs_list PySem.F.slot_list_append PySem.F.type_list_append mt_append (pv 9) (pa_cons (pe_caught (i := 3) T rfl TB hr hc Dt (lamS_by (by decide +kernel)) rfl (fun _ _ _ _ _ => rfl) (fun A outer s H E f c' hr' => (pe_make (E := E) (mk_Spread T) X_Spread (hr'.mono (by decide)) rfl (g_Spread T) (b_Spread XD_Spread) .nil (L2N.passes_call takes_lam (fun _ _ _ _ z => z)) (pa_cons (pv 7) (pa_cons (pv 2) pa_nil))))) pa_nil)))
 (pss_one (ps_if (pt_cmpR (op_neD hr.units) (pv 9) (pe_op op_rep (pe_lst (pa_cons (pe_lst (pa_cons pe_str (pa_cons (pv 8) pa_nil))) pa_nil)) pe_int) (nomark _))
 (pss_one (ps_ret pe_bl))
 pss_nil))))))
 (pss_cons (ps_set (i := 9) sc_l_limits_right.nd rfl (.inl rfl) (pe_lst (pa_cons (pe_caught (i := 3) T rfl TB hr hc Dt (lamS_by (by decide +kernel)) rfl (fun _ _ _ _ _ => rfl) (fun A outer s H E f c' hr' => (StX.pe_makeR (E := E) (mkSm T) X_Sum (hr'.mono (by decide)) rfl (g_Sum T) (L2N.passes_call takes_lam (fun _ _ _ _ z => z)) (pa_cons (pv 3) (pa_cons (pv 6) pa_nil))))) (pa_cons (pe_caught (i := 3) T rfl TB hr hc Dt (lamS_by (by decide +kernel)) rfl (fun _ _ _ _ _ => rfl) (fun A outer s H E f c' hr' => (StX.pe_makeR (E := E) (mkSm T) X_Sum (hr'.mono (by decide)) rfl (g_Sum T) (L2N.passes_call takes_lam (fun _ _ _ _ z => z)) (pa_cons (pv 5) (pa_cons (pv 1) pa_nil))))) pa_nil))))
 (pss_cons (ps_expr (pe_bm PySem.F.plainAttrs_list PySem.F.slot_list_append PySem.F.type_list_append mt_append (pv 9) (pa_cons (pe_caught (i := 3) T rfl TB hr hc Dt (lamS_by (by decide +kernel)) rfl (fun _ _ _ _ _ => rfl) (fun A outer s H E f c' hr' => (pe_un (op_negO (own_neg T) F_neg b_neg hr') (pv 5)))) pa_nil)))
 (pss_cons (ps_if (pt_cmpR (op_neD hr.units) (pe_lst (pa_cons (pe_ix ix_list (pv 9) pe_int (fun _ _ => rfl)) (pa_cons (pe_ix ix_list (pv 9) pe_int (fun _ _ => rfl)) (pa_cons (pe_ix ix_list (pe_ix ix_list (pv 9) pe_int (fun _ _ => rfl)) pe_int (fun _ _ => rfl)) pa_nil)))) (pe_lst (pa_cons (pe_lst (pa_cons pe_str (pa_cons pe_str pa_nil))) (pa_cons (pe_lst (pa_cons pe_str (pa_cons pe_str pa_nil))) (pa_cons pe_str pa_nil)))) (nomark _))
 (pss_one (ps_ret pe_bl))
 pss_nil)
 (pss_cons (ps_set (i := 10) sc_l_limits_right.nd rfl (.inr rfl) (pe_c C_l_odd (hr.mono (by decide)) (pa_cons (pv 0) (pa_cons (pv 1) pa_nil))))
 (pss_cons (ps_if (pt_cmpR (op_neD hr.units) (pe_caught (i := 3) T rfl TB hr hc Dt (lamS_by (by decide +kernel)) rfl (fun _ _ _ _ _ => rfl) (fun A outer s H E f c' hr' => (StX.pe_makeR (E := E) (mkSm T) X_Sum (hr'.mono (by decide)) rfl (g_Sum T) (L2N.passes_call takes_lam (fun _ _ _ _ z => z)) (pa_cons (pv 6) (pa_cons (pv 10) pa_nil))))) (pe_lst (pa_cons pe_str (pa_cons pe_str pa_nil))) (nomark _))
 (pss_one (ps_ret pe_bl))
 pss_nil)
 (pss_cons (ps_set (i := 9) sc_l_limits_right.nd rfl (.inl rfl) (pe_lst (pa_cons (pe_caught (i := 3) T rfl TB hr hc Dt (lamS_by (by decide +kernel)) rfl (fun _ _ _ _ _ => rfl) (fun A outer s H E f c' hr' => (pe_make (E := E) (mk_Late T) X_Late (hr'.mono (by decide)) rfl (g_Late T) (b_Late XD_Late) .nil (L2N.passes_call takes_lam (fun _ _ _ _ z => z)) (pa_cons (pv 3) (pa_cons pe_int pa_nil))))) (pa_cons (pe_caught (i := 3) T rfl TB hr hc Dt (lamS_by (by decide +kernel)) rfl (fun _ _ _ _ _ => rfl) (fun A outer s H E f c' hr' => (pe_make (E := E) (mk_Every T) X_Every (hr'.mono (by decide)) rfl (g_Every T) (b_Every XD_Every) .nil (L2N.passes_call takes_lam (fun _ _ _ _ z => z)) (pa_cons (pv 6) (pa_cons pe_int pa_nil))))) (pa_cons (pe_caught (i := 3) T rfl TB hr hc Dt (lamS_by (by decide +kernel)) rfl (fun _ _ _ _ _ => rfl) (fun A outer s H E f c' hr' => pe_op (op_binX (op := .Mult) (E := E) (bin_mul T) X_mul b_mul hr' (fun σ => L2N.passAt takes_lam σ) : OpR _ _ (rBinX K (He.ga K "Every") "mul" (spMulX K) E)) (pv 3) pe_int)) pa_nil)))))
 (pss_one (ps_ret (pe_cmpR (op_eqD hr.units) (pv 9) (pe_lst (pa_cons (pe_lst (pa_cons pe_str (pa_cons pe_str pa_nil))) (pa_cons (pe_lst (pa_cons pe_str (pa_cons pe_str pa_nil))) (pa_cons (pe_lst (pa_cons pe_str (pa_cons pe_str pa_nil))) pa_nil)))) (nomark _)))))))))))))))), ?_⟩
    refine ⟨_, rfl, a, n, rfl, hs, by omega, fun l H1 nm o1 s1 => ?_⟩
    refine fun m dm nx nd ne => ⟨m, dm, l, rfl, upd_same, nm, fun H2 om sgs => ⟨rfl, ?_⟩⟩
    have e2 : Same H1 H2 := old_same nx (same_new nx nd) om
    have sg : SigAt K H2 1 (tN l) m := sgs 0
    have k2 : Kp a H H2 := (Kp.old o1).trans (Kp.same e2)
    have S2 := s1.same e2
    have T2 : Tabs (TR K) H2 := (tabs_old hT hs o1).ext e2
    have az : Asc (Tree.name l).shown := shown_name_asc nm
    have lz : (Tree.name l).shown.length ≤ 2000 := shown_name_len nm
    have ln := name_len nm
    refine ⟨_, rfl, a, 6, n + 10, rfl, S2, by omega, by decide, by decide, fun v H3 v0 v1 o3 S3 => ⟨_, _, rfl, rfl, ?_⟩⟩
    refine ⟨(by show 2 ≤ sizeLine; decide), fun tp ntp => ⟨tp, [.ref m, .int (1 + v)], rfl, .inl (.inl upd_same), rfl, .ref m, [.int (1 + v)], rfl, .int (1 + v), [], rfl, rfl, ?_⟩⟩
    have wt := same_upd (o := HO.tup [.ref m, .int (1 + v)]) ntp
    generalize hG : upd H3 tp (HO.tup _) = H4 at wt ⊢
    clear hG ntp
    obtain ⟨b, hb⟩ : ∃ b : Int, b = 1 + v := ⟨_, rfl⟩
    rw [← hb]
    have b1 : 1 ≤ b := by omega
    have b6 : b ≤ 6 := by omega
    clear hb
    have k4 : Kp a H H4 := (k2.trans (Kp.old o3)).trans (Kp.same wt)
    have S4 := S3.same wt
    have T4 : Tabs (TR K) H4 := (tabs_old T2 S2 o3).ext wt
    have sm4 := (sig_kp sg S2 (Kp.old o3)).same wt
    clear wt o3 S3 T2 S2 k2 sg e2 om sgs o1 s1 nx nd ne v0 v1
    have lN : (tN l).tell.length ≤ 8 := ln
    have lL : (tLt l b).tell.length ≤ 328 := Nat.le_trans (pair_len (by omega) b6) (by omega)
    have lT : (tTm l b).tell.length ≤ 948 := Nat.le_trans (times_len (gainI b1 b6)) (by omega)
    have lS : (tSp l b).tell.length ≤ 1268 := Nat.le_trans (pair_len (by omega) b6) (by omega)
    have lD : (tD l b).tell.length ≤ 1588 := Nat.le_trans (pair_len (by omega) b6) (by omega)
    have all8 : ∀ ts : List Tree, (∀ t ∈ ts, t = tN l) → ∀ t ∈ ts, t.tell.length ≤ 8 := fun ts h t ht => by
      rw [h t ht]
      exact lN
    have l5 : (t5 l).tell.length ≤ 60 := Nat.le_trans (sum_len (B := 8) (by simp) (all8 _ (by simp))) (by decide)
    have l3 : (t3 l).tell.length ≤ 60 := Nat.le_trans (sum_len (B := 8) (by simp) (all8 _ (by simp))) (by decide)
    have l4 : (t4 l).tell.length ≤ 60 := Nat.le_trans (sum_len (B := 8) (by simp) (all8 _ (by simp))) (by decide)
    have l11 : (t11 l).tell.length ≤ 320 := Nat.le_trans (sum_len (B := 60) (by simp) (fun t ht => by
      rcases List.mem_cons.mp ht with rfl | ht
      · exact l5
      · rw [List.mem_singleton.mp ht]
        exact l3)) (by decide)
    have l12 : (t12 l).tell.length ≤ 320 := Nat.le_trans (sum_len (B := 60) (by simp) (fun t ht => by
      rcases List.mem_cons.mp ht with rfl | ht
      · exact l5
      · rw [List.mem_singleton.mp ht]
        exact l4)) (by decide)
    have shN : ∀ G : Hp, Shows K G .non "None" := fun G => by
      have e : (PyData.none).shown = ("None" : Str) := PyData.shown_none
      rw [← e]
      exact .flat .non txt_non
    have S0 := S4
    have T0 := T4
    have kk0 := k4
    have fm := sm4
    clear S4 T4 k4 sm4
    obtain ⟨W0, hW0⟩ : ∃ W0 : Hp, W0 = H4 := ⟨_, rfl⟩
    rw [← hW0] at S0 T0 kk0 fm ⊢
    clear hW0
    refine ⟨_, rfl, _, rfl, _, rfl, fun pl dx nx nd ne => ⟨1, pl, dx, m, tN l, b, rfl, upd_same, fm.same (same_new nx nd), by omega, b6, fun _ => b1, by simp [parts_eq, Tree.kids], by simp [deep_eq, Tree.kids, maxL], Nat.le_trans lL (by decide), fun W1 om fpl => ⟨rfl, ?_⟩⟩⟩
    have e : Same W0 W1 := old_same nx (same_new nx nd) om
    have S1 := S0.same e
    have T1 := T0.ext e
    have kk1 := kk0.trans (Kp.same (a := a) e)
    have fm := fm.same e
    clear e S0 T0 kk0
    clear om nx nd ne
    refine fun pt dx nx nd ne => ⟨2, pt, dx, pl, tLt l b, .int b, b, 1, rfl, upd_same, .inr ⟨rfl, rfl⟩, gainI b1 b6, fpl.same (same_new nx nd), by simp [parts_eq, Tree.kids], by simp [deep_eq, Tree.kids, maxL], Nat.le_trans lT (by decide), fun W2 om fpt => ⟨rfl, ?_⟩⟩
    have e : Same W1 W2 := old_same nx (same_new nx nd) om
    have S2 := S1.same e
    have T2 := T1.ext e
    have kk2 := kk1.trans (Kp.same (a := a) e)
    have fm := fm.same e
    have fpl := fpl.same e
    clear e S1 T1 kk1
    clear om nx nd ne
    refine ⟨_, rfl, fun ps dx nx nd ne => ⟨3, ps, dx, pt, tTm l b, b, rfl, upd_same, fpt.same (same_new nx nd), by omega, b6, fun _ => b1, by simp [parts_eq, Tree.kids], by simp [deep_eq, Tree.kids, maxL], Nat.le_trans lS (by decide), fun W3 om fps => ⟨rfl, ?_⟩⟩⟩
    have e : Same W2 W3 := old_same nx (same_new nx nd) om
    have S3 := S2.same e
    have T3 := T2.ext e
    have kk3 := kk2.trans (Kp.same (a := a) e)
    have fm := fm.same e
    have fpl := fpl.same e
    have fpt := fpt.same e
    clear e S2 T2 kk2
    clear om nx nd ne
    refine ⟨_, rfl, fun pd dx nx nd ne => ⟨4, pd, dx, ps, tSp l b, b, rfl, upd_same, fps.same (same_new nx nd), by omega, b6, fun _ => b1, by simp [parts_eq, Tree.kids], by simp [deep_eq, Tree.kids, maxL], Nat.le_trans lD (by decide), fun W4 om fpd => ⟨rfl, ?_⟩⟩⟩
    have e : Same W3 W4 := old_same nx (same_new nx nd) om
    have S4 := S3.same e
    have T4 := T3.ext e
    have kk4 := kk3.trans (Kp.same (a := a) e)
    have fm := fm.same e
    have fpl := fpl.same e
    have fpt := fpt.same e
    have fps := fps.same e
    clear e S3 T3 kk3
    clear om nx nd ne
    refine ⟨_, rfl, _, rfl, _, rfl, _, rfl, _, rfl, fun p5 dx nx nd ne => ⟨[.ref p5], [.ref m, .ref m, .ref m, .ref m, .ref m], rfl, rfl, (by show 5 ≤ sizeLine; decide), fun p np => ?_⟩⟩
    have s2 := (same_new (C := He.ga K "Sum") nx nd).trans (same_upd (o := HO.tup [V.ref m, V.ref m, V.ref m, V.ref m, V.ref m]) np)
    refine ⟨1, p5, dx, p, [tN l, tN l, tN l, tN l, tN l], [m, m, m, m, m], rfl, same_upd np _ _ upd_same, upd_same, (sigs_cons (fm.same s2) (sigs_cons (fm.same s2) (sigs_cons (fm.same s2) (sigs_cons (fm.same s2) (sigs_cons (fm.same s2) sigs_nil))))), by simp, by simp, by simp [parts_eq, Tree.kids], by simp [deep_eq, Tree.kids, maxL], Nat.le_trans l5 (by decide), fun W5 om fp5 => ⟨rfl, ?_⟩⟩
    have e : Same W4 W5 := old_same nx s2 om
    have S5 := S4.same e
    have T5 := T4.ext e
    have kk5 := kk4.trans (Kp.same (a := a) e)
    have fm := fm.same e
    have fpl := fpl.same e
    have fpt := fpt.same e
    have fps := fps.same e
    have fpd := fpd.same e
    clear e S4 T4 kk4
    clear om nx nd ne s2 np
    refine ⟨_, rfl, _, rfl, _, rfl, _, rfl, fun p3 dx nx nd ne => ⟨[.ref p3], [.ref m, .ref m, .ref m], rfl, rfl, (by show 3 ≤ sizeLine; decide), fun p np => ?_⟩⟩
    have s2 := (same_new (C := He.ga K "Sum") nx nd).trans (same_upd (o := HO.tup [V.ref m, V.ref m, V.ref m]) np)
    refine ⟨1, p3, dx, p, [tN l, tN l, tN l], [m, m, m], rfl, same_upd np _ _ upd_same, upd_same, (sigs_cons (fm.same s2) (sigs_cons (fm.same s2) (sigs_cons (fm.same s2) sigs_nil))), by simp, by simp, by simp [parts_eq, Tree.kids], by simp [deep_eq, Tree.kids, maxL], Nat.le_trans l3 (by decide), fun W6 om fp3 => ⟨rfl, ?_⟩⟩
    have e : Same W5 W6 := old_same nx s2 om
    have S6 := S5.same e
    have T6 := T5.ext e
    have kk6 := kk5.trans (Kp.same (a := a) e)
    have fm := fm.same e
    have fpl := fpl.same e
    have fpt := fpt.same e
    have fps := fps.same e
    have fpd := fpd.same e
    have fp5 := fp5.same e
    clear e S5 T5 kk5
    clear om nx nd ne s2 np
    refine fun p11 dx nx nd ne => ⟨[.ref p11], [.ref p5, .ref p3], rfl, rfl, (by show 2 ≤ sizeLine; decide), fun p np => ?_⟩
    have s2 := (same_new (C := He.ga K "Sum") nx nd).trans (same_upd (o := HO.tup [V.ref p5, V.ref p3]) np)
    refine ⟨2, p11, dx, p, [t5 l, t3 l], [p5, p3], rfl, same_upd np _ _ upd_same, upd_same, (sigs_cons (fp5.same s2) (sigs_cons (fp3.same s2) sigs_nil)), by simp, by simp, by simp [parts_eq, Tree.kids], by simp [deep_eq, Tree.kids, maxL], Nat.le_trans l11 (by decide), fun W7 om fp11 => ⟨rfl, ?_⟩⟩
    have e : Same W6 W7 := old_same nx s2 om
    have S7 := S6.same e
    have T7 := T6.ext e
    have kk7 := kk6.trans (Kp.same (a := a) e)
    have fm := fm.same e
    have fpl := fpl.same e
    have fpt := fpt.same e
    have fps := fps.same e
    have fpd := fpd.same e
    have fp5 := fp5.same e
    have fp3 := fp3.same e
    clear e S6 T6 kk6
    clear om nx nd ne s2 np
    refine ⟨_, rfl, _, rfl, _, rfl, _, rfl, _, rfl, fun p4 dx nx nd ne => ⟨[.ref p4], [.ref m, .ref m, .ref m, .ref m], rfl, rfl, (by show 4 ≤ sizeLine; decide), fun p np => ?_⟩⟩
    have s2 := (same_new (C := He.ga K "Sum") nx nd).trans (same_upd (o := HO.tup [V.ref m, V.ref m, V.ref m, V.ref m]) np)
    refine ⟨1, p4, dx, p, [tN l, tN l, tN l, tN l], [m, m, m, m], rfl, same_upd np _ _ upd_same, upd_same, (sigs_cons (fm.same s2) (sigs_cons (fm.same s2) (sigs_cons (fm.same s2) (sigs_cons (fm.same s2) sigs_nil)))), by simp, by simp, by simp [parts_eq, Tree.kids], by simp [deep_eq, Tree.kids, maxL], Nat.le_trans l4 (by decide), fun W8 om fp4 => ⟨rfl, ?_⟩⟩
    have e : Same W7 W8 := old_same nx s2 om
    have S8 := S7.same e
    have T8 := T7.ext e
    have kk8 := kk7.trans (Kp.same (a := a) e)
    have fm := fm.same e
    have fpl := fpl.same e
    have fpt := fpt.same e
    have fps := fps.same e
    have fpd := fpd.same e
    have fp5 := fp5.same e
    have fp3 := fp3.same e
    have fp11 := fp11.same e
    clear e S7 T7 kk7
    clear om nx nd ne s2 np
    refine fun p12 dx nx nd ne => ⟨[.ref p12], [.ref p5, .ref p4], rfl, rfl, (by show 2 ≤ sizeLine; decide), fun p np => ?_⟩
    have s2 := (same_new (C := He.ga K "Sum") nx nd).trans (same_upd (o := HO.tup [V.ref p5, V.ref p4]) np)
    refine ⟨2, p12, dx, p, [t5 l, t4 l], [p5, p4], rfl, same_upd np _ _ upd_same, upd_same, (sigs_cons (fp5.same s2) (sigs_cons (fp4.same s2) sigs_nil)), by simp, by simp, by simp [parts_eq, Tree.kids], by simp [deep_eq, Tree.kids, maxL], Nat.le_trans l12 (by decide), fun W9 om fp12 => ⟨rfl, ?_⟩⟩
    have e : Same W8 W9 := old_same nx s2 om
    have S9 := S8.same e
    have T9 := T8.ext e
    have kk9 := kk8.trans (Kp.same (a := a) e)
    have fm := fm.same e
    have fpl := fpl.same e
    have fpt := fpt.same e
    have fps := fps.same e
    have fpd := fpd.same e
    have fp5 := fp5.same e
    have fp3 := fp3.same e
    have fp11 := fp11.same e
    have fp4 := fp4.same e
    clear e S8 T8 kk8
    clear om nx nd ne s2 np
    refine ⟨(by show 2 ≤ sizeLine; decide), fun tp ntp => ⟨tp, [.ref p11, .ref p12], rfl, .inl (.inl upd_same), rfl, .ref p11, [.ref p12], rfl, .ref p12, [], rfl, rfl, ?_⟩⟩
    have FX : LF K a (n + 10 + 1) m l b pd p11 p12 .non "None" W9 := ⟨S9, T9, fm, fpd, fp11, fp12, ⟨shN _, (fun z => nomatch z), ⟨_, .base .non, kS_non T⟩⟩⟩
    have F0 := FX.put ntp (o := HO.tup [.ref p11, .ref p12])
    have kk0 := kk9.trans (Kp.same (a := a) (same_upd ntp (o := HO.tup [.ref p11, .ref p12])))
    generalize hG : upd W9 tp (HO.tup [.ref p11, .ref p12]) = V0 at F0 kk0 ⊢
    clear hG ntp FX S9 T9 kk9 fm fpl fpt fps fpd fp5 fp3 fp11 fp4 fp12
    have txtI : ∀ i : Int, (PyData.int i).showable = true → (PyData.int i).shown.length ≤ 2000 → Asc (PyData.int i).shown → ∀ G : Hp, Shows K G (.int i) (PyData.int i).shown := fun i h1 h2 h3 G => .flat (.int i) ⟨h1, by simp [PyData.depth], h2, h3⟩
    refine ⟨_, rfl, at_sig T F0.sd (by simp) (v := .int 5) (by simp [deep_eq, Tree.kids, maxL]) ⟨_, rfl, at_sig T F0.sd (by simp) (v := .int 5) (by simp [parts_eq, Tree.kids, maxL]) ⟨_, rfl, at_sig T F0.s11 (by simp) (v := .int 11) (by simp [parts_eq, Tree.kids, maxL]) ⟨_, rfl, at_sig T F0.s12 (by simp) (v := .int 12) (by simp [parts_eq, Tree.kids, maxL]) ⟨_, rfl, at_sig T F0.s12 (by simp) (v := .int 3) (by simp [deep_eq, Tree.kids, maxL]) ⟨(by show 5 ≤ sizeLine; decide), fun q1 nq1 => ⟨(by show 5 ≤ sizeLine; decide), fun q2 nq2 => ?_⟩⟩⟩⟩⟩⟩⟩
    have f1 := same_upd (o := HO.lst [.int 5, .int 5, .int 11, .int 12, .int 3]) nq1
    have f2 := f1.trans (same_upd (o := HO.lst [.int 5, .int 5, .int 11, .int 12, .int 3]) nq2)
    have dI : ∀ (G : Hp) (q : Addr), G q = some (.lst [.int 5, .int 5, .int 11, .int 12, .int 3]) → Dp K G (.ref q) (.list [.int 5, .int 5, .int 11, .int 12, .int 3]) := fun G q h => .lst (.inl (.inl h)) (.cons (.int _) (.cons (.int _) (.cons (.int _) (.cons (.int _) (.cons (.int _) .nil)))))
    refine ⟨.list [.int 5, .int 5, .int 11, .int 12, .int 3], .list [.int 5, .int 5, .int 11, .int 12, .int 3], dI _ _ ((same_upd (o := HO.lst [.int 5, .int 5, .int 11, .int 12, .int 3]) nq2) _ _ upd_same), dI _ _ upd_same, by decide +kernel, by decide +kernel, ?_⟩
    rw [show PyData.eqv (.list [.int 5, .int 5, .int 11, .int 12, .int 3]) (.list [.int 5, .int 5, .int 11, .int 12, .int 3]) = true from by decide +kernel]
    refine ⟨_, rfl, iteF ?_⟩
    have F1 := F0.same f2
    have kk1 := kk0.trans (Kp.same (a := a) f2)
    generalize hG : upd (upd V0 q1 _) q2 _ = W1 at F1 kk1 ⊢
    clear hG f1 f2 nq1 nq2 dI F0 kk0
    -- the loop
    refine ⟨_, rfl, (by show 2 ≤ sizeLine; decide), fun u1 nu1 => ⟨_, rfl, (by show 2 ≤ sizeLine; decide), fun u2 nu2 => ⟨(by show 2 ≤ sizeLine; decide), fun LL nl => ⟨_, rfl, ⟨_, .inl (.inl upd_same)⟩, ?_⟩⟩⟩⟩
    have g2 := (same_upd (o := HO.tup [.ref p12, .str "12"]) nu2)
    have g3 := (same_upd (o := HO.lst [.ref u1, .ref u2]) nl)
    have f3 := ((same_upd (o := HO.tup [.ref pd, .str "5"]) nu1).trans g2).trans g3
    have F2 := F1.same f3
    have kk2 := kk1.trans (Kp.same (a := a) f3)
    have cu1 := (g2.trans g3) u1 (HO.tup [.ref pd, .str "5"]) upd_same
    have cu2 := g3 u2 (HO.tup [.ref p12, .str "12"]) upd_same
    have dLL : (upd (upd (upd W1 u1 (HO.tup [.ref pd, .str "5"])) u2 (HO.tup [.ref p12, .str "12"])) LL (HO.lst [.ref u1, .ref u2])) LL = some (.lst [.ref u1, .ref u2]) := upd_same
    generalize hG : upd (upd (upd W1 u1 (HO.tup [.ref pd, .str "5"])) u2 (HO.tup [.ref p12, .str "12"])) LL (HO.lst [.ref u1, .ref u2]) = W2 at F2 kk2 cu1 cu2 dLL ⊢
    clear hG f3 g2 g3 nu1 nu2 nl F1 kk1
    refine for_list (a := LL) (xs := [.ref u1, .ref u2]) (fun i σ H' => Kp a H H' ∧ LF K a (n + 10 + 1) m l b pd p11 p12 .non "None" H' ∧ H' LL = some (.lst [.ref u1, .ref u2]) ∧ H' u1 = some (.tup [.ref pd, .str "5"]) ∧ H' u2 = some (.tup [.ref p12, .str "12"]) ∧ ∃ x7 x8 x9, σ = [some (.ref a), some (.ref m), some (.int b), some (.ref pd), some (.ref p5), some (.ref p11), some (.ref p12), x7, x8, x9, none]) ⟨kk2, F2, dLL, cu1, cu2, _, _, _, rfl⟩ (fun i σ H' _ h => .inl (.inl h.2.2.1)) ?_ ?_
    · rintro i x σ W0 hx ⟨kk0, F0, dLL, cu1, cu2, x7, x8, x9, rfl⟩
      have key : ∃ (u pb : Addr) (tb : Tree) (li : Int) (z : Str), x = .ref u ∧ W0 u = some (.tup [.ref pb, .str z]) ∧ Lim tb li ∧ (∀ G : Hp, Shows K G (.int li) z) ∧ tb.tell.length ≤ 2000 ∧ ∀ {G : Hp}, LF K a (n + 10 + 1) m l b pd p11 p12 .non "None" G → SigAt K G 5 tb pb := by
        match i, hx with
        | 0, hx =>
          cases hx
          exact ⟨u1, pd, tD l b, 5, _, rfl, cu1, limD, txtI 5 (by decide +kernel) (by decide +kernel) (lit_asc (by decide +kernel)), Nat.le_trans lD (by decide), fun F => F.sd⟩
        | 1, hx =>
          cases hx
          exact ⟨u2, p12, t12 l, 12, _, rfl, cu2, lim12, txtI 12 (by decide +kernel) (by decide +kernel) (lit_asc (by decide +kernel)), Nat.le_trans l12 (by decide), fun F => F.s12.up.up⟩
        | i + 2, hx => simp at hx
      obtain ⟨u, pb, tb, li, z, rfl, cu, lim, shz, lb_, bs⟩ := key
      have az_ : Asc z := (shz (fun _ => none)).asc
      refine ⟨u, _, rfl, .inl (.inl cu), rfl, .ref pb, [.str z], rfl, .str z, [], rfl, rfl, ?_⟩
      clear cu hx
      refine ⟨F0.T, fun A1 x t => ⟨_, rfl, x_smover (ts := [tb]) (xs := [pb]) (sigs_cons (bs (F0.ext x t)) sigs_nil) (by simp) (by simp) (Nat.le_trans (sum_len (B := 2000) (by simp) (fun t ht => by rw [List.mem_singleton.mp ht]; exact lb_)) (by decide)) (over_of lim (b_many T (shz _) fun B1 l1 s nl => ?_))⟩⟩
      have F1 := ((F0.ext x t).same s).put nl (o := HO.lst [.str "TooMany", .str z])
      have kk1 : Kp a H _ := (kk0.trans (Kp.ext x)).trans (Kp.same (s.trans (same_upd nl (o := HO.lst [.str "TooMany", .str z]))))
      have dLL := (s.trans (same_upd nl (o := HO.lst [.str "TooMany", .str z]))) _ _ (x _ _ dLL (fun ps z => nomatch z))
      have cu1 := (s.trans (same_upd nl (o := HO.lst [.str "TooMany", .str z]))) _ _ (x _ _ cu1 (fun ps z => nomatch z))
      have cu2 := (s.trans (same_upd nl (o := HO.lst [.str "TooMany", .str z]))) _ _ (x _ _ cu2 (fun ps z => nomatch z))
      have c1 : (upd B1 l1 (HO.lst [.str "TooMany", .str z])) l1 = some (HO.lst [.str "TooMany", .str z]) := upd_same
      generalize hG : upd B1 l1 (HO.lst [.str "TooMany", .str z]) = W1 at F1 kk1  dLL cu1 cu2 c1 ⊢
      clear hG nl s t x F0 kk0
      refine ⟨F1.T, fun A2 x t => ⟨_, rfl, _, rfl, x_tmover (u := b) (c := 1) (.inr ⟨rfl, rfl⟩) (gainI b1 b6) (bs (F1.ext x t)) (Nat.le_trans (times_len (gainI b1 b6)) (by omega)) (over_of lim (b_many T (shz _) fun B2 l2 s nl => ?_))⟩⟩
      have F2 := ((F1.ext x t).same s).put nl (o := HO.lst [.str "TooMany", .str z])
      have kk2 : Kp a H _ := (kk1.trans (Kp.ext x)).trans (Kp.same (s.trans (same_upd nl (o := HO.lst [.str "TooMany", .str z]))))
      have dLL := (s.trans (same_upd nl (o := HO.lst [.str "TooMany", .str z]))) _ _ (x _ _ dLL (fun ps z => nomatch z))
      have cu1 := (s.trans (same_upd nl (o := HO.lst [.str "TooMany", .str z]))) _ _ (x _ _ cu1 (fun ps z => nomatch z))
      have cu2 := (s.trans (same_upd nl (o := HO.lst [.str "TooMany", .str z]))) _ _ (x _ _ cu2 (fun ps z => nomatch z))
      have c1 := (s.trans (same_upd nl (o := HO.lst [.str "TooMany", .str z]))) _ _ (x _ _ c1 (fun ps z => nomatch z))
      have c2 : (upd B2 l2 (HO.lst [.str "TooMany", .str z])) l2 = some (HO.lst [.str "TooMany", .str z]) := upd_same
      generalize hG : upd B2 l2 (HO.lst [.str "TooMany", .str z]) = W2 at F2 kk2  dLL cu1 cu2 c1 c2 ⊢
      clear hG nl s t x F1 kk1
      refine ⟨(by show 2 ≤ sizeLine; decide), fun M1 nl => ?_⟩
      have F3 := F2.put nl (o := HO.lst [.ref l1, .ref l2])
      have kk3 := kk2.trans (Kp.same (a := a) (same_upd nl (o := HO.lst [.ref l1, .ref l2])))
      have dLL := (same_upd nl (o := HO.lst [.ref l1, .ref l2])) _ _ dLL
      have cu1 := (same_upd nl (o := HO.lst [.ref l1, .ref l2])) _ _ cu1
      have cu2 := (same_upd nl (o := HO.lst [.ref l1, .ref l2])) _ _ cu2
      have c1 := (same_upd nl (o := HO.lst [.ref l1, .ref l2])) _ _ c1
      have c2 := (same_upd nl (o := HO.lst [.ref l1, .ref l2])) _ _ c2
      have dM1 : (upd W2 M1 (HO.lst [.ref l1, .ref l2])) M1 = some (HO.lst [.ref l1, .ref l2]) := upd_same
      generalize hG : upd W2 M1 (HO.lst [.ref l1, .ref l2]) = W3 at F3 kk3  dLL cu1 cu2 c1 c2 dM1 ⊢
      clear hG nl F2 kk2
      refine ⟨_, rfl, ⟨F3.T, fun A4 x t => ⟨_, rfl, _, rfl, x_prover (bs (F3.ext x t)) (by omega) (by decide) b6 (Nat.le_trans (pair_len (by omega) b6) (by omega)) (over_of lim (b_many T (shz _) fun B4 l4 s nl => ?_))⟩⟩⟩
      have F4 := ((F3.ext x t).same s).put nl (o := HO.lst [.str "TooMany", .str z])
      have kk4 : Kp a H _ := (kk3.trans (Kp.ext x)).trans (Kp.same (s.trans (same_upd nl (o := HO.lst [.str "TooMany", .str z]))))
      have dLL := (s.trans (same_upd nl (o := HO.lst [.str "TooMany", .str z]))) _ _ (x _ _ dLL (fun ps z => nomatch z))
      have cu1 := (s.trans (same_upd nl (o := HO.lst [.str "TooMany", .str z]))) _ _ (x _ _ cu1 (fun ps z => nomatch z))
      have cu2 := (s.trans (same_upd nl (o := HO.lst [.str "TooMany", .str z]))) _ _ (x _ _ cu2 (fun ps z => nomatch z))
      have c1 := (s.trans (same_upd nl (o := HO.lst [.str "TooMany", .str z]))) _ _ (x _ _ c1 (fun ps z => nomatch z))
      have c2 := (s.trans (same_upd nl (o := HO.lst [.str "TooMany", .str z]))) _ _ (x _ _ c2 (fun ps z => nomatch z))
      have dM1 := (s.trans (same_upd nl (o := HO.lst [.str "TooMany", .str z]))) _ _ (x _ _ dM1 (fun ps z => nomatch z))
      have c4 : (upd B4 l4 (HO.lst [.str "TooMany", .str z])) l4 = some (HO.lst [.str "TooMany", .str z]) := upd_same
      generalize hG : upd B4 l4 (HO.lst [.str "TooMany", .str z]) = W4 at F4 kk4  dLL cu1 cu2 c1 c2 dM1 c4 ⊢
      clear hG nl s t x F3 kk3
      refine ⟨F4.T, fun A5 x t => ⟨_, rfl, _, rfl, x_prover (bs (F4.ext x t)) (by omega) (by decide) b6 (Nat.le_trans (pair_len (by omega) b6) (by omega)) (over_of lim (b_many T (shz _) fun B5 l5 s nl => ?_))⟩⟩
      have F5 := ((F4.ext x t).same s).put nl (o := HO.lst [.str "TooMany", .str z])
      have kk5 : Kp a H _ := (kk4.trans (Kp.ext x)).trans (Kp.same (s.trans (same_upd nl (o := HO.lst [.str "TooMany", .str z]))))
      have dLL := (s.trans (same_upd nl (o := HO.lst [.str "TooMany", .str z]))) _ _ (x _ _ dLL (fun ps z => nomatch z))
      have cu1 := (s.trans (same_upd nl (o := HO.lst [.str "TooMany", .str z]))) _ _ (x _ _ cu1 (fun ps z => nomatch z))
      have cu2 := (s.trans (same_upd nl (o := HO.lst [.str "TooMany", .str z]))) _ _ (x _ _ cu2 (fun ps z => nomatch z))
      have c1 := (s.trans (same_upd nl (o := HO.lst [.str "TooMany", .str z]))) _ _ (x _ _ c1 (fun ps z => nomatch z))
      have c2 := (s.trans (same_upd nl (o := HO.lst [.str "TooMany", .str z]))) _ _ (x _ _ c2 (fun ps z => nomatch z))
      have dM1 := (s.trans (same_upd nl (o := HO.lst [.str "TooMany", .str z]))) _ _ (x _ _ dM1 (fun ps z => nomatch z))
      have c4 := (s.trans (same_upd nl (o := HO.lst [.str "TooMany", .str z]))) _ _ (x _ _ c4 (fun ps z => nomatch z))
      have c5 : (upd B5 l5 (HO.lst [.str "TooMany", .str z])) l5 = some (HO.lst [.str "TooMany", .str z]) := upd_same
      generalize hG : upd B5 l5 (HO.lst [.str "TooMany", .str z]) = W5 at F5 kk5  dLL cu1 cu2 c1 c2 dM1 c4 c5 ⊢
      clear hG nl s t x F4 kk4
      refine ⟨(by show 2 ≤ sizeLine; decide), fun M2 nl => ?_⟩
      have F6 := F5.put nl (o := HO.lst [.ref l4, .ref l5])
      have kk6 := kk5.trans (Kp.same (a := a) (same_upd nl (o := HO.lst [.ref l4, .ref l5])))
      have dLL := (same_upd nl (o := HO.lst [.ref l4, .ref l5])) _ _ dLL
      have cu1 := (same_upd nl (o := HO.lst [.ref l4, .ref l5])) _ _ cu1
      have cu2 := (same_upd nl (o := HO.lst [.ref l4, .ref l5])) _ _ cu2
      have c1 := (same_upd nl (o := HO.lst [.ref l4, .ref l5])) _ _ c1
      have c2 := (same_upd nl (o := HO.lst [.ref l4, .ref l5])) _ _ c2
      have dM1 := (same_upd nl (o := HO.lst [.ref l4, .ref l5])) _ _ dM1
      have c4 := (same_upd nl (o := HO.lst [.ref l4, .ref l5])) _ _ c4
      have c5 := (same_upd nl (o := HO.lst [.ref l4, .ref l5])) _ _ c5
      have dM2 : (upd W5 M2 (HO.lst [.ref l4, .ref l5])) M2 = some (HO.lst [.ref l4, .ref l5]) := upd_same
      generalize hG : upd W5 M2 (HO.lst [.ref l4, .ref l5]) = W6 at F6 kk6  dLL cu1 cu2 c1 c2 dM1 c4 c5 dM2 ⊢
      clear hG nl F5 kk5
      refine ⟨M1, M2, _, _, rfl, rfl, dM1, dM2, (by show 4 ≤ sizeLine; decide), fun M3 nl => ?_⟩
      have F7 := F6.put nl (o := HO.lst ([V.ref l1, V.ref l2] ++ [V.ref l4, V.ref l5]))
      have kk7 := kk6.trans (Kp.same (a := a) (same_upd nl (o := HO.lst ([V.ref l1, V.ref l2] ++ [V.ref l4, V.ref l5]))))
      have nb := nl
      have rel : Kp a W6 _ := Kp.same (same_upd nl (o := HO.lst ([V.ref l1, V.ref l2] ++ [V.ref l4, V.ref l5])))
      have Fb := F6
      have kb := kk6
      have dLL := (same_upd nl (o := HO.lst ([V.ref l1, V.ref l2] ++ [V.ref l4, V.ref l5]))) _ _ dLL
      have cu1 := (same_upd nl (o := HO.lst ([V.ref l1, V.ref l2] ++ [V.ref l4, V.ref l5]))) _ _ cu1
      have cu2 := (same_upd nl (o := HO.lst ([V.ref l1, V.ref l2] ++ [V.ref l4, V.ref l5]))) _ _ cu2
      have c1 := (same_upd nl (o := HO.lst ([V.ref l1, V.ref l2] ++ [V.ref l4, V.ref l5]))) _ _ c1
      have c2 := (same_upd nl (o := HO.lst ([V.ref l1, V.ref l2] ++ [V.ref l4, V.ref l5]))) _ _ c2
      have dM1 := (same_upd nl (o := HO.lst ([V.ref l1, V.ref l2] ++ [V.ref l4, V.ref l5]))) _ _ dM1
      have c4 := (same_upd nl (o := HO.lst ([V.ref l1, V.ref l2] ++ [V.ref l4, V.ref l5]))) _ _ c4
      have c5 := (same_upd nl (o := HO.lst ([V.ref l1, V.ref l2] ++ [V.ref l4, V.ref l5]))) _ _ c5
      have dM2 := (same_upd nl (o := HO.lst ([V.ref l1, V.ref l2] ++ [V.ref l4, V.ref l5]))) _ _ dM2
      have dM3 : (upd W6 M3 (HO.lst ([V.ref l1, V.ref l2] ++ [V.ref l4, V.ref l5]))) M3 = some (HO.lst ([V.ref l1, V.ref l2] ++ [V.ref l4, V.ref l5])) := upd_same
      generalize hG : upd W6 M3 (HO.lst ([V.ref l1, V.ref l2] ++ [V.ref l4, V.ref l5])) = W7 at F7 kk7 rel dLL cu1 cu2 c1 c2 dM1 c4 c5 dM2 dM3 ⊢
      clear hG nl F6 kk6
      have dM3 : W7 M3 = some (HO.lst [V.ref l1, V.ref l2, V.ref l4, V.ref l5]) := dM3
      refine ⟨_, rfl, .inl ⟨rfl, _, .inl (.inl dM3)⟩, ⟨F7.T, fun A8 x t => ⟨_, rfl, _, rfl, x_prover (bs (F7.ext x t)) (by omega) (by decide) b6 (Nat.le_trans (pair_len (by omega) b6) (by omega)) (over_of lim (b_many T (shz _) fun B8 l8 s nl => ?_))⟩⟩⟩
      have F8 := ((F7.ext x t).same s).put nl (o := HO.lst [.str "TooMany", .str z])
      have kk8 : Kp a H _ := (kk7.trans (Kp.ext x)).trans (Kp.same (s.trans (same_upd nl (o := HO.lst [.str "TooMany", .str z]))))
      have rel : Kp a _ _ := (rel.trans (Kp.ext x)).trans (Kp.same (s.trans (same_upd nl (o := HO.lst [.str "TooMany", .str z]))))
      have dLL := (s.trans (same_upd nl (o := HO.lst [.str "TooMany", .str z]))) _ _ (x _ _ dLL (fun ps z => nomatch z))
      have cu1 := (s.trans (same_upd nl (o := HO.lst [.str "TooMany", .str z]))) _ _ (x _ _ cu1 (fun ps z => nomatch z))
      have cu2 := (s.trans (same_upd nl (o := HO.lst [.str "TooMany", .str z]))) _ _ (x _ _ cu2 (fun ps z => nomatch z))
      have c1 := (s.trans (same_upd nl (o := HO.lst [.str "TooMany", .str z]))) _ _ (x _ _ c1 (fun ps z => nomatch z))
      have c2 := (s.trans (same_upd nl (o := HO.lst [.str "TooMany", .str z]))) _ _ (x _ _ c2 (fun ps z => nomatch z))
      have dM1 := (s.trans (same_upd nl (o := HO.lst [.str "TooMany", .str z]))) _ _ (x _ _ dM1 (fun ps z => nomatch z))
      have c4 := (s.trans (same_upd nl (o := HO.lst [.str "TooMany", .str z]))) _ _ (x _ _ c4 (fun ps z => nomatch z))
      have c5 := (s.trans (same_upd nl (o := HO.lst [.str "TooMany", .str z]))) _ _ (x _ _ c5 (fun ps z => nomatch z))
      have dM2 := (s.trans (same_upd nl (o := HO.lst [.str "TooMany", .str z]))) _ _ (x _ _ dM2 (fun ps z => nomatch z))
      have dM3 := (s.trans (same_upd nl (o := HO.lst [.str "TooMany", .str z]))) _ _ (x _ _ dM3 (fun ps z => nomatch z))
      have c8 : (upd B8 l8 (HO.lst [.str "TooMany", .str z])) l8 = some (HO.lst [.str "TooMany", .str z]) := upd_same
      generalize hG : upd B8 l8 (HO.lst [.str "TooMany", .str z]) = W8 at F8 kk8 rel dLL cu1 cu2 c1 c2 dM1 c4 c5 dM2 dM3 c8 ⊢
      clear hG nl s t x F7 kk7
      refine ⟨M3, _, .ref l8, rfl, rfl, dM3, (by show 4 < sizeLine; decide), ?_⟩
      have am : a ≠ M3 := fun z => by
        obtain ⟨q1, q2, q3, q, _⟩ := Fb.S
        rw [z, nb] at q
        cases q
      have rel := kp_put (o := HO.lst ([V.ref l1, V.ref l2, V.ref l4, V.ref l5] ++ [V.ref l8])) rel nb
      have F9 := Fb.kp rel (srcAt_put (o := HO.lst ([V.ref l1, V.ref l2, V.ref l4, V.ref l5] ++ [V.ref l8])) F8.S am) (tabs_put (o := HO.lst ([V.ref l1, V.ref l2, V.ref l4, V.ref l5] ++ [V.ref l8])) F8.T dM3)
      have kk9 : Kp a H _ := kb.trans rel
      have dLL := (upd_ne (o := HO.lst ([V.ref l1, V.ref l2, V.ref l4, V.ref l5] ++ [V.ref l8])) (ne_of dLL dM3 (by intro z; exact nomatch z))).trans dLL
      have cu1 := (upd_ne (o := HO.lst ([V.ref l1, V.ref l2, V.ref l4, V.ref l5] ++ [V.ref l8])) (ne_of cu1 dM3 (by intro z; exact nomatch z))).trans cu1
      have cu2 := (upd_ne (o := HO.lst ([V.ref l1, V.ref l2, V.ref l4, V.ref l5] ++ [V.ref l8])) (ne_of cu2 dM3 (by intro z; exact nomatch z))).trans cu2
      have c1 := (upd_ne (o := HO.lst ([V.ref l1, V.ref l2, V.ref l4, V.ref l5] ++ [V.ref l8])) (ne_of c1 dM3 (by intro z; exact nomatch z))).trans c1
      have c2 := (upd_ne (o := HO.lst ([V.ref l1, V.ref l2, V.ref l4, V.ref l5] ++ [V.ref l8])) (ne_of c2 dM3 (by intro z; exact nomatch z))).trans c2
      have dM1 := (upd_ne (o := HO.lst ([V.ref l1, V.ref l2, V.ref l4, V.ref l5] ++ [V.ref l8])) (ne_of dM1 dM3 (by intro z; exact nomatch z))).trans dM1
      have c4 := (upd_ne (o := HO.lst ([V.ref l1, V.ref l2, V.ref l4, V.ref l5] ++ [V.ref l8])) (ne_of c4 dM3 (by intro z; exact nomatch z))).trans c4
      have c5 := (upd_ne (o := HO.lst ([V.ref l1, V.ref l2, V.ref l4, V.ref l5] ++ [V.ref l8])) (ne_of c5 dM3 (by intro z; exact nomatch z))).trans c5
      have dM2 := (upd_ne (o := HO.lst ([V.ref l1, V.ref l2, V.ref l4, V.ref l5] ++ [V.ref l8])) (ne_of dM2 dM3 (by intro z; exact nomatch z))).trans dM2
      have c8 := (upd_ne (o := HO.lst ([V.ref l1, V.ref l2, V.ref l4, V.ref l5] ++ [V.ref l8])) (ne_of c8 dM3 (by intro z; exact nomatch z))).trans c8
      have dM3 : (upd W8 M3 (HO.lst ([V.ref l1, V.ref l2, V.ref l4, V.ref l5] ++ [V.ref l8]))) M3 = some (HO.lst ([V.ref l1, V.ref l2, V.ref l4, V.ref l5] ++ [V.ref l8])) := upd_same
      generalize hG : upd W8 M3 (HO.lst ([V.ref l1, V.ref l2, V.ref l4, V.ref l5] ++ [V.ref l8])) = W9 at F9 kk9 dLL cu1 cu2 c1 c2 dM1 c4 c5 dM2 dM3 c8 ⊢
      clear hG F8 kk8 rel Fb kb nb am
      have dM3 : W9 M3 = some (HO.lst [V.ref l1, V.ref l2, V.ref l4, V.ref l5, V.ref l8]) := dM3
      have kLL := dLL
      have ku1 := cu1
      have ku2 := cu2
      refine ⟨_, rfl, _, rfl, ⟨(by show 2 ≤ sizeLine; decide), fun r nr => ⟨(by show 1 ≤ sizeLine; decide), fun q nq => ⟨q, 5, _, rfl, rfl, upd_same, by decide, by decide, (by show 5 ≤ sizeLine; decide), fun p np => ?_⟩⟩⟩⟩
      have e1 := same_upd (o := HO.lst [.str "TooMany", .str z]) nr
      have e2 := e1.trans (same_upd (o := HO.lst [.ref r]) nq)
      have e3 : Same W9 (upd _ p (HO.lst (List.replicate (Int.toNat 5) [V.ref r]).flatten)) := e2.trans (same_upd np)
      have hr := ((same_upd (o := HO.lst [.ref r]) nq).trans (same_upd (o := HO.lst [.ref r, .ref r, .ref r, .ref r, .ref r]) np)) r (HO.lst [.str "TooMany", .str z]) upd_same
      refine ⟨many 5 "TooMany" z, many 5 "TooMany" z, .lst (.inl (.inl (e3 _ _ dM3))) ((.cons (dp_two (e3 _ _ c1)) (.cons (dp_two (e3 _ _ c2)) (.cons (dp_two (e3 _ _ c4)) (.cons (dp_two (e3 _ _ c5)) (.cons (dp_two (e3 _ _ c8)) .nil)))))), .lst (.inl (.inl upd_same)) ((.cons (dp_two hr) (.cons (dp_two hr) (.cons (dp_two hr) (.cons (dp_two hr) (.cons (dp_two hr) .nil)))))), shaped_5 (asc_w (by decide +kernel)) az_, shaped_5 (asc_w (by decide +kernel)) az_, ?_⟩
      rw [eqv_many]
      have kLL := e3 _ _ kLL
      have ku1 := e3 _ _ ku1
      have ku2 := e3 _ _ ku2
      refine ⟨_, rfl, iteF ?_⟩
      have F10 := F9.same e3
      have kk10 := kk9.trans (Kp.same (a := a) e3)
      generalize hG : upd _ p (HO.lst (List.replicate (Int.toNat 5) [V.ref r]).flatten) = W10 at F10 kk10 kLL ku1 ku2 ⊢
      clear hG hr e3 e2 e1 np nq nr F9 kk9 c1 c2 dM1 c4 c5 dM2 dM3 c8
      exact ⟨kk10, F10, kLL, ku1, ku2, _, _, _, rfl⟩
    · rintro σ W0 ⟨kk0, F0, dLL, cu1, cu2, x7, x8, x9, rfl⟩
      clear dLL cu1 cu2
      have sh12 := txtI 12 (by decide +kernel) (by decide +kernel) (lit_asc (by decide +kernel))
      have sh7 := txtI 7 (by decide +kernel) (by decide +kernel) (lit_asc (by decide +kernel))
      have sh0 := txtI 0 (by decide +kernel) (by decide +kernel) (lit_asc (by decide +kernel))
      have sh1 := txtI 1 (by decide +kernel) (by decide +kernel) (lit_asc (by decide +kernel))
      have sh100 := txtI 100 (by decide +kernel) (by decide +kernel) (lit_asc (by decide +kernel))
      have e12 : (PyData.int 12).shown = ("12" : Str) := by decide +kernel
      have e7 : (PyData.int 7).shown = ("7" : Str) := by decide +kernel
      have e0 : (PyData.int 0).shown = ("0" : Str) := by decide +kernel
      have e1 : (PyData.int 1).shown = ("1" : Str) := by decide +kernel
      have e100 : (PyData.int 100).shown = ("100" : Str) := by decide +kernel
      rw [e12] at sh12
      rw [e7] at sh7
      rw [e0] at sh0
      rw [e1] at sh1
      rw [e100] at sh100
      have aN : Asc (tN l).tell := asc_name nm
      have all_ : ∀ ts : List Tree, (∀ t ∈ ts, t = tN l) → ∀ t ∈ ts, Asc t.tell := fun ts h t ht => by
        rw [h t ht]
        exact aN
      have a11 : Asc (t11 l).tell := asc_sum fun t ht => by
        rcases List.mem_cons.mp ht with rfl | ht
        · exact asc_sum (all_ _ (by simp))
        · rw [List.mem_singleton.mp ht]
          exact asc_sum (all_ _ (by simp))
      have l12x : (Tree.times (-1) 1 (t11 l)).tell.length ≤ 940 := Nat.le_trans (times_len gainm1) (by omega)
      refine ⟨F0.T, fun A1 x t => ⟨_, rfl, _, rfl, x_smover (d := 5) (ts := [tD l b, t12 l]) (xs := [pd, p12]) (sigs_cons (F0.ext x t).sd (sigs_cons (F0.ext x t).s12.up.up sigs_nil)) (by simp) (by simp) (Nat.le_trans (sum_len (B := 2000) (by simp) (fun t ht => by
                rcases List.mem_cons.mp ht with rfl | ht
                · exact Nat.le_trans lD (by decide)
                · rw [List.mem_singleton.mp ht]
                  exact Nat.le_trans l12 (by decide))) (by decide)) (.inl ⟨by simp [parts_eq, Tree.kids], (b_many T (sh12 _) fun B1 l1 s nl => ?_)⟩)⟩⟩
      have F1 := ((F0.ext x t).same s).put nl (o := HO.lst [.str "TooMany", .str "12"])
      have kk1 : Kp a H _ := (kk0.trans (Kp.ext x)).trans (Kp.same (s.trans (same_upd nl (o := HO.lst [.str "TooMany", .str "12"]))))
      have c1 : (upd B1 l1 (HO.lst [.str "TooMany", .str "12"])) l1 = some (HO.lst [.str "TooMany", .str "12"]) := upd_same
      generalize hG : upd B1 l1 (HO.lst [.str "TooMany", .str "12"]) = W1 at F1 kk1  c1 ⊢
      clear hG nl s t x F0 kk0
      refine ⟨F1.T, fun A2 x t => ⟨_, rfl, _, rfl, x_smover (d := 3) (ts := [t11 l, tN l]) (xs := [p11, m]) (sigs_cons (F1.ext x t).s11 (sigs_cons (F1.ext x t).sm.up.up sigs_nil)) (by simp) (by simp) (Nat.le_trans (sum_len (B := 2000) (by simp) (fun t ht => by
                rcases List.mem_cons.mp ht with rfl | ht
                · exact Nat.le_trans l11 (by decide)
                · rw [List.mem_singleton.mp ht]
                  exact Nat.le_trans lN (by decide))) (by decide)) (.inl ⟨by simp [parts_eq, Tree.kids], (b_many T (sh12 _) fun B2 l2 s nl => ?_)⟩)⟩⟩
      have F2 := ((F1.ext x t).same s).put nl (o := HO.lst [.str "TooMany", .str "12"])
      have kk2 : Kp a H _ := (kk1.trans (Kp.ext x)).trans (Kp.same (s.trans (same_upd nl (o := HO.lst [.str "TooMany", .str "12"]))))
      have c1 := (s.trans (same_upd nl (o := HO.lst [.str "TooMany", .str "12"]))) _ _ (x _ _ c1 (fun ps z => nomatch z))
      have c2 : (upd B2 l2 (HO.lst [.str "TooMany", .str "12"])) l2 = some (HO.lst [.str "TooMany", .str "12"]) := upd_same
      generalize hG : upd B2 l2 (HO.lst [.str "TooMany", .str "12"]) = W2 at F2 kk2  c1 c2 ⊢
      clear hG nl s t x F1 kk1
      refine ⟨(by show 2 ≤ sizeLine; decide), fun M1 nl => ?_⟩
      have F3 := F2.put nl (o := HO.lst [.ref l1, .ref l2])
      have kk3 := kk2.trans (Kp.same (a := a) (same_upd nl (o := HO.lst [.ref l1, .ref l2])))
      have nb := nl
      have rel : Kp a W2 _ := Kp.same (same_upd nl (o := HO.lst [.ref l1, .ref l2]))
      have Fb := F2
      have kb := kk2
      have c1 := (same_upd nl (o := HO.lst [.ref l1, .ref l2])) _ _ c1
      have c2 := (same_upd nl (o := HO.lst [.ref l1, .ref l2])) _ _ c2
      have dM1 : (upd W2 M1 (HO.lst [.ref l1, .ref l2])) M1 = some (HO.lst [.ref l1, .ref l2]) := upd_same
      generalize hG : upd W2 M1 (HO.lst [.ref l1, .ref l2]) = W3 at F3 kk3 rel c1 c2 dM1 ⊢
      clear hG nl F2 kk2
      obtain ⟨zt, hzt⟩ : ∃ z : Str, z = (Tree.times (-1) 1 (t11 l)).shown := ⟨_, rfl⟩
      refine ⟨_, rfl, .inl ⟨rfl, _, .inl (.inl dM1)⟩, ⟨F3.T, fun A4 x t => ⟨_, rfl, p11, _, _, rfl, (sig_in (F3.ext x t).s11).choose_spec.choose_spec, 3, t11 l, p11, rfl, (F3.ext x t).s11, by simp [parts_eq, Tree.kids], by simp [deep_eq, Tree.kids, maxL], Nat.le_trans l12x (by decide), fun pn B4 s sgn => ⟨_, rfl, Shows.rA T (z := zt) (by rw [hzt]; exact .sig sgn (asc_shown (asc_times a11)) (Nat.le_trans (len_shown l12x) (by decide))) ⟨(by show 2 ≤ sizeLine; decide), fun l4 nl => ?_⟩⟩⟩⟩⟩
      have F4 := ((F3.ext x t).same s).put nl (o := HO.lst [.str "told", .str zt])
      have kk4 : Kp a H _ := (kk3.trans (Kp.ext x)).trans (Kp.same (s.trans (same_upd nl (o := HO.lst [.str "told", .str zt]))))
      have rel : Kp a _ _ := (rel.trans (Kp.ext x)).trans (Kp.same (s.trans (same_upd nl (o := HO.lst [.str "told", .str zt]))))
      have c1 := (s.trans (same_upd nl (o := HO.lst [.str "told", .str zt]))) _ _ (x _ _ c1 (fun ps z => nomatch z))
      have c2 := (s.trans (same_upd nl (o := HO.lst [.str "told", .str zt]))) _ _ (x _ _ c2 (fun ps z => nomatch z))
      have dM1 := (s.trans (same_upd nl (o := HO.lst [.str "told", .str zt]))) _ _ (x _ _ dM1 (fun ps z => nomatch z))
      have c4 : (upd B4 l4 (HO.lst [.str "told", .str zt])) l4 = some (HO.lst [.str "told", .str zt]) := upd_same
      generalize hG : upd B4 l4 (HO.lst [.str "told", .str zt]) = W4 at F4 kk4 rel c1 c2 dM1 c4 ⊢
      clear hG nl s t x F3 kk3
      refine ⟨M1, _, .ref l4, rfl, rfl, dM1, (by show 2 < sizeLine; decide), ?_⟩
      have am : a ≠ M1 := fun z => by
        obtain ⟨q1, q2, q3, q, _⟩ := Fb.S
        rw [z, nb] at q
        cases q
      have rel := kp_put (o := HO.lst ([V.ref l1, V.ref l2] ++ [V.ref l4])) rel nb
      have F5 := Fb.kp rel (srcAt_put (o := HO.lst ([V.ref l1, V.ref l2] ++ [V.ref l4])) F4.S am) (tabs_put (o := HO.lst ([V.ref l1, V.ref l2] ++ [V.ref l4])) F4.T dM1)
      have kk5 : Kp a H _ := kb.trans rel
      have c1 := (upd_ne (o := HO.lst ([V.ref l1, V.ref l2] ++ [V.ref l4])) (ne_of c1 dM1 (by intro z; exact nomatch z))).trans c1
      have c2 := (upd_ne (o := HO.lst ([V.ref l1, V.ref l2] ++ [V.ref l4])) (ne_of c2 dM1 (by intro z; exact nomatch z))).trans c2
      have c4 := (upd_ne (o := HO.lst ([V.ref l1, V.ref l2] ++ [V.ref l4])) (ne_of c4 dM1 (by intro z; exact nomatch z))).trans c4
      have dM1 : (upd W4 M1 (HO.lst ([V.ref l1, V.ref l2] ++ [V.ref l4]))) M1 = some (HO.lst ([V.ref l1, V.ref l2] ++ [V.ref l4])) := upd_same
      generalize hG : upd W4 M1 (HO.lst ([V.ref l1, V.ref l2] ++ [V.ref l4])) = W5 at F5 kk5 c1 c2 dM1 c4 ⊢
      clear hG F4 kk4 rel Fb kb nb am
      have dM1 : W5 M1 = some (HO.lst [V.ref l1, V.ref l2, V.ref l4]) := dM1
      refine ⟨_, rfl, M1, _, 0, .ref l1, rfl, rfl, .inl (.inl dM1), atI_nat (j := 0) rfl, ⟨_, rfl, M1, _, 1, .ref l2, rfl, rfl, .inl (.inl dM1), atI_nat (j := 1) rfl, ⟨_, rfl, M1, _, 2, .ref l4, rfl, rfl, .inl (.inl dM1), atI_nat (j := 2) rfl, l4, _, 0, .str "told", rfl, rfl, .inl (.inl c4), atI_nat (j := 0) rfl, (by show 3 ≤ sizeLine; decide), fun q1 nq1 => ⟨(by show 2 ≤ sizeLine; decide), fun r1 nr1 => ⟨(by show 2 ≤ sizeLine; decide), fun r2 nr2 => ⟨(by show 3 ≤ sizeLine; decide), fun q2 nq2 => ?_⟩⟩⟩⟩⟩⟩
      have h1 := same_upd (o := HO.lst [.ref l1, .ref l2, .str "told"]) nq1
      have h2 := same_upd (o := HO.lst [.str "TooMany", .str "12"]) nr1
      have h3 := same_upd (o := HO.lst [.str "TooMany", .str "12"]) nr2
      have h4 := same_upd (o := HO.lst [.ref r1, .ref r2, .str "told"]) nq2
      have h24 := (h2.trans h3).trans h4
      have h14 := h1.trans h24
      have dpl : ∀ (G : Hp) (q x y : Addr), G q = some (.lst [.ref x, .ref y, .str "told"]) → G x = some (.lst [.str "TooMany", .str "12"]) → G y = some (.lst [.str "TooMany", .str "12"]) → Dp K G (.ref q) (.list [two "TooMany" "12", two "TooMany" "12", .str "told"]) := fun G q x y g1 g2 g3 => .lst (.inl (.inl g1)) (.cons (dp_two g2) (.cons (dp_two g3) (.cons (.str _) .nil)))
      refine ⟨.list [two "TooMany" "12", two "TooMany" "12", .str "told"], .list [two "TooMany" "12", two "TooMany" "12", .str "told"], dpl _ _ _ _ (h24 _ _ upd_same) (h14 _ _ c1) (h14 _ _ c2), dpl _ _ _ _ upd_same ((h3.trans h4) _ _ upd_same) (h4 _ _ upd_same), by decide +kernel, by decide +kernel, ?_⟩
      rw [show PyData.eqv (.list [two "TooMany" "12", two "TooMany" "12", .str "told"]) (.list [two "TooMany" "12", two "TooMany" "12", .str "told"]) = true from by decide +kernel]
      refine ⟨_, rfl, iteF ?_⟩
      have F6 := F5.same h14
      have kk6 := kk5.trans (Kp.same (a := a) h14)
      generalize hG : upd (upd (upd (upd W5 q1 _) r1 _) r2 _) q2 _ = W6 at F6 kk6 ⊢
      clear hG h14 h24 h4 h3 h2 h1 nq1 nr1 nr2 nq2 c1 c2 dM1 c4 F5 kk5 hzt
      -- a wrong one
      refine ⟨_, rfl, _, rfl, a, m, n + 10 + 1, 1, tN l, rfl, F6.S, by omega, F6.sm, az, lz, fun wr zw H9 o9 S9 od9 fo9 => ?_⟩
      have FF := F6.kp (Kp.old o9) S9 (tabs_old F6.T F6.S o9)
      have F0 : LF K a (n + 10 + 1 + 1) m l b pd p11 p12 wr zw H9 := ⟨FF.S, FF.T, FF.sm, FF.sd, FF.s11, FF.s12, od9⟩
      have kk0 : Kp a H H9 := kk6.trans (Kp.old o9)
      clear FF fo9 od9 S9 o9 F6 kk6
      refine ⟨F0.T, fun A1 x t => ⟨_, rfl, _, rfl, x_smodd (ys := [.ref p12, wr]) (i := 1) (by simp) (by simp) rfl (F0.ext x t).yo.ns (fun j z hj hz => by
                have e : j = 0 := by omega
                subst e
                cases hz
                exact ⟨3, t12 l, p12, rfl, (F0.ext x t).s12⟩) (b_terms T (sh1 _) fun B1 l1 s nl => ?_)⟩⟩
      have F1 := ((F0.ext x t).same s).put nl (o := HO.lst [.str "InvalidTerms", .str "1"])
      have kk1 : Kp a H _ := (kk0.trans (Kp.ext x)).trans (Kp.same (s.trans (same_upd nl (o := HO.lst [.str "InvalidTerms", .str "1"]))))
      have c1 : (upd B1 l1 (HO.lst [.str "InvalidTerms", .str "1"])) l1 = some (HO.lst [.str "InvalidTerms", .str "1"]) := upd_same
      generalize hG : upd B1 l1 (HO.lst [.str "InvalidTerms", .str "1"]) = W1 at F1 kk1  c1 ⊢
      clear hG nl s t x F0 kk0
      refine ⟨(by show 2 ≤ sizeLine; decide), fun r nr => ?_⟩
      have e3 := same_upd (o := HO.lst [.str "InvalidTerms", .str "1"]) nr
      refine ⟨_, _, dp_two (e3 _ _ c1), dp_two upd_same, shaped_two (asc_w (by decide +kernel)) (asc_w (by decide +kernel)), shaped_two (asc_w (by decide +kernel)) (asc_w (by decide +kernel)), ?_⟩
      rw [eqv_two]
      refine ⟨_, rfl, iteF ?_⟩
      have F2 := F1.same e3
      have kk2 := kk1.trans (Kp.same (a := a) e3)
      generalize hG : upd _ r (HO.lst [.str "InvalidTerms", .str "1"]) = W2 at F2 kk2 ⊢
      clear hG e3 nr F1 kk1 c1
      refine ⟨F2.T, fun A3 x t => ⟨_, rfl, x_prnum (F2.ext x t).sd (.inr ⟨7, rfl, by decide⟩) (b_count T (sh7 _) fun B3 l3 s nl => ?_)⟩⟩
      have F3 := ((F2.ext x t).same s).put nl (o := HO.lst [.str "InvalidCount", .str "7"])
      have kk3 : Kp a H _ := (kk2.trans (Kp.ext x)).trans (Kp.same (s.trans (same_upd nl (o := HO.lst [.str "InvalidCount", .str "7"]))))
      have c3 : (upd B3 l3 (HO.lst [.str "InvalidCount", .str "7"])) l3 = some (HO.lst [.str "InvalidCount", .str "7"]) := upd_same
      generalize hG : upd B3 l3 (HO.lst [.str "InvalidCount", .str "7"]) = W3 at F3 kk3  c3 ⊢
      clear hG nl s t x F2 kk2
      refine ⟨F3.T, fun A4 x t => ⟨_, rfl, x_prnum (F3.ext x t).s12 (.inr ⟨0, rfl, by decide⟩) (b_step T (sh0 _) fun B4 l4 s nl => ?_)⟩⟩
      have F4 := ((F3.ext x t).same s).put nl (o := HO.lst [.str "InvalidStep", .str "0"])
      have kk4 : Kp a H _ := (kk3.trans (Kp.ext x)).trans (Kp.same (s.trans (same_upd nl (o := HO.lst [.str "InvalidStep", .str "0"]))))
      have c3 := (s.trans (same_upd nl (o := HO.lst [.str "InvalidStep", .str "0"]))) _ _ (x _ _ c3 (fun ps z => nomatch z))
      have c4 : (upd B4 l4 (HO.lst [.str "InvalidStep", .str "0"])) l4 = some (HO.lst [.str "InvalidStep", .str "0"]) := upd_same
      generalize hG : upd B4 l4 (HO.lst [.str "InvalidStep", .str "0"]) = W4 at F4 kk4  c3 c4 ⊢
      clear hG nl s t x F3 kk3
      refine ⟨F4.T, fun A5 x t => ⟨_, rfl, pd, _, _, rfl, (sig_in (F4.ext x t).sd).choose_spec.choose_spec, .inl ⟨"int", .inl (.int _), right_ok (f_right_Every_mul_int T.c)⟩, pd, .int 100, rfl, .inr ⟨100, 1, .inr ⟨rfl, rfl⟩, sz100, sz1, by decide, .inl (by decide)⟩, b_gain T (sh100 _) fun B5 l5 s nl => ?_⟩⟩
      have F5 := ((F4.ext x t).same s).put nl (o := HO.lst [.str "InvalidGain", .str "100"])
      have kk5 : Kp a H _ := (kk4.trans (Kp.ext x)).trans (Kp.same (s.trans (same_upd nl (o := HO.lst [.str "InvalidGain", .str "100"]))))
      have c3 := (s.trans (same_upd nl (o := HO.lst [.str "InvalidGain", .str "100"]))) _ _ (x _ _ c3 (fun ps z => nomatch z))
      have c4 := (s.trans (same_upd nl (o := HO.lst [.str "InvalidGain", .str "100"]))) _ _ (x _ _ c4 (fun ps z => nomatch z))
      have c5 : (upd B5 l5 (HO.lst [.str "InvalidGain", .str "100"])) l5 = some (HO.lst [.str "InvalidGain", .str "100"]) := upd_same
      generalize hG : upd B5 l5 (HO.lst [.str "InvalidGain", .str "100"]) = W5 at F5 kk5  c3 c4 c5 ⊢
      clear hG nl s t x F4 kk4
      refine ⟨(by show 3 ≤ sizeLine; decide), fun M9 nl => ?_⟩
      have F6 := F5.put nl (o := HO.lst [.ref l3, .ref l4, .ref l5])
      have kk6 := kk5.trans (Kp.same (a := a) (same_upd nl (o := HO.lst [.ref l3, .ref l4, .ref l5])))
      have c3 := (same_upd nl (o := HO.lst [.ref l3, .ref l4, .ref l5])) _ _ c3
      have c4 := (same_upd nl (o := HO.lst [.ref l3, .ref l4, .ref l5])) _ _ c4
      have c5 := (same_upd nl (o := HO.lst [.ref l3, .ref l4, .ref l5])) _ _ c5
      have dM9 : (upd W5 M9 (HO.lst [.ref l3, .ref l4, .ref l5])) M9 = some (HO.lst [.ref l3, .ref l4, .ref l5]) := upd_same
      generalize hG : upd W5 M9 (HO.lst [.ref l3, .ref l4, .ref l5]) = W6 at F6 kk6  c3 c4 c5 dM9 ⊢
      clear hG nl F5 kk5
      refine ⟨_, rfl, (by show 2 ≤ sizeLine; decide), fun r1 nr1 => ⟨(by show 2 ≤ sizeLine; decide), fun r2 nr2 => ⟨(by show 2 ≤ sizeLine; decide), fun r3 nr3 => ⟨(by show 3 ≤ sizeLine; decide), fun q2 nq2 => ?_⟩⟩⟩⟩
      have h1 := same_upd (o := HO.lst [.str "InvalidCount", .str "7"]) nr1
      have h2 := same_upd (o := HO.lst [.str "InvalidStep", .str "0"]) nr2
      have h3 := same_upd (o := HO.lst [.str "InvalidGain", .str "100"]) nr3
      have h4 := same_upd (o := HO.lst [.ref r1, .ref r2, .ref r3]) nq2
      have h14 := ((h1.trans h2).trans h3).trans h4
      refine ⟨.list [two "InvalidCount" "7", two "InvalidStep" "0", two "InvalidGain" "100"], .list [two "InvalidCount" "7", two "InvalidStep" "0", two "InvalidGain" "100"], .lst (.inl (.inl (h14 _ _ dM9))) (.cons (dp_two (h14 _ _ c3)) (.cons (dp_two (h14 _ _ c4)) (.cons (dp_two (h14 _ _ c5)) .nil))), .lst (.inl (.inl upd_same)) (.cons (dp_two (((h2.trans h3).trans h4) _ _ upd_same)) (.cons (dp_two ((h3.trans h4) _ _ upd_same)) (.cons (dp_two (h4 _ _ upd_same)) .nil))), by decide +kernel, by decide +kernel, ?_⟩
      rw [show PyData.eqv (.list [two "InvalidCount" "7", two "InvalidStep" "0", two "InvalidGain" "100"]) (.list [two "InvalidCount" "7", two "InvalidStep" "0", two "InvalidGain" "100"]) = true from by decide +kernel]
      have FE := F6.same h14
      exact k _ (kk6.trans (Kp.same (a := a) h14)) (FE.S.le (by omega)) FE.T
end
end K11

namespace Hk
open PySem PySem.Spec PyProof.Rows L2
theorem op_mulS9 {X : Cx} : OpR X (binaryOp .Mult) (fun x y H Q => x = .str "x" ∧ y = .int 9 ∧ Q (.str "xxxxxxxxx") H) := by
  intro pins s σ H x y v u Q I rx ry h
  obtain ⟨rfl, rfl, q⟩ := h
  obtain ⟨t, rfl⟩ := rx
  obtain ⟨t2, rfl⟩ := ry
  refine PySem.P.mul_str (by decide) (fun _ _ => by decide) (fun _ _ => by decide) ?_
  rw [if_neg (by decide), if_neg (by decide)]
  exact ⟨by decide, .str _, H, I.tok _, ⟨_, rfl⟩, q⟩
end Hk
namespace K11
open PySem PySem.Spec PyProof.Rows L2 Hk NumM NumT SX L2H LamX
structure NmAt (K : Fr) (H : Hp) (a : Addr) (y : V) (z : Str) : Prop where
  sh : Shows K H y z
  ne : y ≠ .ref a
  nn : (∃ l, y = .str (S l) ∧ l.length ≤ 1000 ∧ nmL l = false) ∨ NotStr K H y
theorem NmAt.kp {K : Fr} {H H' : Hp} {a n : Addr} {y : V} {z : Str} (h : NmAt K H a y z) (s : SrcAt a n H) (k : Kp a H H') : NmAt K H' a y z :=
  ⟨h.sh.kp s h.ne k, h.ne, h.nn.imp id fun ⟨ty, h1, h2⟩ => ⟨ty, tyx_kp h1 h.ne k, h2⟩⟩
structure NF (K : Fr) (a : Addr) (n : Nat) (xs : List V) (H : Hp) : Prop where
  S : SrcAt a n H
  T : Tabs (TR K) H
  al : ∀ y ∈ xs, ∃ z, NmAt K H a y z
structure NY (K : Fr) (a : Addr) (n : Nat) (xs : List V) (y : V) (z : Str) (H : Hp) : Prop where
  S : SrcAt a n H
  T : Tabs (TR K) H
  al : ∀ y ∈ xs, ∃ z, NmAt K H a y z
  ny : NmAt K H a y z
section
variable {K : Fr} {a : Addr} {n : Nat} {xs : List V} {y : V} {z : Str} {H H' : Hp}
theorem NF.kp {n' : Nat} (F : NF K a n xs H) (k : Kp a H H') (s : SrcAt a n' H') (t : Tabs (TR K) H') : NF K a n' xs H' := ⟨s, t, fun y hy => by
  obtain ⟨z, h⟩ := F.al y hy
  exact ⟨z, h.kp F.S k⟩⟩
theorem NF.same (F : NF K a n xs H) (s : Same H H') : NF K a n xs H' := F.kp (Kp.same s) (F.S.same s) (F.T.ext s)
theorem NF.put (F : NF K a n xs H) {p : Addr} {o : HO} (np : H p = none) : NF K a n xs (upd H p o) := F.same (same_upd np)
theorem NY.kp (F : NY K a n xs y z H) (k : Kp a H H') (s : SrcAt a n H') (t : Tabs (TR K) H') : NY K a n xs y z H' := by
  have f : NF K a n xs H' := NF.kp ⟨F.S, F.T, F.al⟩ k s t
  exact ⟨s, t, f.al, F.ny.kp F.S k⟩
theorem NY.ext (F : NY K a n xs y z H) (e : ExtN H H') (t : Tabs (TR K) H') : NY K a n xs y z H' := F.kp (Kp.ext e) (src_ext F.S e) t
theorem NY.same (F : NY K a n xs y z H) (s : Same H H') : NY K a n xs y z H' := F.kp (Kp.same s) (F.S.same s) (F.T.ext s)
theorem NY.put (F : NY K a n xs y z H) {p : Addr} {o : HO} (np : H p = none) : NY K a n xs y z (upd H p o) := F.same (same_upd np)
end
theorem nm_x : nmB "x" = true := by decide +kernel
theorem mem_cut {xs : List V} {lo hi : Option Int} {y : V} (h : y ∈ cutV xs lo hi) : y ∈ xs := List.mem_of_mem_drop (List.mem_of_mem_take h)
section
variable {P : Program} {w : World} {K : Fr} {mg : Str → Option Value} {base : Heap}
abbrev N_names : List Str := ["_law_source_here", "_law_some", "_law_at", "_law_odd_here", "_law_found"]
theorem c_names (T : Tx K mg) (TB : TabB base mg (cOf d_l_names_right K) (pOf d_l_names_right K)) : CalG P w K mg base 11 "_law_names_right" (gAd "_law_names_right" K) ["_law_source_here"] (spChk K) := by
  have C_l_pick := c_pick (P := P) (w := w) (base := base) T
  obtain ⟨f0, D0, F0⟩ := f_init (P := P) (w := w) (base := base) T
  obtain ⟨ds, Vd, B0⟩ := b_init1 D0
  obtain ⟨fdN, D_Name, F_Name⟩ := f_nminit (P := P) (w := w) (base := base) T
  obtain ⟨xn, XD_Name, X_Name⟩ := f_nmX (P := P) (w := w) (base := base) T
  obtain ⟨ft, Dt⟩ := a_l_caught T.c
  refine calg_c (d := d_l_names_right) (N := N_names) (a_l_names_right T.c) rfl sc_l_names_right (g_l_names_right T) (fun _ _ _ _ _ _ us hl => match us, hl with | [_], _ => rfl) (fun vs H Q E h => ?_) (fun A outer s H vs Q E hr hc h => ?_)
  · obtain ⟨a, n, rfl, _⟩ := h
    rfl
  · obtain ⟨a, n, rfl, hs, hn, hT, k⟩ := h
    have RR : CallR (LX P w K mg base d_l_names_right N_names A outer s H E) (.builtin "repr") (rA K) := rr_calm T hc (hr.mono (by decide))
    refine ⟨_, (pss_cons (ps_set (i := 1) sc_l_names_right.nd rfl (.inl rfl) (pe_lst (pa_cons pe_non (pa_cons pe_int (pa_cons pe_bl (pa_cons (pe_tup pa_nil) (pa_cons (pe_lst pa_nil) (pa_cons pe_dnewK (pa_cons (pe_lst (pa_cons pe_str pa_nil)) (pa_cons (pe_tup (pa_cons pe_str pa_nil)) (pa_cons pe_str (pa_cons pe_str (pa_cons pe_str (pa_cons pe_str (pa_cons pe_str (pa_cons pe_str (pa_cons pe_str (pa_cons pe_str (pa_cons pe_str (pa_cons pe_str pa_nil))))))))))))))))))))
 (pss_cons (ps_set (i := 1) sc_l_names_right.nd rfl (.inl rfl) (pe_op op_cat (pv 1) (pe_lst (pa_cons (pe_op op_mulS9 pe_str pe_int) (pa_cons pe_str (pa_cons pe_str (pa_cons pe_str (pa_cons pe_str (pa_cons (pe_make (mk_Name T) F_Name (hr.mono (by decide)) rfl (g_Name T) (b_Name D_Name) .nil pass0 (pa_cons pe_str pa_nil)) (pa_cons (pe_num (mkN T) F0 (hr.mono (by decide)) (g_Number T) B0 Vd (pa_cons pe_int pa_nil)) pa_nil))))))))))
 (pss_cons (ps_set (i := 2) sc_l_names_right.nd rfl (.inl rfl) (pe_c C_l_pick (hr.mono (by decide)) (pa_cons (pv 0) (pa_cons pe_int pa_nil))))
 (pss_cons (ps_for PassesOwn.never rfl (pi_list (pe_op op_cat (pe_slice sl_list (pv 1) (po_some (pv 2)) po_none) (pe_slice sl_list (pv 1) po_none (po_some pe_int)))) (pg_name (i := 3) sc_l_names_right.nd rfl (.inr rfl))
 (pss_cons (ps_set (i := 4) sc_l_names_right.nd rfl (.inl rfl) (pe_lst (pa_cons (pe_caught (i := 0) T rfl TB hr hc Dt (lamS_by (by decide +kernel)) rfl (fun _ _ _ _ _ => rfl) (fun A outer s H E f c' hr' => (pe_make (E := E) (mk_Name T) X_Name (hr'.mono (by decide)) rfl (g_Name T) (b_Name XD_Name) .nil (L2N.passes_call takes_lam (fun _ _ _ _ z => z)) (pa_cons (pv 3) pa_nil)))) (pa_cons (pe_caught (i := 0) T rfl TB hr hc Dt (lamS_by (by decide +kernel)) rfl (fun _ _ _ _ _ => rfl) (fun A outer s H E f c' hr' => (pe_makeK0 (E := E) (mk_Name T) X_Name (hr'.mono (by decide)) rfl (g_Name T) (kb_Name XD_Name) (L2N.passes_call takes_lam (fun _ _ _ _ z => z)) (pk_cons (pv 3) pk_nil)))) pa_nil))))
 (pss_one (ps_if (pt_cmpR (op_neD hr.units) (pv 4) (pe_op op_rep (pe_lst (pa_cons (pe_lst (pa_cons pe_str (pa_cons (pe_callB RR (by rfl) (n_repr T) bo_repr (pa_cons (pv 3) pa_nil)) pa_nil))) pa_nil)) pe_int) (nomark _))
 (pss_one (ps_ret pe_bl))
 pss_nil))))
 (pss_one (ps_ret pe_bl)))))), ?_⟩
    obtain ⟨G0, hG0⟩ : ∃ G0 : Hp, G0 = H := ⟨_, rfl⟩
    have e0 : Same H G0 := by rw [hG0]; exact Same.refl H
    rw [← hG0]
    clear hG0
    refine ⟨(by show 0 ≤ sizeLine; decide), fun p1 n1 => ?_⟩
    have e1 : Same G0 (upd G0 p1 (HO.tup [])) := same_upd n1
    have c1 : (upd G0 p1 (HO.tup [])) p1 = some (HO.tup []) := upd_same
    generalize hG1 : (upd G0 p1 (HO.tup [])) = G1 at e1 c1 ⊢
    clear hG1
    refine ⟨(by show 0 ≤ sizeLine; decide), fun p2 n2 => ?_⟩
    have e2 : Same G1 (upd G1 p2 (HO.lst [])) := same_upd n2
    have c2 : (upd G1 p2 (HO.lst [])) p2 = some (HO.lst []) := upd_same
    generalize hG2 : (upd G1 p2 (HO.lst [])) = G2 at e2 c2 ⊢
    clear hG2
    intro p3 n3
    have e3 : Same G2 (upd G2 p3 (HO.dK [])) := same_upd n3
    have c3 : (upd G2 p3 (HO.dK [])) p3 = some (HO.dK []) := upd_same
    generalize hG3 : (upd G2 p3 (HO.dK [])) = G3 at e3 c3 ⊢
    clear hG3
    refine ⟨(by show 1 ≤ sizeLine; decide), fun p4 n4 => ?_⟩
    have e4 : Same G3 (upd G3 p4 (HO.lst [.str "x"])) := same_upd n4
    have c4 : (upd G3 p4 (HO.lst [.str "x"])) p4 = some (HO.lst [.str "x"]) := upd_same
    generalize hG4 : (upd G3 p4 (HO.lst [.str "x"])) = G4 at e4 c4 ⊢
    clear hG4
    refine ⟨(by show 1 ≤ sizeLine; decide), fun p5 n5 => ?_⟩
    have e5 : Same G4 (upd G4 p5 (HO.tup [.str "x"])) := same_upd n5
    have c5 : (upd G4 p5 (HO.tup [.str "x"])) p5 = some (HO.tup [.str "x"]) := upd_same
    generalize hG5 : (upd G4 p5 (HO.tup [.str "x"])) = G5 at e5 c5 ⊢
    clear hG5
    refine ⟨(by show 18 ≤ sizeLine; decide), fun p6 n6 => ?_⟩
    have e6 : Same G5 (upd G5 p6 (HO.lst [.non, .int 1, .bl true, .ref p1, .ref p2, .ref p3, .ref p4, .ref p5, .str "", .str " x", .str "x ", .str "X", .str "aB", .str "1x", .str "0", .str "x_y", .str "a.b", .str "abcdefghi"])) := same_upd n6
    have c6 : (upd G5 p6 (HO.lst [.non, .int 1, .bl true, .ref p1, .ref p2, .ref p3, .ref p4, .ref p5, .str "", .str " x", .str "x ", .str "X", .str "aB", .str "1x", .str "0", .str "x_y", .str "a.b", .str "abcdefghi"])) p6 = some (HO.lst [.non, .int 1, .bl true, .ref p1, .ref p2, .ref p3, .ref p4, .ref p5, .str "", .str " x", .str "x ", .str "X", .str "aB", .str "1x", .str "0", .str "x_y", .str "a.b", .str "abcdefghi"]) := upd_same
    generalize hG6 : (upd G5 p6 (HO.lst [.non, .int 1, .bl true, .ref p1, .ref p2, .ref p3, .ref p4, .ref p5, .str "", .str " x", .str "x ", .str "X", .str "aB", .str "1x", .str "0", .str "x_y", .str "a.b", .str "abcdefghi"])) = G6 at e6 c6 ⊢
    clear hG6
    have nmx := nm_lit nm_x
    refine ⟨_, rfl, rfl, rfl, ?_⟩
    refine fun pm dm nx nd ne => ⟨pm, dm, ("x" : Str).cps.toList, by rw [S_tl]; rfl, upd_same, nmx, fun G7 om sgs => ⟨rfl, ?_⟩⟩
    have e7 : Same G6 G7 := old_same nx (same_new nx nd) om
    refine ⟨3, 1, rfl, by decide, sz1, fun G8 pn e8 n8 N8 => ?_⟩
    rw [(low_one 3).1, (low_one 3).2] at N8
    refine ⟨(by show 7 ≤ sizeLine; decide), fun p9 n9 => ?_⟩
    have e9 : Same G8 (upd G8 p9 (HO.lst [.str "xxxxxxxxx", .str "x1234567y", .str "sum(x)", .str "x\n", .str "-x", .ref pm, .ref pn])) := same_upd n9
    have c9 : (upd G8 p9 (HO.lst [.str "xxxxxxxxx", .str "x1234567y", .str "sum(x)", .str "x\n", .str "-x", .ref pm, .ref pn])) p9 = some (HO.lst [.str "xxxxxxxxx", .str "x1234567y", .str "sum(x)", .str "x\n", .str "-x", .ref pm, .ref pn]) := upd_same
    generalize hG9 : (upd G8 p9 (HO.lst [.str "xxxxxxxxx", .str "x1234567y", .str "sum(x)", .str "x\n", .str "-x", .ref pm, .ref pn])) = G9 at e9 c9 ⊢
    clear hG9
    have c69 := (((e7.trans e8).trans e9)) _ _ c6
    refine ⟨p6, p9, _, _, rfl, rfl, c69, c9, (by show 25 ≤ sizeLine; decide), fun pL nL => ?_⟩
    have eL := same_upd (o := HO.lst ([.non, .int 1, .bl true, .ref p1, .ref p2, .ref p3, .ref p4, .ref p5, .str "", .str " x", .str "x ", .str "X", .str "aB", .str "1x", .str "0", .str "x_y", .str "a.b", .str "abcdefghi"] ++ [.str "xxxxxxxxx", .str "x1234567y", .str "sum(x)", .str "x\n", .str "-x", .ref pm, .ref pn])) nL
    have cL : (upd G9 pL (HO.lst ([.non, .int 1, .bl true, .ref p1, .ref p2, .ref p3, .ref p4, .ref p5, .str "", .str " x", .str "x ", .str "X", .str "aB", .str "1x", .str "0", .str "x_y", .str "a.b", .str "abcdefghi"] ++ [.str "xxxxxxxxx", .str "x1234567y", .str "sum(x)", .str "x\n", .str "-x", .ref pm, .ref pn]))) pL = some (HO.lst ([.non, .int 1, .bl true, .ref p1, .ref p2, .ref p3, .ref p4, .ref p5, .str "", .str " x", .str "x ", .str "X", .str "aB", .str "1x", .str "0", .str "x_y", .str "a.b", .str "abcdefghi"] ++ [.str "xxxxxxxxx", .str "x1234567y", .str "sum(x)", .str "x\n", .str "-x", .ref pm, .ref pn])) := upd_same
    generalize hGL : upd G9 pL (HO.lst ([.non, .int 1, .bl true, .ref p1, .ref p2, .ref p3, .ref p4, .ref p5, .str "", .str " x", .str "x ", .str "X", .str "aB", .str "1x", .str "0", .str "x_y", .str "a.b", .str "abcdefghi"] ++ [.str "xxxxxxxxx", .str "x1234567y", .str "sum(x)", .str "x\n", .str "-x", .ref pm, .ref pn])) = GL at eL cL ⊢
    clear hGL
    obtain ⟨xs, hxs⟩ : ∃ xs : List V, xs = ([.non, .int 1, .bl true, .ref p1, .ref p2, .ref p3, .ref p4, .ref p5, .str "", .str " x", .str "x ", .str "X", .str "aB", .str "1x", .str "0", .str "x_y", .str "a.b", .str "abcdefghi"] ++ [.str "xxxxxxxxx", .str "x1234567y", .str "sum(x)", .str "x\n", .str "-x", .ref pm, .ref pn]) := ⟨_, rfl⟩
    rw [← hxs] at cL
    have lx : xs.length = 25 := by
      rw [hxs]
      rfl
    have s9 := eL
    have s8 := e9.trans s9
    have s7 := e8.trans s8
    have s6 := e7.trans s7
    have s5 := e6.trans s6
    have s4 := e5.trans s5
    have s3 := e4.trans s4
    have s2 := e3.trans s3
    have s1 := e2.trans s2
    have s0 := e0.trans (e1.trans s1)
    have nn : ∀ {G : Hp} {p : Addr}, Same H G → G p = none → V.ref p ≠ V.ref a := fun {G p} h2 h3 z => by
      cases z
      obtain ⟨d, e, c, q, _⟩ := hs.same h2
      rw [q] at h3
      cases h3
    have b1 := e0.trans e1
    have b2 := b1.trans e2
    have b3 := b2.trans e3
    have b4 := b3.trans e4
    have b5 := b4.trans e5
    have b6 := b5.trans e6
    have b7 := b6.trans e7
    have b9 := (b7.trans e8).trans e9
    have sz3 : Sz 3 := by decide +kernel
    have FL : NF K a n xs GL := by
      have d1 := s1 _ _ c1
      have d2 := s2 _ _ c2
      have d3 := s3 _ _ c3
      have d4 := s4 _ _ c4
      have d5 := s5 _ _ c5
      have m1 := nn e0 n1
      have m2 := nn b1 n2
      have m3 := nn b2 n3
      have m4 := nn b3 n4
      have m5 := nn b4 n5
      have mm := nn b6 nx
      have mn := nn b7 n8
      have sgm : SigAt K GL 1 (.name ("x" : Str).cps.toList) pm := (sgs 0).same s7
      have Nn := N8.same s8
      refine ⟨hs.same s0, hT.ext s0, fun y hy => ?_⟩
      rw [hxs] at hy
      simp only [List.cons_append, List.nil_append, List.mem_cons, List.not_mem_nil, or_false] at hy
      rcases hy with rfl | rfl | rfl | rfl | rfl | rfl | rfl | rfl | rfl | rfl | rfl | rfl | rfl | rfl | rfl | rfl | rfl | rfl | rfl | rfl | rfl | rfl | rfl | rfl | rfl
      · exact ⟨_, .flat .non txt_non, (fun z => nomatch z), .inr ⟨_, .base .non, kit_ty (a := "NoneType") (b := "str") (by decide +kernel)⟩⟩
      · exact ⟨_, .flat (.int 1) ⟨by decide +kernel, by decide +kernel, by decide +kernel, lit_asc (by decide +kernel)⟩, (fun z => nomatch z), .inr ⟨_, .base (.int _), kit_ty (a := "int") (b := "str") (by decide +kernel)⟩⟩
      · exact ⟨_, .flat (.bl true) (txt_bl true), (fun z => nomatch z), .inr ⟨_, .base (.bl _), kit_ty (a := "bool") (b := "str") (by decide +kernel)⟩⟩
      · exact ⟨_, .tup d1 .nil ⟨by decide +kernel, by decide +kernel, by decide +kernel, lit_asc (by decide +kernel)⟩, m1, .inr ⟨_, .base (.tup d1), kit_ty (a := "tuple") (b := "str") (by decide +kernel)⟩⟩
      · exact ⟨_, .lst d2 .nil ⟨by decide +kernel, by decide +kernel, by decide +kernel, lit_asc (by decide +kernel)⟩, m2, .inr ⟨_, .base (.lst d2), kit_ty (a := "list") (b := "str") (by decide +kernel)⟩⟩
      · exact ⟨_, .dct d3, m3, .inr ⟨_, .base (.dK d3), kit_ty (a := "dict") (b := "str") (by decide +kernel)⟩⟩
      · exact ⟨_, .lst d4 (.cons (.str "x") .nil) ⟨by decide +kernel, by decide +kernel, by decide +kernel, lit_asc (by decide +kernel)⟩, m4, .inr ⟨_, .base (.lst d4), kit_ty (a := "list") (b := "str") (by decide +kernel)⟩⟩
      · exact ⟨_, .tup d5 (.cons (.str "x") .nil) ⟨by decide +kernel, by decide +kernel, by decide +kernel, lit_asc (by decide +kernel)⟩, m5, .inr ⟨_, .base (.tup d5), kit_ty (a := "tuple") (b := "str") (by decide +kernel)⟩⟩
      · exact ⟨_, .flat (.str "") ⟨by decide +kernel, by decide +kernel, by decide +kernel, lit_asc (by decide +kernel)⟩, (fun z => nomatch z), .inl ⟨("" : Str).cps.toList, by rw [S_tl], by decide +kernel, by decide +kernel⟩⟩
      · exact ⟨_, .flat (.str " x") ⟨by decide +kernel, by decide +kernel, by decide +kernel, lit_asc (by decide +kernel)⟩, (fun z => nomatch z), .inl ⟨(" x" : Str).cps.toList, by rw [S_tl], by decide +kernel, by decide +kernel⟩⟩
      · exact ⟨_, .flat (.str "x ") ⟨by decide +kernel, by decide +kernel, by decide +kernel, lit_asc (by decide +kernel)⟩, (fun z => nomatch z), .inl ⟨("x " : Str).cps.toList, by rw [S_tl], by decide +kernel, by decide +kernel⟩⟩
      · exact ⟨_, .flat (.str "X") ⟨by decide +kernel, by decide +kernel, by decide +kernel, lit_asc (by decide +kernel)⟩, (fun z => nomatch z), .inl ⟨("X" : Str).cps.toList, by rw [S_tl], by decide +kernel, by decide +kernel⟩⟩
      · exact ⟨_, .flat (.str "aB") ⟨by decide +kernel, by decide +kernel, by decide +kernel, lit_asc (by decide +kernel)⟩, (fun z => nomatch z), .inl ⟨("aB" : Str).cps.toList, by rw [S_tl], by decide +kernel, by decide +kernel⟩⟩
      · exact ⟨_, .flat (.str "1x") ⟨by decide +kernel, by decide +kernel, by decide +kernel, lit_asc (by decide +kernel)⟩, (fun z => nomatch z), .inl ⟨("1x" : Str).cps.toList, by rw [S_tl], by decide +kernel, by decide +kernel⟩⟩
      · exact ⟨_, .flat (.str "0") ⟨by decide +kernel, by decide +kernel, by decide +kernel, lit_asc (by decide +kernel)⟩, (fun z => nomatch z), .inl ⟨("0" : Str).cps.toList, by rw [S_tl], by decide +kernel, by decide +kernel⟩⟩
      · exact ⟨_, .flat (.str "x_y") ⟨by decide +kernel, by decide +kernel, by decide +kernel, lit_asc (by decide +kernel)⟩, (fun z => nomatch z), .inl ⟨("x_y" : Str).cps.toList, by rw [S_tl], by decide +kernel, by decide +kernel⟩⟩
      · exact ⟨_, .flat (.str "a.b") ⟨by decide +kernel, by decide +kernel, by decide +kernel, lit_asc (by decide +kernel)⟩, (fun z => nomatch z), .inl ⟨("a.b" : Str).cps.toList, by rw [S_tl], by decide +kernel, by decide +kernel⟩⟩
      · exact ⟨_, .flat (.str "abcdefghi") ⟨by decide +kernel, by decide +kernel, by decide +kernel, lit_asc (by decide +kernel)⟩, (fun z => nomatch z), .inl ⟨("abcdefghi" : Str).cps.toList, by rw [S_tl], by decide +kernel, by decide +kernel⟩⟩
      · exact ⟨_, .flat (.str "xxxxxxxxx") ⟨by decide +kernel, by decide +kernel, by decide +kernel, lit_asc (by decide +kernel)⟩, (fun z => nomatch z), .inl ⟨("xxxxxxxxx" : Str).cps.toList, by rw [S_tl], by decide +kernel, by decide +kernel⟩⟩
      · exact ⟨_, .flat (.str "x1234567y") ⟨by decide +kernel, by decide +kernel, by decide +kernel, lit_asc (by decide +kernel)⟩, (fun z => nomatch z), .inl ⟨("x1234567y" : Str).cps.toList, by rw [S_tl], by decide +kernel, by decide +kernel⟩⟩
      · exact ⟨_, .flat (.str "sum(x)") ⟨by decide +kernel, by decide +kernel, by decide +kernel, lit_asc (by decide +kernel)⟩, (fun z => nomatch z), .inl ⟨("sum(x)" : Str).cps.toList, by rw [S_tl], by decide +kernel, by decide +kernel⟩⟩
      · exact ⟨_, .flat (.str "x\n") ⟨by decide +kernel, by decide +kernel, by decide +kernel, lit_asc (by decide +kernel)⟩, (fun z => nomatch z), .inl ⟨("x\n" : Str).cps.toList, by rw [S_tl], by decide +kernel, by decide +kernel⟩⟩
      · exact ⟨_, .flat (.str "-x") ⟨by decide +kernel, by decide +kernel, by decide +kernel, lit_asc (by decide +kernel)⟩, (fun z => nomatch z), .inl ⟨("-x" : Str).cps.toList, by rw [S_tl], by decide +kernel, by decide +kernel⟩⟩
      · exact ⟨_, .sig sgm (shown_name_asc nmx) (shown_name_len nmx), mm, .inr ⟨_, .base (ty_sig T sgm), of_decide_eq_true (f_kitB_Name_str T.c)⟩⟩
      · exact ⟨_, .num Nn sz3 sz1, mn, .inr ⟨_, ty_num T Nn, of_decide_eq_true (f_kitB_Number_str T.c)⟩⟩
    have kL : Kp a H GL := Kp.same s0
    have hLa : pL ≠ a := fun z => nn b9 nL (by rw [z])
    clear s9 s8 s7 s6 s5 s4 s3 s2 s1 b1 b2 b3 b4 b5 b6 b7 b9 c1 c2 c3 c4 c5 c6 c9 c69 e1 e2 e3 e4 e5 e6 e7 e8 e9 eL N8 sgs om n1 n2 n3 n4 n5 n6 n8 n9 nL nx nd ne hxs
    refine ⟨_, rfl, a, 25, n, rfl, FL.S, by omega, by decide, by decide, fun v H2 v0 v1 o2 S2 => ?_⟩
    have F2 := FL.kp (Kp.old o2) S2 (tabs_old FL.T FL.S o2)
    have k2 := kL.trans (Kp.old o2)
    have c2 := o2 _ _ cL hLa
    have l1 := cutV_length xs (some v) none
    have l2 := cutV_length xs none (some 5)
    obtain ⟨w1, hw1⟩ : ∃ w1, w1 = cutV xs (some v) none := ⟨_, rfl⟩
    obtain ⟨w2, hw2⟩ : ∃ w2, w2 = cutV xs none (some 5) := ⟨_, rfl⟩
    refine ⟨_, rfl, _, rfl, v, rfl, pL, xs, rfl, .inl (.inl c2), fun q1 nq1 => ?_⟩
    rw [← hw1]
    have f1 := same_upd (o := HO.lst w1) nq1
    refine ⟨_, rfl, 5, rfl, pL, xs, rfl, .inl (.inl (f1 _ _ c2)), fun q2 nq2 => ?_⟩
    rw [← hw2]
    have f2 := same_upd (o := HO.lst w2) nq2
    refine ⟨q1, q2, w1, w2, rfl, rfl, f2 _ _ upd_same, upd_same, Nat.le_trans (show w1.length + w2.length ≤ 50 by rw [hw1, hw2]; omega) (by decide), fun q3 nq3 => ⟨_, rfl, ⟨_, .inl (.inl upd_same)⟩, ?_⟩⟩
    have f3 := (f1.trans f2).trans (same_upd (o := HO.lst (w1 ++ w2)) nq3)
    have F3 := F2.same f3
    have k3 := k2.trans (Kp.same (a := a) f3)
    have dL : (upd (upd (upd H2 q1 (HO.lst w1)) q2 (HO.lst w2)) q3 (HO.lst (w1 ++ w2))) q3 = some (.lst (w1 ++ w2)) := upd_same
    have h3a : q3 ≠ a := fun z => by
      obtain ⟨r1, r2, r3, r4, _⟩ := (S2.same f1).same f2
      rw [z, r4] at nq3
      cases nq3
    generalize hG : upd (upd (upd H2 q1 (HO.lst w1)) q2 (HO.lst w2)) q3 (HO.lst (w1 ++ w2)) = H3 at F3 k3 dL ⊢
    clear hG f3 f2 f1 nq1 nq2 nq3 F2 k2 c2 FL kL cL o2
    have mem : ∀ y ∈ w1 ++ w2, y ∈ xs := fun y hy => by
      rcases List.mem_append.mp hy with h | h
      · rw [hw1] at h
        exact mem_cut h
      · rw [hw2] at h
        exact mem_cut h
    refine for_list (a := q3) (xs := w1 ++ w2) (fun i σ H' => Kp a H H' ∧ NF K a (n + 1) xs H' ∧ H' q3 = some (.lst (w1 ++ w2)) ∧ ∃ x3 x4, σ = [some (.ref a), some (.ref pL), some (.int v), x3, x4]) ⟨k3, F3, dL, _, _, rfl⟩ (fun i σ H' _ h => .inl (.inl h.2.2.1)) ?_ ?_
    · rintro i y σ W0 hy ⟨kk0, FF, dL, x3, x4, rfl⟩
      obtain ⟨z, ny⟩ := FF.al y (mem y (List.mem_of_getElem? hy))
      have F0 : NY K a (n + 1) xs y z W0 := ⟨FF.S, FF.T, FF.al, ny⟩
      clear FF
      refine ⟨F0.T, fun A1 x t => ⟨_, rfl, x_name (F0.ext x t).ny.nn (b_name T (F0.ext x t).ny.sh fun B1 l1 s nl => ?_)⟩⟩
      have F1 := ((F0.ext x t).same s).put nl (o := HO.lst [.str "InvalidName", .str z])
      have kk1 : Kp a H _ := (kk0.trans (Kp.ext x)).trans (Kp.same (s.trans (same_upd nl (o := HO.lst [.str "InvalidName", .str z]))))
      have dL := (s.trans (same_upd nl (o := HO.lst [.str "InvalidName", .str z]))) _ _ (x _ _ dL (fun ps z => nomatch z))
      have c1 : (upd B1 l1 (HO.lst [.str "InvalidName", .str z])) l1 = some (HO.lst [.str "InvalidName", .str z]) := upd_same
      generalize hG : upd B1 l1 (HO.lst [.str "InvalidName", .str z]) = W1 at F1 kk1  dL c1 ⊢
      clear hG nl s t x F0 kk0
      refine ⟨F1.T, fun A2 x t => ⟨_, rfl, rfl, rfl, x_name (F1.ext x t).ny.nn (b_name T (F1.ext x t).ny.sh fun B2 l2 s nl => ?_)⟩⟩
      have F2 := ((F1.ext x t).same s).put nl (o := HO.lst [.str "InvalidName", .str z])
      have kk2 : Kp a H _ := (kk1.trans (Kp.ext x)).trans (Kp.same (s.trans (same_upd nl (o := HO.lst [.str "InvalidName", .str z]))))
      have dL := (s.trans (same_upd nl (o := HO.lst [.str "InvalidName", .str z]))) _ _ (x _ _ dL (fun ps z => nomatch z))
      have c1 := (s.trans (same_upd nl (o := HO.lst [.str "InvalidName", .str z]))) _ _ (x _ _ c1 (fun ps z => nomatch z))
      have c2 : (upd B2 l2 (HO.lst [.str "InvalidName", .str z])) l2 = some (HO.lst [.str "InvalidName", .str z]) := upd_same
      generalize hG : upd B2 l2 (HO.lst [.str "InvalidName", .str z]) = W2 at F2 kk2  dL c1 c2 ⊢
      clear hG nl s t x F1 kk1
      refine ⟨(by show 2 ≤ sizeLine; decide), fun L5 nl => ?_⟩
      have F3 := F2.put nl (o := HO.lst [.ref l1, .ref l2])
      have kk3 := kk2.trans (Kp.same (a := a) (same_upd nl (o := HO.lst [.ref l1, .ref l2])))
      have dL := (same_upd nl (o := HO.lst [.ref l1, .ref l2])) _ _ dL
      have c1 := (same_upd nl (o := HO.lst [.ref l1, .ref l2])) _ _ c1
      have c2 := (same_upd nl (o := HO.lst [.ref l1, .ref l2])) _ _ c2
      have dL5 : (upd W2 L5 (HO.lst [.ref l1, .ref l2])) L5 = some (HO.lst [.ref l1, .ref l2]) := upd_same
      generalize hG : upd W2 L5 (HO.lst [.ref l1, .ref l2]) = W3 at F3 kk3  dL c1 c2 dL5 ⊢
      clear hG nl F2 kk2
      have dK := dL
      refine ⟨_, rfl, _, rfl, Shows.rA T F3.ny.sh ⟨(by show 2 ≤ sizeLine; decide), fun r nr => ⟨(by show 1 ≤ sizeLine; decide), fun q nq => ⟨q, 2, _, rfl, rfl, upd_same, by decide, by decide, (by show 2 ≤ sizeLine; decide), fun p np => ?_⟩⟩⟩⟩
      have e1 := same_upd (o := HO.lst [.str "InvalidName", .str z]) nr
      have e2 := e1.trans (same_upd (o := HO.lst [.ref r]) nq)
      have e3 : Same W3 (upd _ p (HO.lst (List.replicate (Int.toNat 2) [V.ref r]).flatten)) := e2.trans (same_upd np)
      have hr := ((same_upd (o := HO.lst [.ref r]) nq).trans (same_upd (o := HO.lst [.ref r, .ref r]) np)) r (HO.lst [.str "InvalidName", .str z]) upd_same
      refine ⟨many 2 "InvalidName" z, many 2 "InvalidName" z, .lst (.inl (.inl (e3 _ _ dL5))) ((.cons (dp_two (e3 _ _ c1)) (.cons (dp_two (e3 _ _ c2)) .nil))), .lst (.inl (.inl upd_same)) ((.cons (dp_two hr) (.cons (dp_two hr) .nil))), shaped_2 (asc_w (by decide +kernel)) F3.ny.sh.asc, shaped_2 (asc_w (by decide +kernel)) F3.ny.sh.asc, ?_⟩
      rw [eqv_many]
      have dK := e3 _ _ dK
      refine ⟨_, rfl, iteF ?_⟩
      have F4 := F3.same e3
      have kk4 := kk3.trans (Kp.same (a := a) e3)
      generalize hG : upd _ p (HO.lst (List.replicate (Int.toNat 2) [V.ref r]).flatten) = W4 at F4 kk4 dK ⊢
      clear hG hr e3 e2 e1 np nq nr F3 kk3 c1 c2 dL5
      exact ⟨kk4, ⟨F4.S, F4.T, F4.al⟩, dK, _, _, rfl⟩
    · rintro σ W0 ⟨kk0, F0, dL, x3, x4, rfl⟩
      exact k W0 kk0 (F0.S.le (by omega)) F0.T
end
end K11

namespace K11
open PySem PySem.Spec PyProof.Rows L2 Hk NumM NumT SX L2H LamX
section
variable {P : Program} {w : World} {K : Fr} {mg : Str → Option Value} {base : Heap}
theorem c_totalX (T : Tx K mg) : CalN P w K mg base 7 "_law_total" (gAd "_law_total" K) ["_law_some"] (spTotX K) := by
  have Fs := f_smX (P := P) (w := w) (base := base) T
  refine caln_of (d := d_l_total) (N := ["_law_some"]) (a_l_total T.c) rfl sc_l_total (g_l_total T) (fun _ _ _ _ _ _ us hl => match us, hl with | [_], _ => rfl) (fun vs H Q E h => ?_) (fun cdv A outer s H vs Q E hr h => ?_)
  · obtain ⟨l, ys, i, y, rfl, _⟩ := h
    rfl
  · obtain ⟨l, ys, i, y, rfl, hL, h1, h5, hy, hn, hj, bad⟩ := h
    refine ⟨_, (pss_cons (ps_if (pt_cmpR op_eq (pe_callB call_len_seq (by rfl) (n_len T) bo_len (pa_cons (pv 0) pa_nil)) pe_int (nomark _))
 (pss_one (ps_ret (StX.pe_makeR (E := E) (mkSm T) Fs hr rfl (g_Sum T) (L2N.passes_call tk0 (fun _ _ _ _ z => z)) (pa_cons (pe_ix ix_list (pv 0) pe_int (fun _ _ => rfl)) pa_nil))))
 pss_nil)
 (pss_cons (ps_if (pt_cmpR op_eq (pe_callB call_len_seq (by rfl) (n_len T) bo_len (pa_cons (pv 0) pa_nil)) pe_int (nomark _))
 (pss_one (ps_ret (StX.pe_makeR (E := E) (mkSm T) Fs hr rfl (g_Sum T) (L2N.passes_call tk0 (fun _ _ _ _ z => z)) (pa_cons (pe_ix ix_list (pv 0) pe_int (fun _ _ => rfl)) (pa_cons (pe_ix ix_list (pv 0) pe_int (fun _ _ => rfl)) pa_nil)))))
 pss_nil)
 (pss_cons (ps_if (pt_cmpR op_eq (pe_callB call_len_seq (by rfl) (n_len T) bo_len (pa_cons (pv 0) pa_nil)) pe_int (nomark _))
 (pss_one (ps_ret (StX.pe_makeR (E := E) (mkSm T) Fs hr rfl (g_Sum T) (L2N.passes_call tk0 (fun _ _ _ _ z => z)) (pa_cons (pe_ix ix_list (pv 0) pe_int (fun _ _ => rfl)) (pa_cons (pe_ix ix_list (pv 0) pe_int (fun _ _ => rfl)) (pa_cons (pe_ix ix_list (pv 0) pe_int (fun _ _ => rfl)) pa_nil))))))
 pss_nil)
 (pss_cons (ps_if (pt_cmpR op_eq (pe_callB call_len_seq (by rfl) (n_len T) bo_len (pa_cons (pv 0) pa_nil)) pe_int (nomark _))
 (pss_one (ps_ret (StX.pe_makeR (E := E) (mkSm T) Fs hr rfl (g_Sum T) (L2N.passes_call tk0 (fun _ _ _ _ z => z)) (pa_cons (pe_ix ix_list (pv 0) pe_int (fun _ _ => rfl)) (pa_cons (pe_ix ix_list (pv 0) pe_int (fun _ _ => rfl)) (pa_cons (pe_ix ix_list (pv 0) pe_int (fun _ _ => rfl)) (pa_cons (pe_ix ix_list (pv 0) pe_int (fun _ _ => rfl)) pa_nil)))))))
 pss_nil)
 (pss_one (ps_ret (StX.pe_makeR (E := E) (mkSm T) Fs hr rfl (g_Sum T) (L2N.passes_call tk0 (fun _ _ _ _ z => z)) (pa_cons (pe_ix ix_list (pv 0) pe_int (fun _ _ => rfl)) (pa_cons (pe_ix ix_list (pv 0) pe_int (fun _ _ => rfl)) (pa_cons (pe_ix ix_list (pv 0) pe_int (fun _ _ => rfl)) (pa_cons (pe_ix ix_list (pv 0) pe_int (fun _ _ => rfl)) (pa_cons (pe_ix ix_list (pv 0) pe_int (fun _ _ => rfl)) pa_nil)))))))))))), ?_⟩
    have sq : SqL K H l ys := .inl (.inl hL)
    have mk : ∀ R : Addr → VK, MadeX (spSmXR K) (He.ga K "Sum") H R E ys := fun R => x_smodd h1 h5 hy hn hj bad
    by_cases g1 : ys.length = 1
    · obtain ⟨y0, rfl⟩ : ∃ y0, ys = [y0] := by
        match ys, g1 with
        | [y0], _ => exact ⟨y0, rfl⟩
      refine ⟨_, rfl, l, _, rfl, .inl sq, rfl, _, rfl, iteTd rfl ?_⟩
      exact ⟨_, rfl, l, _, 0, _, rfl, rfl, sq, rfl, mk _⟩
    by_cases g2 : ys.length = 2
    · obtain ⟨y0, y1, rfl⟩ : ∃ y0 y1, ys = [y0, y1] := by
        match ys, g2 with
        | [y0, y1], _ => exact ⟨y0, y1, rfl⟩
      refine ⟨_, rfl, l, _, rfl, .inl sq, rfl, _, rfl, iteFd (by simp) ?_⟩
      refine ⟨_, rfl, l, _, rfl, .inl sq, rfl, _, rfl, iteTd rfl ?_⟩
      exact ⟨_, rfl, l, _, 0, _, rfl, rfl, sq, rfl, _, rfl, l, _, 1, _, rfl, rfl, sq, rfl, mk _⟩
    by_cases g3 : ys.length = 3
    · obtain ⟨y0, y1, y2, rfl⟩ : ∃ y0 y1 y2, ys = [y0, y1, y2] := by
        match ys, g3 with
        | [y0, y1, y2], _ => exact ⟨y0, y1, y2, rfl⟩
      refine ⟨_, rfl, l, _, rfl, .inl sq, rfl, _, rfl, iteFd (by simp) ?_⟩
      refine ⟨_, rfl, l, _, rfl, .inl sq, rfl, _, rfl, iteFd (by simp) ?_⟩
      refine ⟨_, rfl, l, _, rfl, .inl sq, rfl, _, rfl, iteTd rfl ?_⟩
      exact ⟨_, rfl, l, _, 0, _, rfl, rfl, sq, rfl, _, rfl, l, _, 1, _, rfl, rfl, sq, rfl, _, rfl, l, _, 2, _, rfl, rfl, sq, rfl, mk _⟩
    by_cases g4 : ys.length = 4
    · obtain ⟨y0, y1, y2, y3, rfl⟩ : ∃ y0 y1 y2 y3, ys = [y0, y1, y2, y3] := by
        match ys, g4 with
        | [y0, y1, y2, y3], _ => exact ⟨y0, y1, y2, y3, rfl⟩
      refine ⟨_, rfl, l, _, rfl, .inl sq, rfl, _, rfl, iteFd (by simp) ?_⟩
      refine ⟨_, rfl, l, _, rfl, .inl sq, rfl, _, rfl, iteFd (by simp) ?_⟩
      refine ⟨_, rfl, l, _, rfl, .inl sq, rfl, _, rfl, iteFd (by simp) ?_⟩
      refine ⟨_, rfl, l, _, rfl, .inl sq, rfl, _, rfl, iteTd rfl ?_⟩
      exact ⟨_, rfl, l, _, 0, _, rfl, rfl, sq, rfl, _, rfl, l, _, 1, _, rfl, rfl, sq, rfl, _, rfl, l, _, 2, _, rfl, rfl, sq, rfl, _, rfl, l, _, 3, _, rfl, rfl, sq, rfl, mk _⟩
    obtain ⟨y0, y1, y2, y3, y4, rfl⟩ : ∃ y0 y1 y2 y3 y4, ys = [y0, y1, y2, y3, y4] := by
      match ys, (show ys.length = 5 by omega) with
      | [y0, y1, y2, y3, y4], _ => exact ⟨y0, y1, y2, y3, y4, rfl⟩
    refine ⟨_, rfl, l, _, rfl, .inl sq, rfl, _, rfl, iteFd (by simp) ?_⟩
    refine ⟨_, rfl, l, _, rfl, .inl sq, rfl, _, rfl, iteFd (by simp) ?_⟩
    refine ⟨_, rfl, l, _, rfl, .inl sq, rfl, _, rfl, iteFd (by simp) ?_⟩
    refine ⟨_, rfl, l, _, rfl, .inl sq, rfl, _, rfl, iteFd (by simp) ?_⟩
    exact ⟨_, rfl, l, _, 0, _, rfl, rfl, sq, rfl, _, rfl, l, _, 1, _, rfl, rfl, sq, rfl, _, rfl, l, _, 2, _, rfl, rfl, sq, rfl, _, rfl, l, _, 3, _, rfl, rfl, sq, rfl, _, rfl, l, _, 4, _, rfl, rfl, sq, rfl, mk _⟩
end
end K11

namespace K11
open PySem PySem.Spec PyProof.Rows L2 Hk NumM NumT SX L2H LamX
theorem shows_put {K : Fr} {H : Hp} {L : Addr} {xs : List V} {o : HO} {y : V} {z : Str} (h : Shows K H y z) (ne : y ≠ .ref L) (hL : H L = some (.lst xs)) : Shows K (upd H L o) y z := by
  have nr : ∀ {p : Addr} {u : HO}, (V.ref p ≠ .ref L) → H p = some u → upd H L o p = some u := fun {p u} h e => by
    rw [upd_ne (fun z => h (by rw [z]))]
    exact e
  cases h with
  | flat h t => exact .flat h t
  | tup e h t => exact .tup (nr ne e) h t
  | lst e h t => exact .lst (nr ne e) h t
  | dct e => exact .dct (nr ne e)
  | num N st sb =>
    obtain ⟨⟨dx, hp⟩, c, q⟩ := N
    exact .num ⟨⟨dx, nr ne hp⟩, c, q⟩ st sb
  | sig I az l => exact .sig (I.put hL) az l
  | tupS e I az l => exact .tupS (nr ne e) (I.put hL) az l
  | lstS e I az l => exact .lstS (nr ne e) (I.put hL) az l
  | dctS e I az l => exact .dctS (nr ne e) (I.put hL) az l
theorem tyx_put {K : Fr} {H : Hp} {L : Addr} {o : HO} {x : V} {ty : Value} (h : TyX K H x ty) (ne : x ≠ .ref L) : TyX K (upd H L o) x ty := by
  have k : Kp L H (upd H L o) := fun b u e n _ => by
    rw [upd_ne n]
    exact e
  exact tyx_kp h ne k
theorem OddAt.put {K : Fr} {H : Hp} {a L : Addr} {xs : List V} {o : HO} {y : V} {z : Str} (h : OddAt K H a y z) (ne : y ≠ .ref L) (hL : H L = some (.lst xs)) : OddAt K (upd H L o) a y z := by
  obtain ⟨ty, h1, h2⟩ := h.ns
  exact ⟨shows_put h.sh ne hL, h.ne, ty, tyx_put h1 ne, h2⟩
/-- what stands while the sums are checked: L is the list of terms, y the first that is none -/
structure SF (K : Fr) (a : Addr) (n : Nat) (m : Addr) (l : List Nat) (L : Addr) (ys : List V) (odd : V) (zo : Str) (y : V) (zy : Str) (H : Hp) : Prop where
  S : SrcAt a n H
  T : Tabs (TR K) H
  sg : SigAt K H 1 (.name l) m
  Lc : H L = some (.lst ys)
  La : L ≠ a
  od : OddAt K H a odd zo
  oL : odd ≠ .ref L
  yo : OddAt K H a y zy
  yL : y ≠ .ref L
section
variable {K : Fr} {a m L : Addr} {n : Nat} {l : List Nat} {ys : List V} {odd y : V} {zo zy : Str} {H H' : Hp}
theorem SF.kp {n' : Nat} (F : SF K a n m l L ys odd zo y zy H) (k : Kp a H H') (s : SrcAt a n' H') (t : Tabs (TR K) H') : SF K a n' m l L ys odd zo y zy H' :=
  ⟨s, t, sig_kp F.sg F.S k, k _ _ F.Lc F.La (fun ps z => nomatch z), F.La, F.od.kp F.S k, F.oL, F.yo.kp F.S k, F.yL⟩
theorem SF.ext (F : SF K a n m l L ys odd zo y zy H) (e : ExtN H H') (t : Tabs (TR K) H') : SF K a n m l L ys odd zo y zy H' := F.kp (Kp.ext e) (src_ext F.S e) t
theorem SF.same (F : SF K a n m l L ys odd zo y zy H) (s : Same H H') : SF K a n m l L ys odd zo y zy H' := F.kp (Kp.same s) (F.S.same s) (F.T.ext s)
theorem SF.put (F : SF K a n m l L ys odd zo y zy H) {p : Addr} {o : HO} (np : H p = none) : SF K a n m l L ys odd zo y zy (upd H p o) := F.same (same_upd np)
end
theorem ix_nat {n i : Nat} (h : i < n) : ixN n (i : Int) = some i := by
  unfold ixN
  rw [if_pos (by omega), if_pos (by omega), Int.toNat_natCast]
theorem txt_small {i : Nat} (h : i < 5) : Txt (.int i) := by
  match i, h with
  | 0, _ => exact ⟨by decide +kernel, by decide +kernel, by decide +kernel, lit_asc (by decide +kernel)⟩
  | 1, _ => exact ⟨by decide +kernel, by decide +kernel, by decide +kernel, lit_asc (by decide +kernel)⟩
  | 2, _ => exact ⟨by decide +kernel, by decide +kernel, by decide +kernel, lit_asc (by decide +kernel)⟩
  | 3, _ => exact ⟨by decide +kernel, by decide +kernel, by decide +kernel, lit_asc (by decide +kernel)⟩
  | 4, _ => exact ⟨by decide +kernel, by decide +kernel, by decide +kernel, lit_asc (by decide +kernel)⟩
theorem rep_one {n : Nat} {x : V} : (List.replicate ((n : Int)).toNat [x]).flatten = List.replicate n x := by
  rw [Int.toNat_natCast]
  induction n with
  | zero => rfl
  | succ n ih =>
    rw [List.replicate_succ, List.flatten_cons, ih]
    rfl
section
variable {P : Program} {w : World} {K : Fr} {mg : Str → Option Value} {base : Heap}
abbrev N_sums : List Str := ["_law_source_here", "_law_mate", "_law_many", "_law_some", "_law_at", "_law_odd_here", "_law_later", "_law_found"]
theorem c_sums (T : Tx K mg) (TB : TabB base mg (cOf d_l_sums_right K) (pOf d_l_sums_right K)) : CalG P w K mg base 11 "_law_sums_right" (gAd "_law_sums_right" K) ["_law_source_here"] (spChk K) := by
  have C_l_pick := c_pick (P := P) (w := w) (base := base) T
  have C_l_tag := c_tag (P := P) (w := w) (base := base) T
  have C_l_odd := c_odd (P := P) (w := w) (base := base) T
  have X_l_total := c_totalX (P := P) (w := w) (base := base) T
  have X_Sum := f_smX (P := P) (w := w) (base := base) T
  obtain ⟨fdN, D_Name, F_Name⟩ := f_nminit (P := P) (w := w) (base := base) T
  obtain ⟨ft, Dt⟩ := a_l_caught T.c
  refine calg_c (d := d_l_sums_right) (N := N_sums) (a_l_sums_right T.c) rfl sc_l_sums_right (g_l_sums_right T) (fun _ _ _ _ _ _ us hl => match us, hl with | [_], _ => rfl) (fun vs H Q E h => ?_) (fun A outer s H vs Q E hr hc h => ?_)
  · obtain ⟨a, n, rfl, _⟩ := h
    rfl
  · obtain ⟨a, n, rfl, hs, hn, hT, k⟩ := h
    refine ⟨_, (pss_cons (ps_set (i := 1) sc_l_sums_right.nd rfl (.inr rfl) (pe_make (mk_Name T) F_Name (hr.mono (by decide)) rfl (g_Name T) (b_Name D_Name) .nil pass0 (pa_cons (pe_c C_l_tag (hr.mono (by decide)) (pa_cons (pv 0) pa_nil)) pa_nil)))
 (pss_cons (ps_set (i := 2) sc_l_sums_right.nd rfl (.inl rfl) (pe_op op_add pe_int (pe_c C_l_pick (hr.mono (by decide)) (pa_cons (pv 0) (pa_cons pe_int pa_nil)))))
 (pss_cons (ps_set (i := 3) sc_l_sums_right.nd rfl (.inr rfl) (pe_op op_rep (pe_lst (pa_cons (pv 1) pa_nil)) (pv 2)))
 (pss_cons (ps_asg (pe_tup (pa_cons (pe_c C_l_pick (hr.mono (by decide)) (pa_cons (pv 0) (pa_cons (pv 2) pa_nil))) (pa_cons (pe_c C_l_odd (hr.mono (by decide)) (pa_cons (pv 0) (pa_cons (pv 1) pa_nil))) pa_nil))) (pg_tup (by rfl) (pgs_cons (pg_name (i := 4) sc_l_sums_right.nd rfl (.inl rfl)) (pgs_cons (pg_name (i := 5) sc_l_sums_right.nd rfl (.inr rfl)) pgs_nil))))
 (pss_cons (ps_asg (pv 5) (pg_sub (pv 3) (pv 4) set_list))
 (pss_cons (ps_if (pt_cmpR (op_neD hr.units) (pe_caught (i := 1) T rfl TB hr hc Dt (lamS_by (by decide +kernel)) rfl (fun _ _ _ _ _ => rfl) (fun A outer s H E f c' hr' => (pe_cn X_l_total takes_lam (hr'.mono (by decide)) (pa_cons (pv 3) pa_nil)))) (pe_lst (pa_cons pe_str (pa_cons (pe_callTy call_str_int (by rfl) (n_str T) bo_str (pa_cons (pv 4) pa_nil)) pa_nil))) (nomark _))
 (pss_one (ps_ret pe_bl))
 pss_nil)
 (pss_cons (ps_set (i := 6) sc_l_sums_right.nd rfl (.inl rfl) (pe_op op_add (pv 4) (pe_c C_l_pick (hr.mono (by decide)) (pa_cons (pv 0) (pa_cons (pe_op op_sub (pv 2) (pv 4)) pa_nil)))))
 (pss_cons (ps_asg (pe_c C_l_odd (hr.mono (by decide)) (pa_cons (pv 0) (pa_cons (pv 1) pa_nil))) (pg_sub (pv 3) (pv 6) set_list))
 (pss_cons (ps_if (pt_cmpR (op_neD hr.units) (pe_caught (i := 1) T rfl TB hr hc Dt (lamS_by (by decide +kernel)) rfl (fun _ _ _ _ _ => rfl) (fun A outer s H E f c' hr' => (pe_cn X_l_total takes_lam (hr'.mono (by decide)) (pa_cons (pv 3) pa_nil)))) (pe_lst (pa_cons pe_str (pa_cons (pe_callTy call_str_int (by rfl) (n_str T) bo_str (pa_cons (pv 4) pa_nil)) pa_nil))) (nomark _))
 (pss_one (ps_ret pe_bl))
 pss_nil)
 (pss_cons (ps_set (i := 7) sc_l_sums_right.nd rfl (.inl rfl) (pe_lst (pa_cons (pe_caught (i := 1) T rfl TB hr hc Dt (lamS_by (by decide +kernel)) rfl (fun _ _ _ _ _ => rfl) (fun A outer s H E f c' hr' => (pe_makeR0 (E := E) (mkSm T) X_Sum (hr'.mono (by decide)) rfl (g_Sum T) (L2N.passes_call takes_lam (fun _ _ _ _ z => z))))) (pa_cons (pe_caught (i := 1) T rfl TB hr hc Dt (lamS_by (by decide +kernel)) rfl (fun _ _ _ _ _ => rfl) (fun A outer s H E f c' hr' => (StX.pe_makeR (E := E) (mkSm T) X_Sum (hr'.mono (by decide)) rfl (g_Sum T) (L2N.passes_call takes_lam (fun _ _ _ _ z => z)) (pa_cons (pv 1) (pa_cons (pv 1) (pa_cons (pv 1) (pa_cons (pv 1) (pa_cons (pv 1) (pa_cons (pv 1) pa_nil))))))))) pa_nil))))
 (pss_cons (ps_expr (pe_bm PySem.F.plainAttrs_list PySem.F.slot_list_append PySem.F.type_list_append mt_append (pv 7) (pa_cons (pe_caught (i := 1) T rfl TB hr hc Dt (lamS_by (by decide +kernel)) rfl (fun _ _ _ _ _ => rfl) (fun A outer s H E f c' hr' => (StX.pe_makeR (E := E) (mkSm T) X_Sum (hr'.mono (by decide)) rfl (g_Sum T) (L2N.passes_call takes_lam (fun _ _ _ _ z => z)) (pa_cons (pv 5) (pa_cons (pv 1) (pa_cons (pv 1) (pa_cons (pv 1) (pa_cons (pv 1) (pa_cons (pv 1) pa_nil))))))))) pa_nil)))
 (pss_one (ps_ret (pe_cmpR (op_eqD hr.units) (pv 7) (pe_op op_rep (pe_lst (pa_cons (pe_lst (pa_cons pe_str (pa_cons pe_str pa_nil))) pa_nil)) pe_int) (nomark _))))))))))))))), ?_⟩
    refine ⟨_, rfl, a, n, rfl, hs, by omega, fun l H1 nm o1 s1 => ?_⟩
    refine fun m dm nx nd ne => ⟨m, dm, l, rfl, upd_same, nm, fun H2 om sgs => ⟨rfl, ?_⟩⟩
    have e2 : Same H1 H2 := old_same nx (same_new nx nd) om
    have sg : SigAt K H2 1 (.name l) m := sgs 0
    have k2 : Kp a H H2 := (Kp.old o1).trans (Kp.same e2)
    have S2 := s1.same e2
    have T2 : Tabs (TR K) H2 := (tabs_old hT hs o1).ext e2
    have az : Asc (Tree.name l).shown := shown_name_asc nm
    have lz : (Tree.name l).shown.length ≤ 2000 := shown_name_len nm
    -- many
    refine ⟨_, rfl, a, 5, n + 10, rfl, S2, by omega, by decide, by decide, fun v H3 v0 v1 o3 S3 => ⟨_, _, rfl, rfl, ?_⟩⟩
    obtain ⟨j, rfl⟩ := Int.eq_ofNat_of_zero_le v0
    obtain ⟨M, hM⟩ : ∃ M : Nat, M = j + 1 := ⟨_, rfl⟩
    have eM : (1 : Int) + (j : Int) = (M : Int) := by omega
    show gName 2 (V.int ((1 : Int) + (j : Int))) _ _ _
    rw [eM]
    have k3 := k2.trans (Kp.old o3)
    have sg3 := sig_kp sg S2 (Kp.old o3)
    have T3 : Tabs (TR K) H3 := tabs_old T2 S2 o3
    -- some
    refine ⟨_, rfl, (by show 1 ≤ sizeLine; decide), fun q nq => ⟨_, rfl, q, M, [.ref m], rfl, rfl, upd_same, by omega, by omega, ?_, fun L nL => ?_⟩⟩
    · rw [Int.toNat_natCast]
      exact Nat.le_trans (show 1 * M ≤ 5 by omega) (by decide)
    rw [rep_one]
    have w1 := (same_upd (o := HO.lst [.ref m]) nq).trans (same_upd (o := HO.lst (List.replicate M (V.ref m))) nL)
    have cL : (upd (upd H3 q (HO.lst [V.ref m])) L (HO.lst (List.replicate M (V.ref m)))) L = some (.lst (List.replicate M (.ref m))) := upd_same
    have S3q := S3.same (same_upd (o := HO.lst [.ref m]) nq)
    have hLa : L ≠ a := fun z => by
      obtain ⟨q1, q2, q3, q4, _⟩ := S3q
      rw [z, q4] at nL
      cases nL
    have oq : Old a H (upd H3 q (HO.lst [V.ref m])) := ((o1.trans (Old.same e2)).trans o3).trans (Old.same (same_upd nq))
    have nL0 : H L = none := by
      cases e : H L with
      | none => rfl
      | some o =>
        have := oq _ _ e hLa
        rw [nL] at this
        cases this
    generalize hG : upd (upd H3 q (HO.lst [V.ref m])) L (HO.lst (List.replicate M (V.ref m))) = H4 at w1 cL ⊢
    clear hG nL nq oq
    have S4 := S3.same w1
    have sg4 := sg3.same w1
    have T4 := T3.ext w1
    have k4 : Kp a H H4 := k3.trans (Kp.same w1)
    -- at, odd
    refine ⟨_, rfl, _, rfl, a, M, n + 10 + 1, rfl, S4, by omega, by omega, by omega, fun v H5 u0 u1 o5 S5 => ?_⟩
    obtain ⟨i, rfl⟩ := Int.eq_ofNat_of_zero_le u0
    have hi : i < M := by omega
    have sg5 := sig_kp sg4 S4 (Kp.old o5)
    refine ⟨_, rfl, _, rfl, a, m, n + 10 + 1 + 1, 1, .name l, rfl, S5, by omega, sg5, az, lz, fun odd zo H6 o6 S6 od6 fo => ?_⟩
    have c5 : H5 L = some (.lst (List.replicate M (.ref m))) := o5 _ _ cL hLa
    have oL : odd ≠ .ref L := fun z => by
      have := fo L z
      rw [c5] at this
      cases this
    have c6 : H6 L = some (.lst (List.replicate M (.ref m))) := o6 _ _ c5 hLa
    have sg6 := sig_kp sg5 S5 (Kp.old o6)
    have T6 : Tabs (TR K) H6 := tabs_old (tabs_old T4 S4 o5) S5 o6
    have k6 : Kp a H H6 := (k4.trans (Kp.old o5)).trans (Kp.old o6)
    refine ⟨(by show 2 ≤ sizeLine; decide), fun tp ntp => ⟨tp, [.int i, odd], rfl, .inl (.inl upd_same), rfl, .int i, [odd], rfl, odd, [], rfl, rfl, ?_⟩⟩
    have wt := same_upd (o := HO.tup [.int i, odd]) ntp
    generalize hG : upd H6 tp (HO.tup [.int i, odd]) = H7 at wt ⊢
    clear hG ntp
    have c7 := wt _ _ c6
    have od7 := od6.same wt
    have i5 : i < 5 := by omega
    obtain ⟨zi, hzi⟩ : ∃ z : Str, z = (PyData.int (i : Int)).shown := ⟨_, rfl⟩
    have shi : ∀ G : Hp, Shows K G (.int i) zi := fun G => by
      rw [hzi]
      exact .flat (.int _) (txt_small i5)
    have azi : Asc zi := (shi (fun _ => none)).asc
    have hz2 : Str.ofString (toString (i : Int)) = zi := by
      rw [hzi, PyData.shown_int]
    have lb : ((i : Int)).natAbs.log2 < 1920 := by
      match i, i5 with
      | 0, _ => decide
      | 1, _ => decide
      | 2, _ => decide
      | 3, _ => decide
      | 4, _ => decide
    have shN : ∀ G : Hp, Shows K G .non "None" := fun G => by
      have e : (PyData.none).shown = ("None" : Str) := PyData.shown_none
      rw [← e]
      exact .flat .non txt_non
    -- some[at] = odd
    obtain ⟨ys, hys⟩ : ∃ ys : List V, ys = (List.replicate M (V.ref m)).set i odd := ⟨_, rfl⟩
    have ly : ys.length = M := by rw [hys, List.length_set, List.length_replicate]
    have yi : ys[i]? = some odd := by
      rw [hys, List.getElem?_set_self (by rw [List.length_replicate]; exact hi)]
    have yj : ∀ j z, j < i → ys[j]? = some z → z = .ref m := fun j z hj hz => by
      rw [hys, List.getElem?_set_ne (by omega), List.getElem?_replicate, if_pos (by omega)] at hz
      exact (Option.some.inj hz).symm
    refine ⟨_, rfl, _, rfl, _, rfl, L, _, i, i, rfl, rfl, c7, ix_nat (by rw [List.length_replicate]; exact hi), ?_⟩
    rw [← hys]
    have F0 : SF K a (n + 10 + 1 + 1 + 1) m l L ys odd zo odd zo (upd H7 L (.lst ys)) :=
      ⟨srcAt_put (S6.same wt) (Ne.symm hLa), tabs_put (T6.ext wt) c7, (sg6.same wt).put c7, upd_same, hLa, od7.put oL c7, oL, od7.put oL c7, oL⟩
    have kk0 : Kp a H (upd H7 L (.lst ys)) := kp_put (k6.trans (Kp.same wt)) nL0
    generalize hG : upd H7 L (HO.lst ys) = W0 at F0 kk0 ⊢
    clear hG c7 od7 wt k6 T6 sg6 c6 od6 fo o6 S6 sg5 o5 S5 k4 T4 sg4 S4 cL w1 T3 sg3 k3 o3 S3 S2 T2 k2 e2 sg sgs
    refine ⟨F0.T, fun A1 x t => ⟨_, rfl, L, ys, i, odd, rfl, (F0.ext x t).Lc, by omega, by omega, yi, (F0.ext x t).yo.ns, fun j z hl hz => ⟨1, .name l, m, yj j z hl hz, (F0.ext x t).sg⟩, b_terms T (shi _) fun B1 l1 s nl => ?_⟩⟩
    have F1 := ((F0.ext x t).same s).put nl (o := HO.lst [.str "InvalidTerms", .str zi])
    have kk1 : Kp a H _ := (kk0.trans (Kp.ext x)).trans (Kp.same (s.trans (same_upd nl (o := HO.lst [.str "InvalidTerms", .str zi]))))
    have c1 : (upd B1 l1 (HO.lst [.str "InvalidTerms", .str zi])) l1 = some (HO.lst [.str "InvalidTerms", .str zi]) := upd_same
    generalize hG : upd B1 l1 (HO.lst [.str "InvalidTerms", .str zi]) = W1 at F1 kk1  c1 ⊢
    clear hG nl s t x F0 kk0
    refine ⟨_, rfl, _, rfl, lb, ?_⟩
    rw [hz2]
    refine ⟨(by show 2 ≤ sizeLine; decide), fun r nr => ?_⟩
    have e3 := same_upd (o := HO.lst [.str "InvalidTerms", .str zi]) nr
    refine ⟨_, _, dp_two (e3 _ _ c1), dp_two upd_same, shaped_two (asc_w (by decide +kernel)) azi, shaped_two (asc_w (by decide +kernel)) azi, ?_⟩
    rw [eqv_two]
    refine ⟨_, rfl, iteF ?_⟩
    have F2 := F1.same e3
    have kk2 := kk1.trans (Kp.same (a := a) e3)
    generalize hG : upd _ r (HO.lst [.str "InvalidTerms", .str zi]) = W2 at F2 kk2 ⊢
    clear hG e3 nr F1 kk1 c1
    -- later
    refine ⟨_, rfl, _, rfl, _, rfl, _, rfl, _, _, rfl, rfl, a, (M : Int) - (i : Int), n + 10 + 1 + 1 + 1, rfl, F2.S, by omega, by omega, by omega, fun v H8 u0 u1 o8 S8 => ⟨_, _, rfl, rfl, ?_⟩⟩
    obtain ⟨c, rfl⟩ := Int.eq_ofNat_of_zero_le u0
    have F8 := F2.kp (Kp.old o8) S8 (tabs_old F2.T F2.S o8)
    have k8 := kk2.trans (Kp.old o8)
    have ic : i + c < M := by omega
    show gName 6 (V.int ((i : Int) + (c : Int))) _ _ _
    have eic : (i : Int) + (c : Int) = ((i + c : Nat) : Int) := by omega
    rw [eic]
    -- another odd one
    refine ⟨_, rfl, _, rfl, a, m, n + 10 + 1 + 1 + 1 + 1, 1, .name l, rfl, F8.S, by omega, F8.sg, az, lz, fun odd2 z2 H9 o9 S9 od9 fo9 => ?_⟩
    have F9 := F8.kp (Kp.old o9) S9 (tabs_old F8.T F8.S o9)
    have k9 := k8.trans (Kp.old o9)
    have oL9 : odd2 ≠ .ref L := fun z => by
      have := fo9 L z
      rw [F8.Lc] at this
      cases this
    obtain ⟨ys2, hys2⟩ : ∃ ys2 : List V, ys2 = ys.set (i + c) odd2 := ⟨_, rfl⟩
    have ly2 : ys2.length = M := by rw [hys2, List.length_set, ly]
    have yj2 : ∀ j z, j < i → ys2[j]? = some z → z = .ref m := fun j z hj hz => by
      rw [hys2, List.getElem?_set_ne (by omega)] at hz
      exact yj j z hj hz
    refine ⟨_, rfl, _, rfl, L, _, ((i + c : Nat) : Int), i + c, rfl, rfl, F9.Lc, ix_nat (by rw [ly]; exact ic), ?_⟩
    rw [← hys2]
    have key : ∃ (y : V) (zy : Str), ys2[i]? = some y ∧ SF K a (n + 10 + 1 + 1 + 1 + 1 + 1) m l L ys2 odd zo y zy (upd H9 L (.lst ys2)) := by
      have base : ∀ (y : V) (zy : Str), OddAt K H9 a y zy → y ≠ .ref L → SF K a (n + 10 + 1 + 1 + 1 + 1 + 1) m l L ys2 odd zo y zy (upd H9 L (.lst ys2)) := fun y zy h1 h2 =>
        ⟨srcAt_put F9.S (Ne.symm hLa), tabs_put F9.T F9.Lc, F9.sg.put F9.Lc, upd_same, hLa, F9.od.put oL F9.Lc, oL, h1.put h2 F9.Lc, h2⟩
      by_cases hc : c = 0
      · subst hc
        refine ⟨odd2, z2, ?_, base _ _ od9 oL9⟩
        rw [hys2]
        exact List.getElem?_set_self (by rw [ly]; exact ic)
      · refine ⟨odd, zo, ?_, base _ _ F9.od oL⟩
        rw [hys2, List.getElem?_set_ne (by omega)]
        exact yi
    obtain ⟨y, zy, yi2, F0⟩ := key
    have kk0 : Kp a H (upd H9 L (.lst ys2)) := kp_put k9 nL0
    generalize hG : upd H9 L (HO.lst ys2) = W0 at F0 kk0 ⊢
    clear hG F9 k9 od9 fo9 o9 S9 F8 k8 o8 S8 F2 kk2 oL9
    refine ⟨F0.T, fun A1 x t => ⟨_, rfl, L, ys2, i, y, rfl, (F0.ext x t).Lc, by omega, by omega, yi2, (F0.ext x t).yo.ns, fun j z hl hz => ⟨1, .name l, m, yj2 j z hl hz, (F0.ext x t).sg⟩, b_terms T (shi _) fun B1 l1 s nl => ?_⟩⟩
    have F1 := ((F0.ext x t).same s).put nl (o := HO.lst [.str "InvalidTerms", .str zi])
    have kk1 : Kp a H _ := (kk0.trans (Kp.ext x)).trans (Kp.same (s.trans (same_upd nl (o := HO.lst [.str "InvalidTerms", .str zi]))))
    have c1 : (upd B1 l1 (HO.lst [.str "InvalidTerms", .str zi])) l1 = some (HO.lst [.str "InvalidTerms", .str zi]) := upd_same
    generalize hG : upd B1 l1 (HO.lst [.str "InvalidTerms", .str zi]) = W1 at F1 kk1  c1 ⊢
    clear hG nl s t x F0 kk0
    refine ⟨_, rfl, _, rfl, lb, ?_⟩
    rw [hz2]
    refine ⟨(by show 2 ≤ sizeLine; decide), fun r nr => ?_⟩
    have e3 := same_upd (o := HO.lst [.str "InvalidTerms", .str zi]) nr
    refine ⟨_, _, dp_two (e3 _ _ c1), dp_two upd_same, shaped_two (asc_w (by decide +kernel)) azi, shaped_two (asc_w (by decide +kernel)) azi, ?_⟩
    rw [eqv_two]
    refine ⟨_, rfl, iteF ?_⟩
    have F2 := F1.same e3
    have kk2 := kk1.trans (Kp.same (a := a) e3)
    generalize hG : upd _ r (HO.lst [.str "InvalidTerms", .str zi]) = W2 at F2 kk2 ⊢
    clear hG e3 nr F1 kk1 c1
    refine ⟨F2.T, fun A3 x t => x_smlen (ys := []) (by decide) (by decide) (b_terms T (shN _) fun B3 l3 s nl => ?_)⟩
    have F3 := ((F2.ext x t).same s).put nl (o := HO.lst [.str "InvalidTerms", .str "None"])
    have kk3 : Kp a H _ := (kk2.trans (Kp.ext x)).trans (Kp.same (s.trans (same_upd nl (o := HO.lst [.str "InvalidTerms", .str "None"]))))
    have c3 : (upd B3 l3 (HO.lst [.str "InvalidTerms", .str "None"])) l3 = some (HO.lst [.str "InvalidTerms", .str "None"]) := upd_same
    generalize hG : upd B3 l3 (HO.lst [.str "InvalidTerms", .str "None"]) = W3 at F3 kk3  c3 ⊢
    clear hG nl s t x F2 kk2
    refine ⟨F3.T, fun A4 x t => ⟨_, rfl, _, rfl, _, rfl, _, rfl, _, rfl, _, rfl, x_smlen (by show 6 ≤ 1000; decide) (by show ¬ (1 ≤ 6 ∧ 6 ≤ 5); decide) (b_terms T (shN _) fun B4 l4 s nl => ?_)⟩⟩
    have F4 := ((F3.ext x t).same s).put nl (o := HO.lst [.str "InvalidTerms", .str "None"])
    have kk4 : Kp a H _ := (kk3.trans (Kp.ext x)).trans (Kp.same (s.trans (same_upd nl (o := HO.lst [.str "InvalidTerms", .str "None"]))))
    have c3 := (s.trans (same_upd nl (o := HO.lst [.str "InvalidTerms", .str "None"]))) _ _ (x _ _ c3 (fun ps z => nomatch z))
    have c4 : (upd B4 l4 (HO.lst [.str "InvalidTerms", .str "None"])) l4 = some (HO.lst [.str "InvalidTerms", .str "None"]) := upd_same
    generalize hG : upd B4 l4 (HO.lst [.str "InvalidTerms", .str "None"]) = W4 at F4 kk4  c3 c4 ⊢
    clear hG nl s t x F3 kk3
    refine ⟨(by show 2 ≤ sizeLine; decide), fun L4 nl => ?_⟩
    have F5 := F4.put nl (o := HO.lst [.ref l3, .ref l4])
    have kk5 := kk4.trans (Kp.same (a := a) (same_upd nl (o := HO.lst [.ref l3, .ref l4])))
    have nb := nl
    have rel : Kp a W4 _ := Kp.same (same_upd nl (o := HO.lst [.ref l3, .ref l4]))
    have Fb := F4
    have kb := kk4
    have c3 := (same_upd nl (o := HO.lst [.ref l3, .ref l4])) _ _ c3
    have c4 := (same_upd nl (o := HO.lst [.ref l3, .ref l4])) _ _ c4
    have dL4 : (upd W4 L4 (HO.lst [.ref l3, .ref l4])) L4 = some (HO.lst [.ref l3, .ref l4]) := upd_same
    generalize hG : upd W4 L4 (HO.lst [.ref l3, .ref l4]) = W5 at F5 kk5 rel c3 c4 dL4 ⊢
    clear hG nl F4 kk4
    refine ⟨_, rfl, .inl ⟨rfl, _, .inl (.inl dL4)⟩, ⟨F5.T, fun A6 x t => ⟨_, rfl, _, rfl, _, rfl, _, rfl, _, rfl, _, rfl, x_smlen (by show 6 ≤ 1000; decide) (by show ¬ (1 ≤ 6 ∧ 6 ≤ 5); decide) (b_terms T (shN _) fun B6 l6 s nl => ?_)⟩⟩⟩
    have F6 := ((F5.ext x t).same s).put nl (o := HO.lst [.str "InvalidTerms", .str "None"])
    have kk6 : Kp a H _ := (kk5.trans (Kp.ext x)).trans (Kp.same (s.trans (same_upd nl (o := HO.lst [.str "InvalidTerms", .str "None"]))))
    have rel : Kp a _ _ := (rel.trans (Kp.ext x)).trans (Kp.same (s.trans (same_upd nl (o := HO.lst [.str "InvalidTerms", .str "None"]))))
    have c3 := (s.trans (same_upd nl (o := HO.lst [.str "InvalidTerms", .str "None"]))) _ _ (x _ _ c3 (fun ps z => nomatch z))
    have c4 := (s.trans (same_upd nl (o := HO.lst [.str "InvalidTerms", .str "None"]))) _ _ (x _ _ c4 (fun ps z => nomatch z))
    have dL4 := (s.trans (same_upd nl (o := HO.lst [.str "InvalidTerms", .str "None"]))) _ _ (x _ _ dL4 (fun ps z => nomatch z))
    have c6 : (upd B6 l6 (HO.lst [.str "InvalidTerms", .str "None"])) l6 = some (HO.lst [.str "InvalidTerms", .str "None"]) := upd_same
    generalize hG : upd B6 l6 (HO.lst [.str "InvalidTerms", .str "None"]) = W6 at F6 kk6 rel c3 c4 dL4 c6 ⊢
    clear hG nl s t x F5 kk5
    refine ⟨L4, _, .ref l6, rfl, rfl, dL4, (by show 2 < sizeLine; decide), ?_⟩
    have am : a ≠ L4 := fun z => by
      obtain ⟨q1, q2, q3, q, _⟩ := Fb.S
      rw [z, nb] at q
      cases q
    have rel := kp_put (o := HO.lst ([V.ref l3, V.ref l4] ++ [V.ref l6])) rel nb
    have F7 := Fb.kp rel (srcAt_put (o := HO.lst ([V.ref l3, V.ref l4] ++ [V.ref l6])) F6.S am) (tabs_put (o := HO.lst ([V.ref l3, V.ref l4] ++ [V.ref l6])) F6.T dL4)
    have kk7 : Kp a H _ := kb.trans rel
    have c3 := (upd_ne (o := HO.lst ([V.ref l3, V.ref l4] ++ [V.ref l6])) (ne_of c3 dL4 (by intro z; exact nomatch z))).trans c3
    have c4 := (upd_ne (o := HO.lst ([V.ref l3, V.ref l4] ++ [V.ref l6])) (ne_of c4 dL4 (by intro z; exact nomatch z))).trans c4
    have c6 := (upd_ne (o := HO.lst ([V.ref l3, V.ref l4] ++ [V.ref l6])) (ne_of c6 dL4 (by intro z; exact nomatch z))).trans c6
    have dL4 : (upd W6 L4 (HO.lst ([V.ref l3, V.ref l4] ++ [V.ref l6]))) L4 = some (HO.lst ([V.ref l3, V.ref l4] ++ [V.ref l6])) := upd_same
    generalize hG : upd W6 L4 (HO.lst ([V.ref l3, V.ref l4] ++ [V.ref l6])) = W7 at F7 kk7 c3 c4 dL4 c6 ⊢
    clear hG F6 kk6 rel Fb kb nb am
    have dL4 : W7 L4 = some (HO.lst [V.ref l3, V.ref l4, V.ref l6]) := dL4
    refine ⟨_, rfl, ⟨(by show 2 ≤ sizeLine; decide), fun r nr => ⟨(by show 1 ≤ sizeLine; decide), fun q nq => ⟨q, 3, _, rfl, rfl, upd_same, by decide, by decide, (by show 3 ≤ sizeLine; decide), fun p np => ?_⟩⟩⟩⟩
    have e1 := same_upd (o := HO.lst [.str "InvalidTerms", .str "None"]) nr
    have e2 := e1.trans (same_upd (o := HO.lst [.ref r]) nq)
    have e3 : Same W7 (upd _ p (HO.lst (List.replicate (Int.toNat 3) [V.ref r]).flatten)) := e2.trans (same_upd np)
    have hr := ((same_upd (o := HO.lst [.ref r]) nq).trans (same_upd (o := HO.lst [.ref r, .ref r, .ref r]) np)) r (HO.lst [.str "InvalidTerms", .str "None"]) upd_same
    refine ⟨many 3 "InvalidTerms" "None", many 3 "InvalidTerms" "None", .lst (.inl (.inl (e3 _ _ dL4))) ((.cons (dp_two (e3 _ _ c3)) (.cons (dp_two (e3 _ _ c4)) (.cons (dp_two (e3 _ _ c6)) .nil)))), .lst (.inl (.inl upd_same)) ((.cons (dp_two hr) (.cons (dp_two hr) (.cons (dp_two hr) .nil)))), shaped_3 (asc_w (by decide +kernel)) (asc_w (by decide +kernel)), shaped_3 (asc_w (by decide +kernel)) (asc_w (by decide +kernel)), ?_⟩
    rw [eqv_many]
    have F8 := F7.same e3
    have kk8 := kk7.trans (Kp.same (a := a) e3)
    generalize hG : upd _ p (HO.lst (List.replicate (Int.toNat 3) [V.ref r]).flatten) = W8 at F8 kk8 ⊢
    clear hG hr e3 e2 e1 np nq nr F7 kk7 c3 c4 dL4 c6
    exact k W8 kk8 (F8.S.le (by omega)) F8.T
end
end K11

namespace K11
open PySem PySem.Spec PyProof.Rows L2 Hk NumM NumT SX L2H LamX
abbrev N_law : List Str := ["_law_script", "_law_k", "_law_source_here", "_law_turn"]
theorem sql_kp {K : Fr} {a p : Addr} {xs : List V} {H0 H H' : Hp} (h : SqL K H0 a xs) (np : H0 p = none) (s : Same H0 H) (k : Kp p H H') : SqL K H' a xs := by
  rcases h with (z | ⟨o1, z⟩) | z
  · exact .inl (.inl (k _ _ (s _ _ z) (ne_of_none z np) (fun ps q => nomatch q)))
  · exact .inl (.inr ⟨o1, k _ _ (s _ _ z) (ne_of_none z np) (fun ps q => nomatch q)⟩)
  · exact .inr z
def spLaw (K : Fr) : Sp := fun vs H Q _ => ∃ (a : Addr) (ns : List Int), vs = [.ref a] ∧ SqL K H a (ns.map V.int) ∧ ns.length ≤ 63 ∧ Tabs (TR K) H ∧ ∀ H' : Hp, Q (.bl true) H'
theorem src_ne {a D : Addr} {n : Nat} {H : Hp} (s : SrcAt a n H) (nD : H D = none) : a ≠ D := fun z => by
  obtain ⟨d, e, c, h, _⟩ := s
  rw [z, nD] at h
  cases h
section
variable {P : Program} {w : World} {K : Fr} {mg : Str → Option Value} {base : Heap}
theorem g_law_ok (T : Tx K mg) (TB : ∀ d ∈ TS, TabB base mg (cOf d K) (pOf d K)) {fd : FuncData} (D : DAt K d_law fd) : FnG P w K mg base 12 (d_law.ad K) fd ["_law_script"] (spLaw K) := by
  have C_l_source := c_source (P := P) (w := w) (base := base) T
  have C_l_cell := c_cell (P := P) (w := w) (base := base) T
  have C_limits := c_limits (P := P) (w := w) (base := base) T (TB _ (by simp))
  have C_names := c_names (P := P) (w := w) (base := base) T (TB _ (by simp))
  have C_sums := c_sums (P := P) (w := w) (base := base) T (TB _ (by simp))
  have C_pairs := c_pairs (P := P) (w := w) (base := base) T (TB _ (by simp))
  refine okg_of (N := N_law) D sc_law (fun vs H Q E h => ?_) (fun cdv A outer s H vs Q E hr hc h => ?_)
  · obtain ⟨a, ns, rfl, _⟩ := h
    rfl
  · obtain ⟨a, ns, rfl, hS, hn, hT, k⟩ := h
    have r1 : Room 1 _ := hr.mono (by decide)
    refine ⟨_, (pss_cons (ps_for PassesOwn.never rfl (pi_range1 (by rfl) (n_range T) (pa_cons (pe_callB (call_max2 rfl) (by rfl) (n_max T) bo_max (pa_cons pe_int (pa_cons (pe_callB (call_min2 rfl) (by rfl) (n_min T) bo_min (pa_cons (pe_callB call_len_seq (by rfl) (n_len T) bo_len (pa_cons (pv 0) pa_nil)) (pa_cons pe_int pa_nil))) pa_nil))) pa_nil)) (pg_name (i := 1) sc_law.nd rfl (.inl rfl))
 (pss_cons (ps_set (i := 2) sc_law.nd rfl (.inr rfl) (pe_c C_l_source r1 (pa_cons (pe_c C_l_cell r1 (pa_cons (pv 0) (pa_cons (pv 1) pa_nil))) pa_nil)))
 (pss_cons (ps_if (PW.pt (pw_or (pt_not (pt_val (pe_g C_limits hr hc (pa_cons (pv 2) pa_nil)))) (pw_or1 (pt_not (pt_val (pe_g C_names hr hc (pa_cons (pv 2) pa_nil)))))))
 (pss_one (ps_ret pe_bl))
 pss_nil)
 (pss_one (ps_if (pt_not (pt_val (pe_callB (cr_all rfl) (by rfl) (n_all T) bo_all (pa_cons (pe_lc (own := [("_law_turn", 3)]) (g := gName 3) (tt := tYes) rfl sc_law.nd (pi_range1 (by rfl) (n_range T) (pa_cons pe_int pa_nil)) (blkOk_by (N := N_law) (sc := defScope s_law) (by decide +kernel)) (fun _ _ _ _ _ => pg_name (i := 3) sc_law.nd rfl (.inl rfl)) (fun _ _ _ _ _ => pts_nil) (fun _ _ _ _ _ => (pe_and (pe_g C_sums hr hc (pa_cons (pv 2) pa_nil)) (pe_one (pe_g C_pairs hr hc (pa_cons (pv 2) pa_nil)))))) pa_nil))))
 (pss_one (ps_ret pe_bl))
 pss_nil)))))
 (pss_one (ps_ret pe_bl))), ?_⟩
    have hlen : ((ns.map V.int).length : Int) = (ns.length : Int) := by rw [List.length_map]
    have h40 : (2 : Nat) ^ 40 = 1099511627776 := by decide
    refine ⟨_, rfl, a, _, rfl, .inl hS, _, _, rfl, _, _, rfl, _, rfl, ?_⟩
    rw [hlen]
    generalize hm : (if (if (5 : Int) < (ns.length : Int) then (5 : Int) else (ns.length : Int)) > 2 then (if (5 : Int) < (ns.length : Int) then (5 : Int) else (ns.length : Int)) else (2 : Int)) = m
    have hm2 : m ≤ 5 ∧ 0 ≤ m := by rw [← hm]; split <;> (try split) <;> omega
    refine ⟨by omega, by omega, ?_⟩
    refine for_range (lo := 0) (n := m.toNat) (fun i σ H' => SqL K H' a (ns.map V.int) ∧ Tabs (TR K) H' ∧ ∃ x3 x4 x5 : Option V, σ = [some (.ref a), x3, x4, x5]) ⟨hS, hT, none, none, none, rfl⟩ ?_ ?_
    · rintro i σ H' hi ⟨sq, tq, x3, x4, x5, rfl⟩
      have e0 : (0 : Int) + (i : Int) = ((i : Nat) : Int) := by omega
      rw [e0]
      refine ⟨_, rfl, _, rfl, a, ns, i, rfl, sq, hn, by omega, fun v H1 f1 => ?_⟩
      refine ⟨v, rfl, fun p H2 f2 np sp => ?_⟩
      have np' : H' p = none := none_of f1 np
      have so : Same H' H2 := f1.trans f2
      have t2 := tq.ext so
      refine ⟨_, rfl, p, 0, rfl, sp, by omega, t2, fun H3 k3 s3 t3 => ⟨true, rfl, iteF ?_⟩⟩
      refine ⟨_, rfl, p, 0 + 200, rfl, s3, by omega, t3, fun H4 k4 s4 t4 => ⟨true, rfl, iteF ?_⟩⟩
      have k24 := k3.trans k4
      refine ⟨4, rfl, by decide, by decide, fun D nD => ?_⟩
      refine lc_range (lo := 0) (n := 4) (fun j H5 => Kp p H4 H5 ∧ SrcAt p (400 + 400 * j) H5 ∧ Tabs (TR K) H5 ∧ H5 D = some (.lst (List.replicate j (.bl true)))) ⟨Kp.same (same_upd nD), s4.same (same_upd nD), t4.ext (same_upd nD), upd_same⟩ ?_ ?_
      · rintro j H5 hj ⟨o5, s5, t5, hD⟩
        have pD : p ≠ D := src_ne s4 nD
        refine ⟨rfl, ?_⟩
        unfold tYes
        dsimp only
        rw [if_pos rfl]
        refine ⟨_, rfl, p, _, rfl, s5, by omega, t5, fun H6 k6 s6 t6 => ⟨true, rfl, iteT ?_⟩⟩
        refine ⟨_, rfl, p, _, rfl, s6, by omega, t6, fun H7 k7 s7 t7 => ?_⟩
        have hD7 := k7 _ _ (k6 _ _ hD (Ne.symm pD) (fun ps q => nomatch q)) (Ne.symm pD) (fun ps q => nomatch q)
        refine ⟨_, hD7, ?_, ?_, ?_, ?_, ?_⟩
        · rw [List.length_replicate]
          exact Nat.lt_of_lt_of_le (show j < 1000 by omega) (by decide)
        · exact kp_put ((o5.trans k6).trans k7) nD
        · exact (srcAt_put s7 pD).le (by omega)
        · exact tabs_put t7 hD7
        · rw [upd_same, List.replicate_succ']
      · rintro H5 ⟨o5, s5, t5, hD⟩
        refine ⟨D, [true, true, true, true], rfl, .inl (.inl hD), true, rfl, iteF ?_⟩
        exact ⟨sql_kp sq np' so (k24.trans o5), t5, _, _, _, rfl⟩
    · rintro σ H' ⟨_, _, x3, x4, x5, rfl⟩
      exact k H'
end
theorem tabs_in {K : Fr} {H : Hp} (h : ∀ d ∈ TS, H (pOf d K) = some (.tbl #[])) : Tabs (TR K) H := fun p hp => by
  obtain ⟨d, hd, rfl⟩ := List.mem_map.mp hp
  exact ⟨#[], h d hd, trivial, fun pos cv hc => nomatch (show (none : Option Value) = some cv from hc)⟩
theorem facts {P : Program} {w : World} {K : Fr} {h : Heap} {mg : Str → Option Value} {f : Addr} (X : K.In h) (G : h.Ns mainGlobals mg) (hfa : mg ("law" : Str) = some (.ref f)) (c : Sy K) :
    ∃ fd : FuncData, (∀ (s : Shared) (u : Value), BindsTo s fd ⟨[u], []⟩ [("_law_script", u)]) ∧ ∀ base : Heap, K.In base → base.Ns mainGlobals mg → (∀ d ∈ TS, TabB base mg (cOf d K) (pOf d K)) → FnG P w K mg base 12 f fd ["_law_script"] (spLaw K) := by
  have T : Tx K mg := ⟨c, h, X, G⟩
  obtain ⟨fd, D⟩ := a_law c
  have e := hfa.symm.trans (g_law T)
  cases e
  have b := FunD.bindsA (ps := ["_law_script"]) D fun _ _ _ _ _ _ us hl => match us, hl with | [_], _ => rfl
  exact ⟨fd, fun s u => b s [u] rfl, fun base _ _ TB => g_law_ok T TB D⟩
end K11

open PySem PySem.W PySem.Calls PyProof.Rows
theorem PySem.Challenge.cw_delaynets_k11_signals_refused_holds : PySem.Challenge.rw_delaynets_k11_signals_refused.Holds := by
  w_on; o_law
  refine HeadRun.head_imp (r := OpenLaw.row PySem.Challenge.rw_delaynets_k11_signals_refused) (q := K11.qv) (H := K11.hk) (ob := K11.ob) (M := 16000) (loose := K11.loose) (d := HandSHeadRun.topDef (OpenLaw.row PySem.Challenge.rw_delaynets_k11_signals_refused).prog K11.lawAt) (kwd := []) K11.ob_eq
    K11.run (by kernel_rfl) (by kernel_rfl) (by kernel_rfl) (by rfl) (by first | assumption | decide +kernel) (by decide +kernel) ⟨rfl, rfl, rfl, rfl, rfl, by decide +kernel⟩ ?hw ?hc
  case hw => w_witness2
  case hc =>
    refine Hk.end_gT (l := PySem.Challenge.rw_delaynets_k11_signals_refused) (k := 12) (x := "_law_script") rfl (by kernel_rfl) ⟨rfl, by decide, by decide⟩ ?F
    intro w mg fa h Y G hmg0
    obtain ⟨K, KX, c⟩ := Y
    have hmg : mg ("law" : PySem.Str) = some (.ref fa) := by
      have e : (HandSHeadRun.topDef (OpenLaw.row PySem.Challenge.rw_delaynets_k11_signals_refused).prog K11.lawAt).name = ("law" : PySem.Str) := by kernel_rfl
      rw [← e]
      exact hmg0
    obtain ⟨fd, hb, hF⟩ := K11.facts (P := (PySem.Challenge.rw_delaynets_k11_signals_refused).prog) (w := w) KX G hmg c.s
    have at_ : ∀ p ∈ K11.TS.map (fun d => (Hk.cOf d K, Hk.pOf d K)), ∃ d ∈ K11.TS, p = (Hk.cOf d K, Hk.pOf d K) := fun p hp => by
      obtain ⟨d, hd, e⟩ := List.mem_map.mp hp
      exact ⟨d, hd, e.symm⟩
    refine ⟨K, fd, K11.TS.map (fun d => (Hk.cOf d K, Hk.pOf d K)), K11.spLaw K, KX, fun p hp => ?_, fun p hp => ?_, fun p hp => ?_, hb, fun H a ns hl _ hT hS => ⟨a, ns, rfl, hS, hl, K11.tabs_in (fun d hd => hT (Hk.cOf d K, Hk.pOf d K) (List.mem_map.mpr ⟨d, hd, rfl⟩)), fun _ => rfl⟩,
      fun base hb1 hb2 hTB => hF base hb1 hb2 (fun d hd => hTB (Hk.cOf d K, Hk.pOf d K) (List.mem_map.mpr ⟨d, hd, rfl⟩))⟩
    · obtain ⟨d, hd, rfl⟩ := at_ p hp
      exact c.empty _ hd
    · obtain ⟨d, hd, rfl⟩ := at_ p hp
      exact c.out _ hd
    · obtain ⟨d, hd, rfl⟩ := at_ p hp
      exact codeHd_of_K KX (c.hd _ hd)

