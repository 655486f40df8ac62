import PyProof.Rows.All
import Wide.All
import OpenK.AllK
import Wide.FinOn
import KE.KStateDown
import HandS.ForExc
import HandS.More
import HandS.Defaults
import HandS.Head0
import KE.HD3
import HandS.Head1
import HandS.Head2
import HandS.HeadEnd
import HandS.HeadHook1
import HandS.HeadHook2
import HandS.HeadWalk
import HandS.HeadNt
import HandS.Property
import HandS.Gcd
import HandS.Wide
import HandS.MakeKw
import HandS.Comp
import HandS.Text
import HandS.FStr
import HandS.StrMore
import HandS.Flow
import HandS.IsInst
import HandS.EndBits
import HandS.RaiseMore
import HandS.SlotsOwn
import HandS.OwnEq
import HandS.ClsMeth
import HandS.CallRecv
import HandS.MakeKwOnly
import HandS.TupLe
import KE.KCallOwn
import KE.KOpsOwn
import HandS.Codes
import KE.IntTextLaws
import PyProof.Rows.ReprOcc
import PyProof.Rows.SortStrRead
import HandS.NoneIn
import HandS.ExcInit
import HandS.ExcField
import HandS.ExcOwn
import HandS.ExcIs
import HandS.TryMany
import KE.KExcIs
import KE.KExcInit
import HandS.ExcValue
import HandS.HotCalls
import HandS.Iter
import HandS.Walk
import HandS.ExcCtx
import HandS.ExcInitHot
import KE.KTryMore
import HandS.Lambda
import HandS.EndTab
import HandS.HeadHook4
import HandS.NestedK
import HandS.Star
import HandS.SortKw
import HandS.Style
import HandS.Deep
import HandS.SetTxt0
import HandS.Set
import HandS.SetFor
import HandS.Strs
import HandS.SortOrd
import PyProof.Rows.SortShellAny
import PyProof.WalkInts
import PyProof.EnumMake
import PyProof.Draws
import KE.GoesMore
import PySem.Challenge.RW_delaynets_k09_signals_made
set_option Elab.async false
set_option linter.all false
set_option maxRecDepth 100000
set_option maxHeartbeats 0
/-! A head's facts by names: every fact a test of the written part, every def by its own path. -/
namespace Hk
open PySem PySem.Spec PyProof.Rows L2
abbrev Fr := PySem.W.Frag
abbrev Tst := Fr → Bool
/-- a def of the text: the path to its function object, its text, its defaults -/
structure Dx where
  ad : Fr → Addr
  nm : Str
  ql : Str
  st : Stmt
  df : List He.Dv := []
abbrev Seen : Type := Option (Str × Str × Arguments × FuncBody × Scope × Addr × List (Str × Addr) × Addr)
def seenAt (K : Fr) (a : Addr) : Seen :=
  match K.lookup a with
  | some ⟨_, _, .func g, _⟩ => some (g.name, g.qualname, g.params, g.body, g.scope, g.globals, g.closure, g.builtins)
  | _ => none
def Dx.due (d : Dx) : Seen := some (d.nm, d.ql, defArgs d.st, .stmts (defBody d.st), defScope d.st, mainGlobals, [], builtinsNs)
def Dx.vs (K : Fr) (d : Dx) : List V := d.df.map (He.Dv.v K)
def Dx.okb (K : Fr) (d : Dx) : Bool :=
  PySem.W.keepIn K (.ref (d.ad K)) &&
    (match K.lookup (d.ad K) with
    | some ⟨_, _, .func g, _⟩ => PySem.W.codeIn K g.code d.ql && He.dflB K g.defaults (d.vs K)
    | _ => false)
/-- the def d stands at its address as fd -/
abbrev DAt (K : Fr) (d : Dx) (fd : FuncData) : Prop := FunD K d.nm d.ql (defArgs d.st) (defBody d.st) (defScope d.st) (d.vs K) [] (d.ad K) fd
theorem Dx.at_of {K : Fr} {d : Dx} (e : seenAt K (d.ad K) = d.due) (c : d.okb K = true) : ∃ fd, DAt K d fd := by
  obtain ⟨kp, c2⟩ := He.ba c
  unfold seenAt at e
  cases q : K.lookup (d.ad K) with
  | none =>
    rw [q] at c2
    exact nomatch c2
  | some ob =>
    obtain ⟨oc, od, dt, osl⟩ := ob
    rw [q] at c2 e
    cases dt with
    | func g =>
      obtain ⟨m1, m2, m3, m4, m5, m6, m7, m8, m9, m10, m11, m12, m13, m14, m15⟩ := g
      have e2 : (some (m1, m2, m3, m4, m5, m6, m7, m15) : Seen) = some (d.nm, d.ql, defArgs d.st, .stmts (defBody d.st), defScope d.st, mainGlobals, [], builtinsNs) := e
      simp only [Option.some.injEq, Prod.mk.injEq] at e2
      obtain ⟨u1, u2, u3, u4, u5, u6, u7, u8⟩ := e2
      subst u1 u2 u3 u4 u5 u6 u7 u8
      obtain ⟨v1, v2⟩ := He.ba (show (PySem.W.codeIn K m13 d.ql && He.dflB K m8 (d.vs K)) = true from c2)
      exact ⟨_, ⟨oc, od, m8, m9, m10, m11, m12, m13, m14, osl, rfl, q, v1, He.dflB_ok v2, .inl rfl⟩, kp⟩
    | _ => exact nomatch c2
abbrev Al2 : Type := Bool × List Seen
def look (fa : List Tst) (fn : List Dx) (K : Fr) : Al2 := ((fa.all fun f => f K) && fn.all fun d => d.okb K, fn.map fun d => seenAt K (d.ad K))
def due (fn : List Dx) : Al2 := (true, fn.map Dx.due)
def Says (fa : List Tst) (fn : List Dx) (K : Fr) : Prop := look fa fn K = due fn
def lookG (n : Nat) (fa : List Tst) (fn : List Dx) (g : Addr → Option Obj) : Al2 := look fa fn (He.frG g (cStatics :: He.asD g n))
def hook (n : Nat) (fa : List Tst) (fn : List Dx) : PySem.W.Hook where
  α := Al2
  obs := fun s => lookG n fa fn s.heap.get?
  val := fun _ => due fn
  says := fun _ h => ∃ K : Fr, K.In h ∧ Says fa fn K
  of := fun _ _ e => ⟨_, He.frG_in, e⟩
  keeps := fun _ _ _ ⟨K, hK, c⟩ k => ⟨K, PySem.W.Frag.In.keeps hK k, c⟩
theorem lookG_eq {n : Nat} {fa : List Tst} {fn : List Dx} {g : Addr → Option Obj} {s : Shared} (h : ∀ a, g a = s.heap.get? a) : lookG n fa fn g = (hook n fa fn).obs s := by
  have e : g = s.heap.get? := funext h
  subst e
  rfl
section
variable {fa : List Tst} {fn : List Dx} {K : Fr}
theorem Says.tst (c : Says fa fn K) (i : Nat) {f : Tst} (h : fa[i]? = some f := by rfl) : f K = true := by
  have c0 := congrArg Prod.fst c
  have c1 := (He.ba (show ((fa.all fun f => f K) && fn.all fun d => d.okb K) = true from c0)).1
  exact List.all_eq_true.mp c1 f (List.mem_of_getElem? h)
theorem Says.dat (c : Says fa fn K) (i : Nat) {d : Dx} (h : fn[i]? = some d := by rfl) : ∃ fd, DAt K d fd := by
  have c0 := congrArg Prod.fst c
  have c2 := (He.ba (show ((fa.all fun f => f K) && fn.all fun d => d.okb K) = true from c0)).2
  have e : (fn.map fun d => seenAt K (d.ad K)) = fn.map Dx.due := congrArg Prod.snd c
  have e2 : (fn.map fun d => seenAt K (d.ad K))[i]? = (fn.map Dx.due)[i]? := by rw [e]
  rw [List.getElem?_map, List.getElem?_map, h] at e2
  exact Dx.at_of (Option.some.inj e2) (List.all_eq_true.mp c2 d (List.mem_of_getElem? h))
end
/-! ### tests -/
def tGlo (x : Str) : Tst := (He.Fa.glo x).ok
def tFree (x : Str) : Tst := (He.Fa.free x).ok
def tInt (x : Str) (i : Int) : Tst := (He.Fa.int x i).ok
def tStr (x z : Str) : Tst := (He.Fa.str x z).ok
def tCls (x : Str) : Tst := (He.Fa.cls x).ok
def tNoat (x f : Str) : Tst := (He.Fa.noat x f).ok
def tMeth (x m : Str) : Tst := (He.Fa.meth x m).ok
def tMkr (x : Str) : Tst := (He.Fa.mkr x).ok
/-- the name is a built-in function (brought in from a module) -/
def tBlt (x : Str) (id : String) : Tst := fun K => He.eqO (PySem.W.nsIn K mainGlobals x) (some (some (.builtin id)))
/-- the getter of the property f of the class x -/
def getAd (x f : Str) (K : Fr) : Addr := match PySem.W.recIn K (He.ma K (He.ga K x) f) "property" with
  | some (.ref g :: _) => g
  | _ => 0
def tProp (x f : Str) : Tst := fun K =>
  He.eqO (PySem.W.findIn K (.ref (He.ga K x)) f) (some (some (.ref (He.ma K (He.ga K x) f)))) &&
  (He.eqO (PySem.W.specialIn K (.ref (He.ma K (He.ga K x) f)) "__get__") (some (some (.builtin "property.__get__"))) &&
  (decide (PySem.W.takesIn K (.ref (He.ma K (He.ga K x) f)) = some true) &&
  (match PySem.W.recIn K (He.ma K (He.ga K x) f) "property" with
  | some (.ref _ :: _) => true
  | _ => false)))
theorem prop_ok {K : Fr} {x f : Str} (c : tProp x f K = true) : PropOf K (He.ga K x) f (He.ma K (He.ga K x) f) (getAd x f K) := by
  obtain ⟨c1, c⟩ := He.ba c
  obtain ⟨c2, c⟩ := He.ba c
  obtain ⟨c3, c4⟩ := He.ba c
  refine ⟨He.eqO_ok c1, He.eqO_ok c2, of_decide_eq_true c3, ?_⟩
  unfold getAd
  cases e : PySem.W.recIn K (He.ma K (He.ga K x) f) "property" with
  | none =>
    rw [e] at c4
    exact nomatch c4
  | some l =>
    rw [e] at c4
    cases l with
    | nil => exact nomatch c4
    | cons v r =>
      cases v with
      | ref g => exact ⟨r, rfl⟩
      | _ => exact nomatch c4
theorem blt_ok {K : Fr} {h : Heap} {mg : Str → Option Value} (X : K.In h) (G : h.Ns mainGlobals mg) {x : Str} {id : String} (c : tBlt x id K = true) : mg x = some (.builtin id) := PySem.W.mg_of X G (He.eqO_ok c)
/-- where a global def stands; a class's method -/
def gAd (x : Str) (K : Fr) : Addr := He.ga K x
def mAd (x m : Str) (K : Fr) : Addr := He.ma K (He.ga K x) m
end Hk
namespace Hk
open PySem PySem.Spec PyProof.Rows L2
/-- the function inside the static method m of the class x -/
def statAd (x m : Str) (K : Fr) : Addr := He5.wf K (He.ga K x) "staticmethod" m
def tStat (x m : Str) : Tst := fun K => He5.wrapB K (He.ga K x) "staticmethod" "staticmethod.__get__" m &&
  (PySem.W.readsIn K (He.ga K x) (.type "type") && (He.eqO (PySem.W.specialIn K (.ref (He.ga K x)) "__getattribute__") (some (some (.builtin "type.__getattribute__"))) && PySem.W.keepIn K (.ref (statAd x m K))))
/-- == is the class's own, != object's -/
def tNe (x : Str) : Tst := fun K => He.eqO (PySem.W.findIn K (.ref (He.ga K x)) "__ne__") (some (some (.builtin "object.__ne__"))) && decide (PySem.W.subIn K (.ref (He.ga K x)) (.type "object") = some true)
/-- what isinstance asks of an instance of the class x -/
def tIns (x : Str) : Tst := fun K => He.eqO (PySem.W.findIn K (.ref (He.ga K x)) "__class__") (some (some (.builtin "object.__class__"))) &&
  (He.eqO (PySem.W.specialIn K (.builtin "object.__class__") "__get__") (some (some (.builtin "getset_descriptor.__get__"))) && (decide (PySem.W.takesIn K (.builtin "object.__class__") = some true) && decide (PySem.W.mroIn K (He.ga K x) (.type "object") = some true)))
/-- isinstance of the built-in type t against the class x; of the class y against x -/
def tKit (t : String) (x : Str) (b : Bool) : Tst := fun K => decide (PySem.W.kitOne K (.type t) (.ref (He.ga K x)) = some b)
def tKitO (y x : Str) (b : Bool) : Tst := fun K => decide (PySem.W.kitOne K (.ref (He.ga K y)) (.ref (He.ga K x)) = some b)
def tKitB (y : Str) (t : String) (b : Bool) : Tst := fun K => decide (PySem.W.kitOne K (.ref (He.ga K y)) (.type t) = some b)
/-- a comparison of an instance of x with a value of the type t begins with the instance -/
def tFst (x : Str) (t : String) : Tst := fun K => PySem.W.notFirst K (He.ga K x) (.type t)
def tFstO (x : Str) : Tst := fun K => PySem.W.notFirst K (He.ga K x) (.ref (He.ga K x))
theorem ins_ok {K : Fr} {x : Str} (c : tIns x K = true) {H : Hp} {a dx : Addr} {fs : List (Str × V)} (e : H a = some (.ins (He.ga K x) dx fs)) (cl : Cls K (He.ga K x)) : TyOf K H (.ref a) (.ref (He.ga K x)) := by
  obtain ⟨c1, c⟩ := He.ba c
  obtain ⟨c2, c⟩ := He.ba c
  obtain ⟨c3, c4⟩ := He.ba c
  exact .ins e cl (He.eqO_ok c1) (He.eqO_ok c2) (of_decide_eq_true c3) (of_decide_eq_true c4)
def clsMk (x : Str) : Tst := fun K => tCls x K && tMkr x K
end Hk
namespace Hk
open PySem PySem.Spec PyProof.Rows L2
section
variable {P : Program} {w : World} {K : Fr} {mg : Str → Option Value} {base : Heap}
/-- the global name x stands for a def at ad that keeps the promise sp (nothing is raised), at level k -/
def Cal (P : Program) (w : World) (K : Fr) (mg : Str → Option Value) (base : Heap) (k : Nat) (x : Str) (ad : Addr) (ps : List Str) (sp : Sp) : Prop :=
  ∃ fd : FuncData, FnOk P w K mg base CX0 k ad fd ps sp ∧ Binds K fd ps [] ∧ PySem.W.keepIn K (.ref ad) = true ∧ mg x = some (.ref ad)
theorem Cal.mono {j k : Nat} {x : Str} {ad : Addr} {ps : List Str} {sp : Sp} (c : Cal P w K mg base j x ad ps sp) (h : j ≤ k) : Cal P w K mg base k x ad ps sp := by
  obtain ⟨fd, F, r⟩ := c
  exact ⟨fd, F.mono h, r⟩
theorem Cal.imp {k : Nat} {x : Str} {ad : Addr} {ps : List Str} {sp sp' : Sp} (c : Cal P w K mg base k x ad ps sp) (h : ∀ vs H Q E, sp' vs H Q E → sp vs H Q E) : Cal P w K mg base k x ad ps sp' := by
  obtain ⟨fd, F, r⟩ := c
  exact ⟨fd, F.imp h, r⟩
theorem pe_c {X : Cx} {k : Nat} {x : Str} {ad : Addr} {ps : List Str} {sp : Sp} {e : Expr} {es : List Expr} {t : TA} {p pos : Pos} (c : Cal X.prog X.w X.K X.mg X.base k x ad ps sp) (hr : Room k X.A) (ha : PA X (e :: es) t) (hg : Gl X x := by rfl)
    (hdb : (x == ("__debug__" : Str)) = false := by decide) (he : starEach (e :: es) X.env = (false, eval e X.env) :: starEach es X.env := by rfl) (hpl : (backTo pos (starEach es X.env)).any (·.1) = false := by rfl) :
    PE X (.Call (.Name x p) (e :: es) [] pos) (tCall sp [] E0 t) := by
  obtain ⟨fd, F, b, kp, m⟩ := c
  exact pe_call F hr hg m kp b .nil pass0 ha hdb he hpl
/-- the body of a def: its reading -/
abbrev Body (P : Program) (w : World) (K : Fr) (mg : Str → Option Value) (base : Heap) (k : Nat) (d : Dx) (N ps : List Str) (sp : Sp) : Prop :=
  ∀ (cdv : Value) (A : Around) (outer : List Env) (s : Shared) (H : Hp) (vs : List V) (Q : VK) (E : XK), Room k (A.deeper (envOfC d.ql (defScope d.st) s.heap.objs.size (d.ad K) cdv)) → sp vs H Q E →
      ∃ t, PSs (cxOf CX0 P w K mg base N d.ql (defScope d.st) (d.ad K) cdv A outer s H E).nox (defBody d.st) t ∧ t { nx := fun _ H' => Q .non H', rt := Q } (start N vs) H
theorem ok_of {k : Nat} {d : Dx} {N ps : List Str} {sp : Sp} {fd : FuncData} (D : DAt K d fd) (S : FnScope N ps (defScope d.st)) (len : ∀ vs H Q E, sp vs H Q E → vs.length = ps.length) (hb : Body P w K mg base k d N ps sp) :
    FnOk P w K mg base CX0 (k + 1) (d.ad K) fd ps sp := by
  refine FunD.ok D S len fun cdv A outer s H vs Q E hr h => ?_
  obtain ⟨t, h1, h2⟩ := hb cdv A outer s H vs Q E hr h
  exact ⟨t, h1.nox, h2⟩
theorem cal_of {k : Nat} {d : Dx} {N ps : List Str} {sp : Sp} {x : Str} (D : ∃ fd, DAt K d fd) (hv : d.df = []) (S : FnScope N ps (defScope d.st)) (hm : mg x = some (.ref (d.ad K)))
    (hbi : ∀ (kV doc pm : Value) (an : Option Addr) (cdv ct : Value) (us : List Value), us.length = ps.length → bindArgs (PySem.W.fnOf d.nm d.ql (defArgs d.st) (defBody d.st) (defScope d.st) .none kV doc pm an cdv ct) ⟨us, []⟩ = pure (ps.zip us))
    (len : ∀ vs H Q E, sp vs H Q E → vs.length = ps.length) (hb : Body P w K mg base k d N ps sp) : Cal P w K mg base (k + 1) x (d.ad K) ps sp := by
  obtain ⟨fd, D⟩ := D
  have e : d.vs K = [] := by
    unfold Dx.vs
    rw [hv]
    rfl
  have D' : FunD K d.nm d.ql (defArgs d.st) (defBody d.st) (defScope d.st) [] [] (d.ad K) fd := by
    rw [← e]
    exact D
  exact ⟨fd, ok_of D S len hb, FunD.bindsN D' hbi, D.kp, hm⟩
end
end Hk
namespace Hk
open PySem PySem.Spec PyProof.Rows L2
theorem bo_int : bootBuiltins "int" = some (.type "int") := by decide +kernel
theorem bo_str : bootBuiltins "str" = some (.type "str") := by decide +kernel
theorem bo_len : bootBuiltins "len" = some (.builtin "len") := by decide +kernel
theorem bo_min : bootBuiltins "min" = some (.builtin "min") := by decide +kernel
theorem bo_max : bootBuiltins "max" = some (.builtin "max") := by decide +kernel
theorem bo_abs : bootBuiltins "abs" = some (.builtin "abs") := by decide +kernel
theorem bo_repr : bootBuiltins "repr" = some (.builtin "repr") := by decide +kernel
theorem bo_isinstance : bootBuiltins "isinstance" = some (.builtin "isinstance") := by decide +kernel
theorem bo_all : bootBuiltins "all" = some (.builtin "all") := by decide +kernel
theorem bo_any : bootBuiltins "any" = some (.builtin "any") := by decide +kernel
theorem bo_range : bootBuiltins "range" = some (.type "range") := by decide +kernel
theorem bo_bool : bootBuiltins "bool" = some (.type "bool") := by decide +kernel
end Hk

/-! Defs below which nothing is being shown (no repr runs around them): so repr of made data has its rule. -/
namespace Hk
open PySem PySem.Spec PyProof.Rows L2
abbrev Calm (A : Around) : Prop := A.guards = some []
/-- a def's promise where no repr runs around the call; nothing is raised -/
structure FnG (P : Program) (w : World) (K : Fr) (mg : Str → Option Value) (base : Heap) (k : Nat) (f : Addr) (fd : FuncData) (ps : List Str) (sp : Sp) : Prop where
  len : ∀ vs H Q E, sp vs H Q E → vs.length = ps.length
  run : ∀ (A : Around) (out : List Env) (s : Shared) (H : Hp) (args : Args) (us : List Value) (vs : List V) (Q : VK), Room k A → Calm A → Env0 P w K mg base A out s H → BindsTo s fd args (ps.zip us) → Vals vs us → sp vs H Q E0 →
    codeAny (model P w) A (.call (.ref f) args) (CR CX0 out P w H s Q E0) s
section
variable {P : Program} {w : World} {K : Fr} {mg : Str → Option Value} {base : Heap}
theorem FnG.mono {j k : Nat} {f : Addr} {fd : FuncData} {ps : List Str} {sp : Sp} (F : FnG P w K mg base j f fd ps sp) (h : j ≤ k) : FnG P w K mg base k f fd ps sp :=
  ⟨F.len, fun A out s H args us vs Q r => F.run A out s H args us vs Q (r.mono h)⟩
theorem FnG.of {k : Nat} {f : Addr} {fd : FuncData} {ps : List Str} {sp : Sp} (F : FnOk P w K mg base CX0 k f fd ps sp) : FnG P w K mg base k f fd ps sp :=
  ⟨F.len, fun A out s H args us vs Q r _ e b v h => F.run A out s H args us vs Q E0 r e b v h⟩
theorem FnG.imp {k : Nat} {f : Addr} {fd : FuncData} {ps : List Str} {sp sp' : Sp} (F : FnG P w K mg base k f fd ps sp) (h : ∀ vs H Q E, sp' vs H Q E → sp vs H Q E) : FnG P w K mg base k f fd ps sp' :=
  ⟨fun vs H Q E q => F.len vs H Q E (h _ _ _ _ q), fun A out s H args us vs Q r g e b v q => F.run A out s H args us vs Q r g e b v (h _ _ _ _ q)⟩
/-- such a def is called from a body -/
theorem call_g {X : Cx} {pins : List (Addr × Obj)} {σ : L2.St} {H : Hp} {s : Shared} {Q : VK} {us : List Value} {vs : List V} {k : Nat} {f : Addr} {fd : FuncData} {ps : List Str} {sp : Sp} (F : FnG X.prog X.w X.K X.mg X.base k f fd ps sp)
    (hr : Room k X.A) (hc : Calm X.A) (hb : Binds X.K fd ps []) (I : Inv X pins σ H s) (r : Vals vs us) (h : sp vs H Q E0) : wpAny (model X.prog X.w) X.A (call (.ref f) us) (EP X pins σ Q) X.xe s := by
  have ln : us.length = ps.length := r.length.symm.trans (F.len _ _ _ _ h)
  have bd : BindsTo s fd ⟨us, []⟩ (ps.zip us) := by
    have := hb s us I.kIn (by rw [List.append_nil]; exact ln)
    rwa [List.append_nil] at this
  refine wpAny_call (codeAny_mono (F.run X.A X.stack s H ⟨us, []⟩ us vs Q hr hc I.env0 bd r h) fun z s' hq => ?_)
  rcases z with e | fl
  · exact (show False from hq).elim
  · cases fl with
    | ret u => exact I.after hq
    | _ => exact (show False from hq).elim
/-- the global name x: a def at ad that keeps sp -/
def CalG (P : Program) (w : World) (K : Fr) (mg : Str → Option Value) (base : Heap) (k : Nat) (x : Str) (ad : Addr) (ps : List Str) (sp : Sp) : Prop :=
  ∃ fd : FuncData, FnG P w K mg base k ad fd ps sp ∧ Binds K fd ps [] ∧ PySem.W.keepIn K (.ref ad) = true ∧ mg x = some (.ref ad)
theorem Cal.g {k : Nat} {x : Str} {ad : Addr} {ps : List Str} {sp : Sp} (c : Cal P w K mg base k x ad ps sp) : CalG P w K mg base k x ad ps sp := by
  obtain ⟨fd, F, r⟩ := c
  exact ⟨fd, .of F, r⟩
theorem CalG.mono {j k : Nat} {x : Str} {ad : Addr} {ps : List Str} {sp : Sp} (c : CalG P w K mg base j x ad ps sp) (h : j ≤ k) : CalG P w K mg base k x ad ps sp := by
  obtain ⟨fd, F, r⟩ := c
  exact ⟨fd, F.mono h, r⟩
/-- its reading -/
def tG (sp : Sp) (t : TA) : TE := fun σ H Q => t σ H fun vs H1 => sp vs H1 Q E0
theorem pe_g {X : Cx} {k : Nat} {x : Str} {ad : Addr} {ps : List Str} {sp : Sp} {e : Expr} {es : List Expr} {t : TA} {p pos : Pos} (c : CalG X.prog X.w X.K X.mg X.base k x ad ps sp) (hr : Room k X.A) (hc : Calm X.A) (ha : PA X (e :: es) t) (hg : Gl X x := by rfl)
    (hdb : (x == ("__debug__" : Str)) = false := by decide) (he : starEach (e :: es) X.env = (false, eval e X.env) :: starEach es X.env := by rfl) (hpl : (backTo pos (starEach es X.env)).any (·.1) = false := by rfl) :
    PE X (.Call (.Name x p) (e :: es) [] pos) (tG sp t) := by
  obtain ⟨fd, F, b, kp, m⟩ := c
  refine ⟨fun pins s σ H Q I h => wpAny_Call_Name_kw (ld_glob I hg m ?_ hdb)⟩
  refine PySem.W.callWith_K (h₀ := X.base) I.ok.mod.kin kp (thn (ha.run pos pins s σ H _ I h) fun us s1 ⟨vs, H1, J, r, q⟩ => ⟨J.kIn, ?_⟩) he hpl
  exact call_g F hr hc b J r q
abbrev BodyG (P : Program) (w : World) (K : Fr) (mg : Str → Option Value) (base : Heap) (k : Nat) (d : Dx) (N ps : List Str) (sp : Sp) : Prop :=
  ∀ (cdv : Value) (A : Around) (outer : List Env) (s : Shared) (H : Hp) (vs : List V) (Q : VK) (E : XK), Room k (A.deeper (envOfC d.ql (defScope d.st) s.heap.objs.size (d.ad K) cdv)) → Calm A → sp vs H Q E →
      ∃ t, PSs (cxOf CX0 P w K mg base N d.ql (defScope d.st) (d.ad K) cdv A outer s H E).nox (defBody d.st) t ∧ t { nx := fun _ H' => Q .non H', rt := Q } (start N vs) H
/-- such a def, by its body -/
theorem okg_of {k : Nat} {d : Dx} {N ps : List Str} {sp : Sp} {fd : FuncData} (D : DAt K d fd) (S : FnScope N ps (defScope d.st)) (len : ∀ vs H Q E, sp vs H Q E → vs.length = ps.length) (hb : BodyG P w K mg base k d N ps sp) :
    FnG P w K mg base (k + 1) (d.ad K) fd ps sp := by
  obtain ⟨oc, od, dV, kV, doc, pm, an, cdv, ct, osl, rfl, lk, hcd, _, _⟩ := D.ex
  refine ⟨len, fun A out s H args us vs Q hr hc e0 hbd r hsp => ?_⟩
  have old : ∀ b o, base.get? b = some o → s.heap.get? b = some o := fun b o z => (e0.bs b o z).1
  have KX : K.In s.heap := e0.mod.kin.keeps old
  have kd : ∀ y ∈ ps.zip us, (defScope d.st).names.lookup y.1 = some .local ∨ ((defScope d.st).names.lookup y.1 = some .cell ∧ ((cellsFrom (s.heap.objs.size + 1) (defScope d.st).names []).lookup y.1).isSome = true) := by
    rintro ⟨n, v⟩ hy
    have q := S.par n (List.of_mem_zip hy).1
    exact q.imp id fun q => ⟨q, PySem.W.cellsFrom_some _ _ _ (.inl q)⟩
  refine codeAny_call_function hr.depth (KX _ _ lk) rfl S.co S.gen rfl (PySem.W.codeRec_of KX hcd) (hbd _ _ _ _ ?_)
  refine wpAny_newFunctionEnv_cells S.kind kd fun env he s1 x => ?_
  subst he
  refine ⟨(e0.mod.nolimit.keeps old).keeps x.toInCall.keep, codeAny_func ?_⟩
  obtain ⟨t, ht, hq⟩ := hb cdv A out s H vs Q E0 (hr.deeper _) hc hsp
  have I : Inv (cxOf CX0 P w K mg base N d.ql (defScope d.st) (d.ad K) cdv A out s H E0) [] (start N vs) H s1 := inv_start S hr.hd e0 (len _ _ _ _ hsp) r x
  refine wpAny_mono (ht.nox.run [] s1 (start N vs) H _ I hq) (fun fl s' hs => ?_) fun e s' hs => hs
  cases fl with
  | next =>
    obtain ⟨σ', H', J, q⟩ := hs
    exact ⟨V.non, H', J.os, J.bare, J.base, J.hok, rfl, q⟩
  | ret u =>
    obtain ⟨v, σ', H', J, rv, q⟩ := hs
    exact ⟨v, H', J.os, J.bare, J.base, J.hok, rv, q⟩
  | brk =>
    obtain ⟨σ', H', J, q⟩ := hs
    exact False.elim q
  | cont =>
    obtain ⟨σ', H', J, q⟩ := hs
    exact False.elim q
theorem calg_of {k : Nat} {d : Dx} {N ps : List Str} {sp : Sp} {x : Str} (D : ∃ fd, DAt K d fd) (hv : d.df = []) (S : FnScope N ps (defScope d.st)) (hm : mg x = some (.ref (d.ad K)))
    (hbi : ∀ (kV doc pm : Value) (an : Option Addr) (cdv ct : Value) (us : List Value), us.length = ps.length → bindArgs (PySem.W.fnOf d.nm d.ql (defArgs d.st) (defBody d.st) (defScope d.st) .none kV doc pm an cdv ct) ⟨us, []⟩ = pure (ps.zip us))
    (len : ∀ vs H Q E, sp vs H Q E → vs.length = ps.length) (hb : BodyG P w K mg base k d N ps sp) : CalG P w K mg base (k + 1) x (d.ad K) ps sp := by
  obtain ⟨fd, D⟩ := D
  have e : d.vs K = [] := by
    unfold Dx.vs
    rw [hv]
    rfl
  have D' : FunD K d.nm d.ql (defArgs d.st) (defBody d.st) (defScope d.st) [] [] (d.ad K) fd := by
    rw [← e]
    exact D
  exact ⟨fd, okg_of D S len hb, FunD.bindsN D' hbi, D.kp, hm⟩
/-- the law's own end: such a def is called with the script -/
theorem end_g {l : PySem.W.OpenLaw} {q : Program} {loose : List Str} {XP : (Str → Option Value) → Heap → Prop} {YP : World → Heap → Prop} {d : DefRec} {k : Nat} {x : Str} (hn : l.most = some 63) (hdf : d.params.defaults = []) (hr : Room k callerA)
    (F : ∀ (w : World) (mg : Str → Option Value) (fa : Addr) (h : Heap), YP w h → h.Ns mainGlobals mg → mg d.name = some (.ref fa) →
      ∃ (K : Fr) (fd : FuncData) (sp : Sp), K.In h ∧ (∀ (s : Shared) (u : Value), BindsTo s fd ⟨[u], []⟩ [(x, u)]) ∧
        (∀ (H : Hp) (a : Addr) (ns : List Int), ns.length ≤ 63 → (∀ n ∈ ns, Builtin.Int.intBits n ≤ 1048576) → SqL K H a (ns.map V.int) → sp [.ref a] H (fun v _ => v = .bl true) E0) ∧
        ∀ base : Heap, K.In base → base.Ns mainGlobals mg → FnG l.prog w K mg base k fa fd [x] sp) :
    PySem.W.WalkO q loose XP YP l.row.toRowW d [] (fun f vs => PySem.call f vs) := by
  refine Att.attach_callB hn hdf fun w s₀ s₁ mg mb fa o pm cd doc a vs ns G Y ho hd hcd hmg hobj hints hlen hbits hg => ?_
  obtain ⟨K, fd, sp, KX, hbi, hsp, hF⟩ := F w mg fa _ Y G.T.g hmg
  have rv := vals_ints hints
  have sz : vs.length ≤ sizeLine := by
    have := hints.length
    have e : 63 ≤ sizeLine := by decide
    omega
  have szn : (ns.map V.int).length ≤ sizeLine := by
    rw [rv.length]
    exact sz
  -- an abstract heap in which the script alone may be tracked
  obtain ⟨H, hO, hS, hok, hA, hK⟩ : ∃ H : Hp, Only H ∧ SqL K H a (ns.map V.int) ∧ HOk l.prog w H s₁.heap ∧ (∀ b, H b ≠ none → b = a) ∧ (H a ≠ none → K.lookup a = none) := by
    cases hk : K.lookup a with
    | some ob =>
      have e := KX a ob hk
      rw [hobj] at e
      cases e
      refine ⟨fun _ => none, fun _ => .inl rfl, .inr ⟨_, vs.toArray, _, hk, rfl, rfl, rfl, ?_, ?_⟩, fun b u z => (nomatch z), fun b z => absurd rfl z, fun z => absurd rfl z⟩
      · rw [List.size_toArray]
        exact sz
      · simpa using rv
    | none =>
      have at_ : ∀ {b : Addr} {u : HO}, (if b = a then some (HO.frz { cls := .type "list", data := .seq vs.toArray } (.lst (ns.map V.int))) else none) = some u → b = a ∧ u = HO.frz { cls := .type "list", data := .seq vs.toArray } (.lst (ns.map V.int)) := fun {b u} z => by
        by_cases hb : b = a
        · rw [if_pos hb] at z
          exact ⟨hb, (Option.some.inj z).symm⟩
        · rw [if_neg hb] at z
          exact nomatch z
      refine ⟨fun b => if b = a then some (.frz { cls := .type "list", data := .seq vs.toArray } (.lst (ns.map V.int))) else none, fun b => ?_, .inl (.inr ⟨_, if_pos rfl⟩), fun b u z => ?_, fun b z => ?_, fun _ => rfl⟩
      · by_cases hb : b = a
        · exact .inr ⟨_, _, if_pos hb⟩
        · exact .inl (if_neg hb)
      · obtain ⟨e1, e2⟩ := at_ z
        subst e1 e2
        exact ⟨hobj, szn, vs, _, rv, hobj⟩
      · by_cases hb : b = a
        · exact hb
        · exact absurd (if_neg hb) z
  have old : ∀ {b : Addr} {ob : Obj}, s₁.heap.get? b = some ob → H b = none → (hidT s₁.heap H).get? b = some ob := fun e n => hidT_get e n
  have only_a : ∀ b, b ≠ a → H b = none := fun b hb => by
    cases z : H b with
    | none => rfl
    | some u => exact absurd (hA b (by rw [z]; exact fun y => nomatch y)) hb
  have dict_out : ∀ {b : Addr} {ob : Obj} {es : Array DictEntry} {ep : Nat}, s₁.heap.get? b = some ob → ob.data = .dict es ep → H b = none := fun {b ob es ep} e dd => only_a b fun z => by
    subst z
    rw [hobj] at e
    cases e
    exact nomatch dd
  have ns_ : ∀ {b : Addr} {m : Str → Option Value}, s₁.heap.Ns b m → (hidT s₁.heap H).Ns b m := fun {b m} ⟨ob, es, ep, e, dd, r⟩ => ⟨ob, es, ep, old e (dict_out e dd), dd, r⟩
  have K_ : K.In (hidT s₁.heap H) := fun b ob e => old (KX b ob e) (by
    cases z : H b with
    | none => rfl
    | some u =>
      have eb := hA b (by rw [z]; exact fun y => nomatch y)
      subst eb
      have := hK (by rw [z]; exact fun y => nomatch y)
      rw [this] at e
      exact nomatch e)
  obtain ⟨mc, l1, l2⟩ := G.T.nolimit
  have e0 : Env0 l.prog w K mg (hidT s₁.heap H) callerA [] s₁ H :=
    { frames := rfl, mod := ⟨K_, ns_ G.T.g, ⟨mb, ns_ G.T.b, G.T.builtins⟩, ⟨mc, ns_ l1, l2⟩⟩, bs := fun b ob e => of_hidT e, bsz := Nat.le_of_eq (hidT_size _ _), funs := trivial, frf := fun b hb => absurd hb (List.not_mem_nil), hok := hok, bare := .of_eq hg }
  refine codeAny_mono ((hF _ K_ (ns_ G.T.g)).run callerA [] s₁ H ⟨[.ref a], []⟩ [.ref a] [.ref a] (fun v _ => v = .bl true) hr rfl e0 (hbi s₁ (.ref a)) (.cons rfl .nil) (hsp H a ns hlen hbits hS)) fun r s' h => ?_
  cases r with
  | error e => exact (show False from h).elim
  | ok fl =>
    cases fl with
    | ret u =>
      obtain ⟨v, H', os, bare, un, hok', r', ev⟩ := h
      have ev' : v = .bl true := ev
      subst ev'
      cases r'
      refine ⟨rfl, OldK.of_keep fun b ob e => ?_, os, bare⟩
      rcases hO b with z | ⟨o1, xs, z⟩
      · exact un.keep b ob e z (List.not_mem_nil) (List.not_mem_nil)
      · obtain ⟨e1, _⟩ := hok b _ z
        obtain ⟨e2, _⟩ := hok' b _ (un.frzs b o1 _ z)
        rw [e] at e1
        cases e1
        exact e2
    | _ => exact (show False from h).elim
end
end Hk

/-! repr of data; str, repr, == of own instances by their own methods; static methods. -/
namespace Hk
open PySem PySem.Spec PyProof.Rows L2
mutual
theorem Dp.noDict {K : Fr} {H : Hp} : ∀ (d : PyData) (v : V), Dp K H v d → d.hasDict = false
  | .none, _, _ => by simp [PyData.hasDict]
  | .bool _, _, _ => by simp [PyData.hasDict]
  | .int _, _, _ => by simp [PyData.hasDict]
  | .str _, _, _ => by simp [PyData.hasDict]
  | .list ds, _, h => by
    cases h with
    | lst _ ha =>
      simp only [PyData.hasDict]
      exact Dp.noDictAll ds _ ha
  | .tuple ds, _, h => by
    cases h with
    | tup _ ha =>
      simp only [PyData.hasDict]
      exact Dp.noDictAll ds _ ha
  | .dict _, _, h => by cases h
theorem Dp.noDictAll {K : Fr} {H : Hp} : ∀ (ds : List PyData) (vs : List V), DpAll K H vs ds → PyData.hasDictAll ds = false
  | [], _, _ => by simp [PyData.hasDictAll]
  | d :: ds, _, h => by
    cases h with
    | cons h1 h2 =>
      simp only [PyData.hasDictAll, Bool.or_eq_false_iff]
      exact ⟨Dp.noDict d _ h1, Dp.noDictAll ds _ h2⟩
end
/-- repr(x), x data: none, a truth, an int, a text, lists and tuples of such -/
def rRepr (K : Fr) : List V → Hp → VK → Prop := fun xs H Q => ∃ x d, xs = [x] ∧ Dp K H x d ∧ d.showable = true ∧ d.depth ≤ 60 ∧ d.shown.length ≤ sizeLine ∧ Q (.str d.shown) H
section
variable {X : Cx}
theorem call_reprD {k : Nat} (hc : Calm X.A) (hr : Room k X.A) : CallR X (.builtin "repr") (rRepr X.K) := by
  intro pins s σ H xs us Q I r h
  obtain ⟨x, d, rfl, hd, hs, hdp, hz, q⟩ := h
  obtain ⟨u, rfl, ru⟩ := r.one
  cases hd with
  | non =>
    cases ru
    rw [PyData.shown_none] at q
    exact PySem.P.repr_of_none ⟨.str _, H, I.tok _, ⟨_, rfl⟩, q⟩
  | bl b =>
    cases ru
    rw [PyData.shown_bool] at q
    refine PySem.P.repr_of_bool ⟨.str _, H, I.tok _, ⟨_, rfl⟩, ?_⟩
    cases b <;> exact q
  | int i =>
    obtain ⟨t, rfl⟩ := ru
    rw [PyData.shown_int] at q
    refine PySem.P.repr_of_int ?_ ⟨.str _, H, I.tok _, ⟨_, rfl⟩, q⟩
    simpa [PyData.showable] using hs
  | str y =>
    obtain ⟨t, rfl⟩ := ru
    rw [PyData.shown_str] at q hz
    exact PySem.P.repr_of_str ⟨.str _, H, I.tok _, ⟨_, rfl⟩, q⟩ hz
  | @lst a ys ds h1 h2 =>
    have e : u = Value.ref a := ru
    subst e
    have nd := Dp.noDict _ _ (Dp.lst h1 h2)
    obtain ⟨as, hr'⟩ := Dp.reads I (.list ds) _ _ (Dp.lst h1 h2) rfl
    refine PySem.repr_of_reads' hr' hs (fun z => by rw [nd] at z; exact nomatch z) hc ?_ (fun b o z => z) (fun h' u tk kp => ⟨.str _, H, I.kept kp, ⟨_, rfl⟩, q⟩) hz
    have := hr.units
    omega
  | @tup a ys ds h1 h2 =>
    have e : u = Value.ref a := ru
    subst e
    have nd := Dp.noDict _ _ (Dp.tup h1 h2)
    obtain ⟨as, hr'⟩ := Dp.reads I (.tuple ds) _ _ (Dp.tup h1 h2) rfl
    refine PySem.repr_of_reads' hr' hs (fun z => by rw [nd] at z; exact nomatch z) hc ?_ (fun b o z => z) (fun h' u tk kp => ⟨.str _, H, I.kept kp, ⟨_, rfl⟩, q⟩) hz
    have := hr.units
    omega
/-! ### own methods that the interpreter calls -/
theorem own_run {A' : Around} {pins : List (Addr × Obj)} {σ : L2.St} {H : Hp} {s : Shared} {Q : VK} {E' : Value → Shared → Prop} {us : List Value} {vs : List V} {k : Nat} {f : Addr} {fd : FuncData} {ps : List Str} {sp : Sp} (F : FnOk X.prog X.w X.K X.mg X.base CX0 k f fd ps sp)
    (hr : Room k A') (e0 : Env0 X.prog X.w X.K X.mg X.base A' X.stack s H) (hb : Binds X.K fd ps []) (I : Inv X pins σ H s) (r : Vals vs us) (h : sp vs H Q E0) : wpAny (model X.prog X.w) A' (call (.ref f) us) (EP X pins σ Q) E' s := by
  have ln : us.length = ps.length := r.length.symm.trans (F.len _ _ _ _ h)
  have bd : BindsTo s fd ⟨us, []⟩ (ps.zip us) := by
    have := hb s us I.kIn (by rw [List.append_nil]; exact ln)
    rwa [List.append_nil] at this
  refine wpAny_call (codeAny_mono (F.run A' X.stack s H ⟨us, []⟩ us vs Q E0 hr e0 bd r h) fun z s' hq => ?_)
  rcases z with e | fl
  · exact (show False from hq).elim
  · cases fl with
    | ret u => exact I.after hq
    | _ => exact (show False from hq).elim
/-- the class at C has its own def at f for the name m -/
structure Own (K : Fr) (C : Addr) (m : Str) (f : Addr) : Prop where
  at_ : PySem.W.findIn K (.ref C) m = some (some (.ref f))
  fn : PySem.W.isFn K (.ref f) = true
def rText (C : Addr) (sp : Sp) : List V → Hp → VK → Prop := fun xs H Q => ∃ a dx fs, xs = [.ref a] ∧ H a = some (.ins C dx fs) ∧ sp [.ref a] H (fun z H' => ∃ y, z = .str y ∧ Q z H') E0
section
variable {k : Nat} {C f : Addr} {fd : FuncData} {ps : List Str} {sp : Sp}
theorem call_strO (O : Own X.K C "__str__" f) (F : FnOk X.prog X.w X.K X.mg X.base CX0 k f fd ps sp) (hb : Binds X.K fd ps []) (hr : Room (k + 2) X.A) : CallR X (.type "str") (rText C sp) := by
  intro pins s σ H xs us Q I r h
  obtain ⟨a, dx, fs, rfl, ha, q⟩ := h
  obtain ⟨u, rfl, ru⟩ := r.one
  cases (show u = Value.ref a from ru)
  obtain ⟨mA, M, _⟩ := ins_get I.hok ha
  obtain ⟨od, J, _⟩ := M.look
  have r2 : Room k X.A.in1.in1 := (show Room (k + 1) X.A.in1 from Room.in1 hr).in1
  refine PySem.W.kso_call r2.units0 I.kIn J O.at_ O.fn (wpAny_mono (own_run (vs := [.ref a]) F r2 I.env0.in1.in1 hb I (.cons rfl .nil) q) (fun v s' z => ?_) fun _ _ z => z)
  obtain ⟨z', H', I', rz, y, ey, qz⟩ := z
  subst ey
  obtain ⟨t, e⟩ := (show ∃ t, v = Value.str y t from rz)
  cases e
  exact ⟨.str y, H', I', ⟨t, rfl⟩, qz⟩
theorem call_reprO (O : Own X.K C "__repr__" f) (F : FnOk X.prog X.w X.K X.mg X.base CX0 k f fd ps sp) (hb : Binds X.K fd ps []) (hr : Room (k + 1) X.A) : CallR X (.builtin "repr") (rText C sp) := by
  intro pins s σ H xs us Q I r h
  obtain ⟨a, dx, fs, rfl, ha, q⟩ := h
  obtain ⟨u, rfl, ru⟩ := r.one
  cases (show u = Value.ref a from ru)
  obtain ⟨mA, M, _⟩ := ins_get I.hok ha
  obtain ⟨od, J, _⟩ := M.look
  have r2 : Room k X.A.in1 := Room.in1 hr
  obtain ⟨m, hF⟩ := I.fr
  refine PySem.W.repr_K r2.units0 hF I.ok.mod.kin J O.at_ O.fn (wpAny_mono (own_run (vs := [.ref a]) F r2 I.env0.in1 hb I (.cons rfl .nil) q) (fun v s' z => ?_) fun _ _ z => z)
  obtain ⟨z', H', I', rz, y, ey, qz⟩ := z
  subst ey
  obtain ⟨t, e⟩ := (show ∃ t, v = Value.str y t from rz)
  cases e
  exact ⟨.str y, H', I', ⟨t, rfl⟩, qz⟩
/-- the type of what is compared -/
inductive TyL (K : Fr) (H : Hp) : V → Value → Prop where
  | non : TyL K H .non (.type "NoneType")
  | bl (b : Bool) : TyL K H (.bl b) (.type "bool")
  | int (i : Int) : TyL K H (.int i) (.type "int")
  | str (y : Str) : TyL K H (.str y) (.type "str")
  | lst {a : Addr} {xs : List V} (h : H a = some (.lst xs)) : TyL K H (.ref a) (.type "list")
  | tup {a : Addr} {xs : List V} (h : H a = some (.tup xs)) : TyL K H (.ref a) (.type "tuple")
  | ins {a C dx : Addr} {fs : List (Str × V)} (h : H a = some (.ins C dx fs)) : TyL K H (.ref a) (.ref C)
theorem typeOf_obj {M : Model} {h : Heap} {a : Addr} {o : Obj} {t : Value} (e : h.get? a = some o) (c : o.cls = t) : PySem.W.Looks M h (typeOf (.ref a)) t := by
  intro A Q E s kp q
  refine wpAny_typeOf_ref (kp _ _ e) ?_
  rw [c]
  exact q
theorem TyL.looks {pins : List (Addr × Obj)} {σ : L2.St} {H : Hp} {s : Shared} {y : V} {u t : Value} {M : Model} (I : Inv X pins σ H s) (ry : RelV y u) (ty : TyL X.K H y t) : PySem.W.Looks M s.heap (typeOf u) t := by
  cases ty with
  | non => cases ry; exact PySem.W.Looks.of_pure rfl
  | bl b => cases ry; exact PySem.W.Looks.of_pure rfl
  | int i =>
    obtain ⟨t, rfl⟩ := ry
    exact PySem.W.Looks.of_pure rfl
  | str z =>
    obtain ⟨t, rfl⟩ := ry
    exact PySem.W.Looks.of_pure rfl
  | @lst a xs h =>
    cases (show u = Value.ref a from ry)
    obtain ⟨_, its, n, _, e⟩ := (show ObjOk X.prog X.w H s.heap a (.lst xs) from I.hok a _ h)
    exact typeOf_obj e rfl
  | @tup a xs h =>
    cases (show u = Value.ref a from ry)
    obtain ⟨_, its, _, o, e, c, _⟩ := (show ObjOk X.prog X.w H s.heap a (.tup xs) from I.hok a _ h)
    exact typeOf_obj e c
  | @ins a C dx fs h =>
    cases (show u = Value.ref a from ry)
    obtain ⟨mA, M, _⟩ := ins_get I.hok h
    obtain ⟨od, J, _⟩ := M.look
    exact J.type
def rEqO (K : Fr) (C : Addr) (sp : Sp) : R2 := fun x y H Q => ∃ a dx fs t, x = .ref a ∧ H a = some (.ins C dx fs) ∧ TyL K H y t ∧ PySem.W.notFirst K C t = true ∧ sp [x, y] H (fun z H' => ∃ b, z = .bl b ∧ Q z H') E0
theorem op_eqO (O : Own X.K C "__eq__" f) (F : FnOk X.prog X.w X.K X.mg X.base CX0 k f fd ps sp) (hb : Binds X.K fd ps []) (hr : Room k X.A) : OpR X (compareOp .Eq) (rEqO X.K C sp) := by
  intro pins s σ H x y v u Q I rx ry h
  obtain ⟨a, dx, fs, t, rfl, ha, ty, hn, q⟩ := h
  cases (show v = Value.ref a from rx)
  obtain ⟨mA, M, _⟩ := ins_get I.hok ha
  obtain ⟨od, J, _⟩ := M.look
  obtain ⟨m, hF⟩ := I.fr
  show wpAny _ _ (richCompare .Eq (.ref a) u) _ _ _
  refine PySem.W.cmp_K (op := .Eq) hr.units0 hF I.ok.mod.kin J (ty.looks I ry) hn O.at_ O.fn (wpAny_mono (own_run (vs := [.ref a, y]) F hr I.env0 hb I (.cons rfl (.cons ry .nil)) q) (fun w s' z => ?_) fun _ _ z => z)
  obtain ⟨z', H', I', rz, b, eb, qz⟩ := z
  subst eb
  cases rz
  exact ⟨.bl b, H', I', rfl, qz⟩
end
end
end Hk
namespace Hk
open PySem PySem.Spec PyProof.Rows L2
/-! ### != where the class has == alone -/
section
variable {prog : Program} {w : World} {A : Around} {E : Value → Shared → Prop} {s : Shared} {K : Fr} {x C f : Addr} {ox : Obj} {od : Option Obj}
theorem ne_dflt {b tb : Value} {Q : Value → Shared → Prop} (hu : A.units + 2 < cLine) (Y : K.In s.heap) (I : PySem.W.InstAt s.heap x ox C od) (hb : PySem.W.Looks (model prog w) s.heap (typeOf b) tb) (hn : PySem.W.notFirst K C tb = true)
    (hne : PySem.W.findIn K (.ref C) "__ne__" = some (some (.builtin "object.__ne__"))) (he : PySem.W.findIn K (.ref C) "__eq__" = some (some (.ref f))) (hf : PySem.W.isFn K (.ref f) = true) (hob : PySem.W.subIn K (.ref C) (.type "object") = some true)
    (h : wpAny (model prog w) A.in1 (call (.ref f) [.ref x, b]) (fun v s' => ∃ r, v = .bool r ∧ Q (.bool (!r)) s') E s) : wpAny (model prog w) A (richCompare .NotEq (.ref x) b) Q E s := by
  have slot := PySem.F.slot_object_ne
  have body : wpAny (model prog w) A.in1 (Builtin.«object.__ne__» ⟨[.ref x, b], []⟩) (fun fin s' => ∃ v, fin = .done (.ret v) ∧ v ≠ .notImplemented ∧ Q v s') E s := by
    unfold Builtin.«object.__ne__»
    repeat (first
      | with_reducible refine wpAny_cRoomFor (show A.units + 1 < cLine by omega) ?_
      | (refine wpAny_bind (m := callSpecialIfBound? (.ref x) (Str.ofString "__eq__") [b]) (PySem.W.ifBound_K Y I he hf (wpAny_mono h (fun r s' hr => ?_) fun _ _ e => e))
         obtain ⟨b, rfl, hq⟩ := hr)
      | exact ⟨_, rfl, (fun z => nomatch z), hq⟩
      | (refine wpAny_bind (m := truthy (.bool _)) (wpAny_truthy_bool ?_))
      | wp_step)
  have called : wpAny (model prog w) A (call (.builtin "object.__ne__") [.ref x, b]) (fun v s' => v ≠ .notImplemented ∧ Q v s') E s := by
    refine wpAny_call (codeAny_call_builtin slot.plain PySem.F.cmpEntry_ne (PySem.W.check_slot PySem.F.cmpKind_ne PySem.F.cmpSplit_ne (I.type.andThen (PySem.W.looks_subIn Y hob)) (PySem.F.cmpArgs_ne _ _) ?_))
    exact wpAny_mono body (fun fin s' hv => by obtain ⟨v, rfl, q⟩ := hv; exact q) fun _ _ z => z
  have one : wpAny (model prog w) A (tryCompare (.ref x) (cmpInfo .NotEq).2.1 b) (fun r s' => ∃ v, r = some v ∧ Q v s') E s := by
    unfold tryCompare
    refine wpAny_bind ?_
    simp only [callSpecialIfBound?, bindSpecialIfBound?]
    refine wpAny_holding (wpAny_bind (wpAny_bind (wpAny_bind (I.type.here ((PySem.W.looks_findIn Y hne).here ?_)))))
    simp only [slot.bind]
    refine wpAny_bind (wpAny_askSetting (wpAny_ite ?_))
    split
    · refine wpAny_bind (wpAny_pure (wpAny_pure ?_))
      refine wpAny_bind (wpAny_mono called (fun v s' hv => wpAny_pure ?_) fun _ _ z => z)
      obtain ⟨h1, h2⟩ := hv
      cases v <;> first | exact absurd rfl h1 | exact wpAny_pure ⟨_, rfl, h2⟩
    · refine wpAny_tryCatch (wpAny_bind (wpAny_pure (wpAny_pure ?_)))
      refine wpAny_bind (wpAny_mono called (fun v s' hv => wpAny_pure ?_) fun _ _ z => z)
      obtain ⟨h1, h2⟩ := hv
      cases v <;> first | exact absurd rfl h1 | exact wpAny_pure ⟨_, rfl, h2⟩
  unfold richCompare
  simp only [oneThing_ref]
  refine wpAny_holding (wpAny_bind (wpAny_cRoomFor (by omega) ?_))
  refine wpAny_bind (I.type.here (wpAny_bind (hb.here ?_)))
  have nosub : ((Value.ref C != tb) = true) → PySem.W.subIn K tb (.ref C) = some false := fun q => by
    rcases Bool.or_eq_true_iff.mp hn with e | e
    · rw [beq_iff_eq.mp e] at q
      simp at q
    · exact beq_iff_eq.mp e
  split
  · rename_i q
    refine wpAny_bind ((PySem.W.looks_subIn Y (nosub q)).here ?_)
    simp only [Bool.false_eq_true, if_false]
    refine wpAny_bind (wpAny_mono one (fun r s' z => ?_) fun _ _ e => e)
    obtain ⟨v, rfl, hv⟩ := z
    exact wpAny_pure hv
  · refine wpAny_bind (wpAny_pure ?_)
    simp only [Bool.false_eq_true, if_false]
    refine wpAny_bind (wpAny_mono one (fun r s' z => ?_) fun _ _ e => e)
    obtain ⟨v, rfl, hv⟩ := z
    exact wpAny_pure hv
end
section
variable {X : Cx} {k : Nat} {C f : Addr} {fd : FuncData} {ps : List Str} {sp : Sp}
/-- the class has its own ==, and != of object -/
structure NeOf (K : Fr) (C : Addr) : Prop where
  ne : PySem.W.findIn K (.ref C) "__ne__" = some (some (.builtin "object.__ne__"))
  ob : PySem.W.subIn K (.ref C) (.type "object") = some true
def rNeO (K : Fr) (C : Addr) (sp : Sp) : R2 := fun x y H Q => ∃ a dx fs t, x = .ref a ∧ H a = some (.ins C dx fs) ∧ TyL K H y t ∧ PySem.W.notFirst K C t = true ∧ sp [x, y] H (fun z H' => ∃ b, z = .bl b ∧ Q (.bl (!b)) H') E0
theorem op_neO (O : Own X.K C "__eq__" f) (N : NeOf X.K C) (F : FnOk X.prog X.w X.K X.mg X.base CX0 k f fd ps sp) (hb : Binds X.K fd ps []) (hr : Room (k + 1) X.A) : OpR X (compareOp .NotEq) (rNeO X.K C sp) := by
  intro pins s σ H x y v u Q I rx ry h
  obtain ⟨a, dx, fs, t, rfl, ha, ty, hn, q⟩ := h
  cases (show v = Value.ref a from rx)
  obtain ⟨mA, M, _⟩ := ins_get I.hok ha
  obtain ⟨od, J, _⟩ := M.look
  have r2 : Room k X.A.in1 := Room.in1 hr
  show wpAny _ _ (richCompare .NotEq (.ref a) u) _ _ _
  refine ne_dflt (by have := hr.units; omega) I.kIn J (ty.looks I ry) hn N.ne O.at_ O.fn N.ob (wpAny_mono (own_run (vs := [.ref a, y]) F r2 I.env0.in1 hb I (.cons rfl (.cons ry .nil)) q) (fun w s' z => ?_) fun _ _ z => z)
  obtain ⟨z', H', I', rz, b, eb, qz⟩ := z
  subst eb
  cases rz
  exact ⟨b, rfl, .bl (!b), H', I', rfl, qz⟩
end
/-! ### a static method, called off its class by one keyword or more -/
structure Stat (K : Fr) (C : Addr) (mc : Value) (m : Str) (p g : Addr) : Prop where
  rd : ClX.CRead K C mc
  at_ : PySem.W.findCls K (.ref C) mc m = some (.get (.builtin "staticmethod.__get__") (.ref p) .none (.ref C))
  rc : ∃ rest, PySem.W.recIn K p "staticmethod" = some (.ref g :: rest)
  kp : PySem.W.keepIn K (.ref g) = true
def tStatK (C : Addr) (sp : Sp) (ta : TE) (tk : TA) : TE := fun σ H Q => ta σ H fun x H1 => x = .ref C ∧ tk σ H1 fun vs H2 => sp vs H2 Q E0
section
variable {X : Cx} {k : Nat} {C p g : Addr} {mc : Value} {m : Str} {fd : FuncData} {ps : List Str} {sp : Sp} {o : Expr} {kws : List Keyword} {ta : TE} {tk : TA} {pos apos : Pos} {pl : Sem Bool}
theorem pe_statK (he : PE X o ta) (S : Stat X.K C mc m p g) (F : FnOk X.prog X.w X.K X.mg X.base CX0 k g fd ps sp) (hr : Room k X.A)
    (hbk : ∀ (s : Shared) (ws : List Value), X.K.In s.heap → ws.length = ps.length → BindsTo s fd ⟨[], ps.zip ws⟩ (ps.zip ws)) (hk : PK X kws tk)
    (hall : (backToKw pos (keywordEach kws X.env)).all (·.1.isSome) = true := by rfl) (hks : (backToKw pos (keywordEach kws X.env)).filterMap (·.1) = ps := by rfl)
    (hpl : ((backTo pos (starEach [] X.env)).any (·.1) || (backToKw pos (keywordEach kws X.env)).any (·.1.isNone)) = false := by rfl)
    (ht : eval (.Call (.Attribute o m apos) [] kws pos) X.env = (do
      let ov ← eval o X.env
      standAt apos.atName
      let (f, first) ← holding [ov] (getMethod ov m pl)
      callWith pos f first (backTo pos (starEach [] X.env)) (backToKw pos (keywordEach kws X.env))) := by rfl) :
    PE X (.Call (.Attribute o m apos) [] kws pos) (tStatK C sp ta tk) := by
  refine ⟨fun pins s σ H Q I h => PySem.W.methodCall_KW (pl := pl) (thn (he.run pins s σ H _ I h) fun u s1 hu => ?_) ht⟩
  obtain ⟨x, H1, I1, rx, ex, q⟩ := hu
  subst ex
  obtain rfl : u = Value.ref C := rx
  obtain ⟨rest, hp⟩ := S.rc
  refine PySem.W.method_cls I1.kIn S.rd.ga (PySem.W.cls_bind I1.kIn S.rd.rd S.at_ (wpAny_call (PySem.W.sm_get (s := { s1 with toks := s1.toks + 1 }) I1.kIn hp (PySem.W.handed_on rfl ?_))))
  refine PySem.W.callWith_KW0 (h₀ := X.base) I1.ok.mod.kin S.kp hall (thn (hk.run pos pins _ σ H1 _ (I1.tok _) q) fun ws s2 hw => ?_) hpl
  obtain ⟨vs, H2, I2, rv, q2⟩ := hw
  have ln : ws.length = ps.length := rv.length.symm.trans (F.len _ _ _ _ q2)
  refine ⟨I2.kIn, ?_⟩
  rw [hks]
  refine wpAny_call (codeAny_mono (F.run X.A X.stack s2 H2 ⟨[], ps.zip ws⟩ ws vs Q E0 hr I2.env0 (hbk s2 ws I2.kIn ln) rv q2) fun z s' hq => ?_)
  rcases z with e | fl
  · exact (show False from hq).elim
  · cases fl with
    | ret u => exact I2.after hq
    | _ => exact (show False from hq).elim
end
end Hk
namespace Hk
open PySem PySem.Spec PyProof.Rows L2
theorem ne_ok {K : Fr} {x : Str} (c : tNe x K = true) : NeOf K (He.ga K x) := by
  obtain ⟨c1, c2⟩ := He.ba c
  exact ⟨He.eqO_ok c1, of_decide_eq_true c2⟩
theorem own_ok {K : Fr} {x m : Str} (c : tMeth x m K = true) : Own K (He.ga K x) m (mAd x m K) := by
  have h := He.meth_ok c
  exact ⟨h.at_, h.fn⟩
theorem stat_ok {K : Fr} {x m : Str} (c : tStat x m K = true) : Stat K (He.ga K x) (.type "type") m (He.ma K (He.ga K x) m) (statAd x m K) := by
  obtain ⟨c1, c⟩ := He.ba c
  obtain ⟨c2, c⟩ := He.ba c
  obtain ⟨c3, c4⟩ := He.ba c
  obtain ⟨h1, h2⟩ := He5.wrapB_ok c1
  exact ⟨⟨c2, He.eqO_ok c3⟩, h1, h2, c4⟩
end Hk

/-! Operators of an own class: with its own, with an int on either side; neg, abs; += without an own one. -/
namespace Hk
open PySem PySem.Spec PyProof.Rows L2
section
variable {prog : Program} {w : World} {A : Around} {E : Value → Shared → Prop} {s : Shared} {K : Fr} {x C f g : Addr} {ox : Obj} {od : Option Obj}
/-- an int's own operator declines an instance -/
def Declines (id : String) : Prop := ∀ (prog : Program) (w : World) (A : Around) (E : Value → Shared → Prop) (s : Shared) (i : Int) (t : Tok) (x C dx : Addr) (Q : Value → Shared → Prop), s.heap.get? x = some (PySem.W.instObj C dx) → Q .notImplemented s →
  wpAny (model prog w) A (call (.builtin id) [.int i t, .ref x]) Q E s
theorem decl_add : Declines "int.__add__" := by
  intro prog w A E s i t x C dx Q ho q
  refine wpAny_call (codeAny_call_builtin F.slot_int_add.plain F.entry_int_add (F.slot_int_add.check _ _ _ _ _ _ _ _ (typeIs_int s i t) (F.args_int_add_2 _ _) ?_))
  unfold Builtin.«int.__add__» Builtin.Int.intBinary
  refine wpAny_bind (m := slotArgs "__add__" 1 _) (wpAny_pure ?_)
  refine wpAny_bind (m := Builtin.Int.intOfSelf _) (wpAny_pure ?_)
  refine wpAny_bind (m := asInt? _) (wpAny_bind (wpAny_load ho (wpAny_pure ?_)))
  refine wpAny_bind (wpAny_rule (wpAny_pure ?_))
  exact q
theorem decl_sub : Declines "int.__sub__" := by
  intro prog w A E s i t x C dx Q ho q
  refine wpAny_call (codeAny_call_builtin F.slot_int_sub.plain F.entry_int_sub (F.slot_int_sub.check _ _ _ _ _ _ _ _ (typeIs_int s i t) (F.args_int_sub_2 _ _) ?_))
  unfold Builtin.«int.__sub__» Builtin.Int.intBinary
  refine wpAny_bind (m := slotArgs "__sub__" 1 _) (wpAny_pure ?_)
  refine wpAny_bind (m := Builtin.Int.intOfSelf _) (wpAny_pure ?_)
  refine wpAny_bind (m := asInt? _) (wpAny_bind (wpAny_load ho (wpAny_pure ?_)))
  refine wpAny_bind (wpAny_rule (wpAny_pure ?_))
  exact q
theorem decl_mul : Declines "int.__mul__" := by
  intro prog w A E s i t x C dx Q ho q
  refine wpAny_call (codeAny_call_builtin F.slot_int_mul.plain F.entry_int_mul (F.slot_int_mul.check _ _ _ _ _ _ _ _ (typeIs_int s i t) (F.args_int_mul_2 _ _) ?_))
  unfold Builtin.«int.__mul__» Builtin.Int.intBinary
  refine wpAny_bind (m := slotArgs "__mul__" 1 _) (wpAny_pure ?_)
  refine wpAny_bind (m := Builtin.Int.intOfSelf _) (wpAny_pure ?_)
  refine wpAny_bind (m := asInt? _) (wpAny_bind (wpAny_load ho (wpAny_pure ?_)))
  refine wpAny_bind (wpAny_rule (wpAny_pure ?_))
  exact q
/-- int op instance: the class's reflected operator -/
theorem rbin_own {op : Operator} {id : String} {i : Int} {t : Tok} {dx : Addr} {Q : Value → Shared → Prop} (Y : K.In s.heap) (I : PySem.W.InstAt s.heap x (PySem.W.instObj C dx) C od) (hc : PySem.W.selfFirst K C = true)
    (fT : fillsNumberSlot (.type "int") op.info.2 = pure true) (slot : Slot "int" (PySem.dunder op.info.2) id) (dec : Declines id) (hs : PySem.W.findIn K (.ref C) (PySem.dunder op.info.2) = some (some (.ref f)))
    (hsub : PySem.W.subIn K (.ref C) (.type "int") = some false) (hr : PySem.W.findIn K (.ref C) (dunderR op.info.2) = some (some (.ref g))) (hg : PySem.W.isFn K (.ref g) = true)
    (h : wpAny (model prog w) A (call (.ref g) [.ref x, .int i t]) (PySem.W.CmpBack Q) E s) : wpAny (model prog w) A (binaryOp op (.int i t) (.ref x)) Q E s := by
  obtain ⟨cd, rest, hcd, hm⟩ := PySem.W.ksp_first hc
  rcases hi : op.info with ⟨sym, nm⟩
  rw [hi] at fT slot hs hr
  dsimp only at fT slot hs hr
  simp only [binaryOp, hi]
  refine wpAny_holding ?_
  simp only [binaryOp1]
  refine wpAny_bind (wpAny_bind (wpAny_typeOf (typeIs_int s i t) ?_))
  refine wpAny_bind (I.type.here (wpAny_bind (wpAny_of_eq fT ?_)))
  have hne : (Value.type "int" == Value.ref C) = false := Bool.eq_false_iff.mpr fun q => nomatch beq_iff_eq.mp q
  simp only [hne, Bool.false_eq_true, if_false]
  refine wpAny_bind ((PySem.W.fills_K Y hcd hm hs).here ?_)
  simp only [Bool.and_self, if_true]
  refine wpAny_bind ((PySem.W.looks_subIn Y hsub).here ?_)
  have hpy : numberSlotInPython (.type "int") nm = pure false := rfl
  simp only [Bool.false_eq_true, if_false, pure_bind, Bool.not_false, Bool.and_self, if_true, hpy]
  refine wpAny_bind (wpAny_tryMethod_declines (typeIs_int s i t) slot (dec _ _ _ _ _ _ _ _ _ _ _ I.at_ ⟨rfl, ?_⟩))
  refine wpAny_bind ?_
  unfold tryMethod
  refine wpAny_bind (PySem.W.special_fn Y I hr (beq_iff_eq.mp hg) (wpAny_mono h (fun v s' hv => ?_) fun _ _ e => e))
  cases v <;> first | exact hv.elim | exact wpAny_pure (wpAny_bind (wpAny_rule (wpAny_pure (wpAny_pure hv))))
/-- the class names no operator in place -/
theorem noInplace {M : Model} {h : Heap} {nm : String} {cd : ClassData} {add : Bool} (Y : K.In h) (hc : PySem.W.clsIn K C = some cd) (hm : cd.mro = [.ref C, .type "object"]) (h1 : PySem.W.findIn K (.ref C) (dunderI nm) = some none)
    (h2 : PySem.W.findIn K (.type "object") (dunderI nm) = some none) : PySem.W.Looks M h (fillsInplaceSlot (.ref C) nm add) false := by
  intro A' Q E' s' k q
  have Lm := ((PySem.W.looks_clsIn (M := M) Y hc).andThen (f := fun cd => pure cd.mro) .now).keeps k
  obtain ⟨hh, gg, d, tt, os⟩ := s'
  have Y' : K.In hh := Y.keeps k
  have L1 : PySem.W.Looks M hh (typeLookup (.ref C) (dunderI nm)) none := PySem.W.looks_findIn Y' h1
  have L2 : PySem.W.Looks M hh (typeLookup (.type "object") (dunderI nm)) none := PySem.W.looks_findIn Y' h2
  unfold fillsInplaceSlot
  refine wpAny_bind (Lm.at ?_)
  rw [hm, List.anyM_cons, List.anyM_cons, List.anyM_nil]
  refine wpAny_bind (wpAny_bind (L1.at (wpAny_pure ?_)))
  refine wpAny_bind (wpAny_bind (L2.at (wpAny_pure ?_)))
  exact wpAny_pure q
/-- what the class must have for an operator, with its own and with ints -/
structure BinF (K : Fr) (C : Addr) (nm : String) (f : Addr) : Prop where
  self : PySem.W.selfFirst K C = true
  at_ : PySem.W.findIn K (.ref C) (PySem.dunder nm) = some (some (.ref f))
  fn : PySem.W.isFn K (.ref f) = true
  rr : ∃ rc, PySem.W.findIn K (.ref C) (dunderR nm) = some rc ∧ (rc = none ∨ ∃ g : Addr, rc = some (.ref g))
  i1 : ∃ fo, PySem.W.findIn K (.type "int") (PySem.dunder nm) = some fo
  i2 : ∃ ro, PySem.W.findIn K (.type "int") (dunderR nm) = some ro
  sub : PySem.W.subIn K (.type "int") (.ref C) = some false
/-- the operator's first part: with its own, with an int -/
theorem bin1_own {nm : String} {b : Value} {Q : Value → Shared → Prop} (Y : K.In s.heap) (I : PySem.W.InstAt s.heap x ox C od) (B : BinF K C nm f) (hb : PySem.W.Looks (model prog w) s.heap (typeOf b) (.ref C))
    (h : wpAny (model prog w) A (call (.ref f) [.ref x, b]) (PySem.W.CmpBack Q) E s) : wpAny (model prog w) A (binaryOp1 nm (.ref x) b) (fun r s' => ∃ v, r = some v ∧ Q v s') E s := by
  obtain ⟨cd, rest, hcd, hm⟩ := PySem.W.ksp_first B.self
  unfold binaryOp1
  refine wpAny_bind (I.type.here (wpAny_bind (hb.here (wpAny_bind ((PySem.W.fills_K Y hcd hm B.at_).here ?_)))))
  simp only [beq_self_eq_true, if_true]
  refine wpAny_bind (wpAny_pure ?_)
  simp only [Bool.and_false, Bool.false_eq_true, if_false, Bool.false_and]
  refine wpAny_bind (wpAny_pure ?_)
  simp only [Bool.false_eq_true, if_false]
  refine wpAny_bind (wpAny_mono (PySem.W.ksp_try Y I B.at_ B.fn h) (fun r s' hr => ?_) fun _ _ e => e)
  obtain ⟨v, rfl, hq⟩ := hr
  exact wpAny_pure ⟨v, rfl, hq⟩
theorem bin1_int {nm : String} {i : Int} {t : Tok} {Q : Value → Shared → Prop} (Y : K.In s.heap) (I : PySem.W.InstAt s.heap x ox C od) (B : BinF K C nm f)
    (h : wpAny (model prog w) A (call (.ref f) [.ref x, .int i t]) (PySem.W.CmpBack Q) E s) : wpAny (model prog w) A (binaryOp1 nm (.ref x) (.int i t)) (fun r s' => ∃ v, r = some v ∧ Q v s') E s := by
  obtain ⟨cd, rest, hcd, hm⟩ := PySem.W.ksp_first B.self
  have one := PySem.W.ksp_try Y I B.at_ B.fn h
  obtain ⟨rc, hr, hp⟩ := B.rr
  obtain ⟨fo, h1⟩ := B.i1
  obtain ⟨ro, h2⟩ := B.i2
  obtain ⟨hh, gg, d, tt, os⟩ := s
  have L1 : PySem.W.Looks (model prog w) hh (typeOf (.ref x)) (.ref C) := I.type
  have L2 : PySem.W.Looks (model prog w) hh (typeOf (.int i t)) (.type "int") := PySem.W.Looks.of_pure rfl
  have L3 : PySem.W.Looks (model prog w) hh (fillsNumberSlot (.ref C) nm) true := PySem.W.fills_K Y hcd hm B.at_
  have L4 : PySem.W.Looks (model prog w) hh (fillsNumberSlot (.type "int") nm) ((fo.isSome && !isSeqSlot fo) || (ro.isSome && !isSeqSlot ro)) := PySem.W.ksp_fillsT Y h1 h2
  have L5 : PySem.W.Looks (model prog w) hh (isSubtype (.type "int") (.ref C)) false := PySem.W.looks_subIn Y B.sub
  have L6 : PySem.W.Looks (model prog w) hh (numberSlotInPython (.ref C) nm) true := PySem.W.ksp_inPy Y B.at_ hr hp
  have L7 : PySem.W.Looks (model prog w) hh (numberSlotInPython (.type "int") nm) false := PySem.W.Looks.of_pure rfl
  have L8 : PySem.W.Looks (model prog w) hh (typeLookup (.type "int") (dunderR nm)) ro := PySem.W.looks_findIn Y h2
  generalize ((fo.isSome && !isSeqSlot fo) || (ro.isSome && !isSeqSlot ro)) = right at L4
  have hne : (Value.ref C == Value.type "int") = false := Bool.eq_false_iff.mpr fun q => nomatch beq_iff_eq.mp q
  unfold binaryOp1
  refine wpAny_bind (L1.at (wpAny_bind (L2.at (wpAny_bind (L3.at ?_)))))
  simp only [hne, Bool.false_eq_true, if_false]
  cases right with
  | false =>
    ksp_lk
    refine wpAny_mono one (fun r s' hr' => ?_) fun _ _ e => e
    obtain ⟨v, rfl, hq⟩ := hr'
    ksp_lk
    exact ⟨v, rfl, hq⟩
  | true =>
    ksp_lk
    refine wpAny_mono one (fun r s' hr' => ?_) fun _ _ e => e
    obtain ⟨v, rfl, hq⟩ := hr'
    ksp_lk
    exact ⟨v, rfl, hq⟩
theorem bin_of1 {op : Operator} {a b : Value} {Q : Value → Shared → Prop} (h : wpAny (model prog w) A (binaryOp1 op.info.2 a b) (fun r s' => ∃ v, r = some v ∧ Q v s') E s) : wpAny (model prog w) A (binaryOp op a b) Q E s := by
  rcases hi : op.info with ⟨sym, nm⟩
  rw [hi] at h
  simp only [binaryOp, hi]
  refine wpAny_holding (wpAny_bind (wpAny_mono h (fun r s' hr => ?_) fun _ _ e => e))
  obtain ⟨v, rfl, hq⟩ := hr
  exact wpAny_pure hq
/-- op= by the plain operator -/
theorem ip_of1 {op : Operator} {cd : ClassData} {b : Value} {Q : Value → Shared → Prop} (Y : K.In s.heap) (I : PySem.W.InstAt s.heap x ox C od) (hc : PySem.W.clsIn K C = some cd) (hm : cd.mro = [.ref C, .type "object"])
    (h1 : PySem.W.findIn K (.ref C) (dunderI op.info.2) = some none) (h2 : PySem.W.findIn K (.type "object") (dunderI op.info.2) = some none)
    (h : wpAny (model prog w) A (binaryOp1 op.info.2 (.ref x) b) (fun r s' => ∃ v, r = some v ∧ Q v s') E s) : wpAny (model prog w) A (inplaceOp op (.ref x) b) Q E s := by
  unfold inplaceOp
  refine wpAny_holding (wpAny_bind (I.type.here (wpAny_bind ((noInplace Y hc hm h1 h2).here ?_))))
  simp only [Bool.false_eq_true, if_false]
  refine wpAny_bind (wpAny_mono h (fun r s' hr => ?_) fun _ _ e => e)
  obtain ⟨v, rfl, hq⟩ := hr
  exact wpAny_pure hq
end
end Hk
namespace Hk
open PySem PySem.Spec PyProof.Rows L2
theorem backC {Q : Value → Shared → Prop} {z : V} {u : Value} {s' : Shared} (r : RelV z u) (h : Q u s') : PySem.W.CmpBack Q u s' := by
  cases z with
  | non => cases r; exact h
  | bl b => cases r; exact h
  | int i => obtain ⟨t, rfl⟩ := r; exact h
  | str y => obtain ⟨t, rfl⟩ := r; exact h
  | byt y => obtain ⟨t, rfl⟩ := r; exact h
  | flt y => obtain ⟨t, rfl⟩ := r; exact h
  | ref a => cases r; exact h
  | ty n => cases r; exact h
/-- x op y: x of the class at C, y another or an int: the def's promise -/
def rBinO (C : Addr) (sp : Sp) : R2 := fun x y H Q => ∃ a dx fs, x = .ref a ∧ H a = some (.ins C dx fs) ∧ ((∃ i, y = .int i) ∨ ∃ b dy gs, y = .ref b ∧ H b = some (.ins C dy gs)) ∧ sp [x, y] H Q E0
/-- i op y, i an int -/
def rRbinO (C : Addr) (sp : Sp) : R2 := fun x y H Q => ∃ i b dy gs, x = .int i ∧ y = .ref b ∧ H b = some (.ins C dy gs) ∧ sp [y, x] H Q E0
def rUnO (C : Addr) (sp : Sp) : V → Hp → VK → Prop := fun x H Q => ∃ a dx fs, x = .ref a ∧ H a = some (.ins C dx fs) ∧ sp [x] H Q E0
/-- the class's mro is itself and object, it names no op= -/
structure NoIp (K : Fr) (C : Addr) (nm : String) : Prop where
  mro : ∃ cd, PySem.W.clsIn K C = some cd ∧ cd.mro = [.ref C, .type "object"]
  no : PySem.W.findIn K (.ref C) (dunderI nm) = some none
  noO : PySem.W.findIn K (.type "object") (dunderI nm) = some none
/-- the reflected one -/
structure RbinF (K : Fr) (C : Addr) (nm : String) (g : Addr) : Prop where
  at_ : PySem.W.findIn K (.ref C) (dunderR nm) = some (some (.ref g))
  fn : PySem.W.isFn K (.ref g) = true
  sub : PySem.W.subIn K (.ref C) (.type "int") = some false
section
variable {X : Cx} {k : Nat} {C f g : Addr} {fd : FuncData} {ps : List Str} {sp : Sp} {op : Operator}
theorem bin1_run {pins : List (Addr × Obj)} {s : Shared} {σ : L2.St} {H : Hp} {x y : V} {v u : Value} {Q : VK} (B : BinF X.K C op.info.2 f) (F : FnOk X.prog X.w X.K X.mg X.base CX0 k f fd ps sp) (hb : Binds X.K fd ps []) (hr : Room k X.A)
    (I : Inv X pins σ H s) (rx : RelV x v) (ry : RelV y u) (h : rBinO C sp x y H Q) :
    wpAny (model X.prog X.w) X.A (binaryOp1 op.info.2 v u) (fun r s' => ∃ w, r = some w ∧ EP X pins σ Q w s') X.xe s := by
  obtain ⟨a, dx, fs, rfl, ha, hy, q⟩ := h
  cases (show v = Value.ref a from rx)
  obtain ⟨mA, M, _⟩ := ins_get I.hok ha
  obtain ⟨od, J, _⟩ := M.look
  have run : wpAny (model X.prog X.w) X.A (call (.ref f) [.ref a, u]) (PySem.W.CmpBack (EP X pins σ Q)) X.xe s :=
    wpAny_mono (own_run (vs := [.ref a, y]) F hr I.env0 hb I (.cons rfl (.cons ry .nil)) q) (fun w s' z => by
      obtain ⟨z', H', I', rz, qz⟩ := id z
      exact backC rz z) fun _ _ z => z
  rcases hy with ⟨i, rfl⟩ | ⟨b, dy, gs, rfl, hb2⟩
  · obtain ⟨t, rfl⟩ := (show ∃ t, u = Value.int i t from ry)
    exact bin1_int I.kIn J B run
  · exact bin1_own I.kIn J B (TyL.looks I ry (.ins hb2)) run
theorem op_binO (B : BinF X.K C op.info.2 f) (F : FnOk X.prog X.w X.K X.mg X.base CX0 k f fd ps sp) (hb : Binds X.K fd ps []) (hr : Room k X.A) : OpR X (binaryOp op) (rBinO C sp) :=
  fun pins s σ H x y v u Q I rx ry h => bin_of1 (bin1_run B F hb hr I rx ry h)
theorem ip_binO (B : BinF X.K C op.info.2 f) (N : NoIp X.K C op.info.2) (F : FnOk X.prog X.w X.K X.mg X.base CX0 k f fd ps sp) (hb : Binds X.K fd ps []) (hr : Room k X.A) : PIp X op (rBinO C sp) := by
  intro pins s σ H x y v u Q I rx ry h
  obtain ⟨a, dx, fs, ex, ha, _⟩ := id h
  subst ex
  obtain ⟨mA, M, _⟩ := ins_get I.hok ha
  obtain ⟨od, J, _⟩ := M.look
  obtain ⟨cd, m1, m2⟩ := N.mro
  have e : v = Value.ref a := rx
  subst e
  exact ip_of1 I.kIn J m1 m2 N.no N.noO (bin1_run B F hb hr I rx ry h)
theorem op_rbinO {bi : String} (B : BinF X.K C op.info.2 f) (R : RbinF X.K C op.info.2 g) (fT : fillsNumberSlot (.type "int") op.info.2 = pure true) (slot : Slot "int" (PySem.dunder op.info.2) bi) (dec : Declines bi)
    (F : FnOk X.prog X.w X.K X.mg X.base CX0 k g fd ps sp) (hb : Binds X.K fd ps []) (hr : Room k X.A) : OpR X (binaryOp op) (rRbinO C sp) := by
  intro pins s σ H x y v u Q I rx ry h
  obtain ⟨i, b, dy, gs, rfl, rfl, ha, q⟩ := h
  obtain ⟨t, rfl⟩ := (show ∃ t, v = Value.int i t from rx)
  cases (show u = Value.ref b from ry)
  obtain ⟨mA, M, _⟩ := ins_get I.hok ha
  obtain ⟨od, J, _⟩ := M.look
  exact rbin_own I.kIn J B.self fT slot dec B.at_ R.sub R.at_ R.fn (wpAny_mono (own_run (vs := [.ref b, .int i]) F hr I.env0 hb I (.cons rfl (.cons rx .nil)) q) (fun w s' z => by
      obtain ⟨z', H', I', rz, qz⟩ := id z
      exact backC rz z) fun _ _ z => z)
theorem op_negO (O : Own X.K C "__neg__" f) (F : FnOk X.prog X.w X.K X.mg X.base CX0 k f fd ps sp) (hb : Binds X.K fd ps []) (hr : Room k X.A) : UnR X (unaryOp .USub) (rUnO C sp) := by
  intro pins s σ H x v Q I rx h
  obtain ⟨a, dx, fs, rfl, ha, q⟩ := h
  cases (show v = Value.ref a from rx)
  obtain ⟨mA, M, _⟩ := ins_get I.hok ha
  obtain ⟨od, J, _⟩ := M.look
  obtain ⟨m, hF⟩ := I.fr
  exact PySem.W.ksp_neg hF I.ok.mod.kin J O.at_ O.fn (own_run (vs := [.ref a]) F hr I.env0 hb I (.cons rfl .nil) q)
theorem call_absO (O : Own X.K C "__abs__" f) (F : FnOk X.prog X.w X.K X.mg X.base CX0 k f fd ps sp) (hb : Binds X.K fd ps []) (hr : Room (k + 1) X.A) : CallR X (.builtin "abs") (fun xs H Q => ∃ x, xs = [x] ∧ rUnO C sp x H Q) := by
  intro pins s σ H xs us Q I r h
  obtain ⟨x, rfl, a, dx, fs, rfl, ha, q⟩ := h
  obtain ⟨u, rfl, ru⟩ := r.one
  cases (show u = Value.ref a from ru)
  obtain ⟨mA, M, _⟩ := ins_get I.hok ha
  obtain ⟨od, J, _⟩ := M.look
  have r2 : Room k X.A.in1 := Room.in1 hr
  refine Calls.call_function_entry kind_abs plain_abs entry_abs (args_abs _) ?_
  unfold Builtin.«abs»
  refine wpAny_bind (m := oneArg "abs" _) (wpAny_pure ?_)
  refine wpAny_bind (m := callSpecial? (.ref a) (Str.ofString "__abs__")) (PySem.W.special_fn I.kIn J O.at_ (beq_iff_eq.mp O.fn) (wpAny_mono (own_run (vs := [.ref a]) F r2 I.env0.in1 hb I (.cons rfl .nil) q) (fun v s' z => ?_) fun _ _ z => z))
  exact wpAny_pure ⟨_, rfl, z⟩
end
/-! ### their facts -/
def tBin (x : Str) (nm : String) : Tst := fun K => PySem.W.selfFirst K (He.ga K x) && (tMeth x (PySem.dunder nm) K && ((match PySem.W.findIn K (.ref (He.ga K x)) (dunderR nm) with
    | some none => true
    | some (some (.ref _)) => true
    | _ => false) && ((PySem.W.findIn K (.type "int") (PySem.dunder nm)).isSome && ((PySem.W.findIn K (.type "int") (dunderR nm)).isSome && decide (PySem.W.subIn K (.type "int") (.ref (He.ga K x)) = some false)))))
def tRbin (x : Str) (nm : String) : Tst := fun K => tMeth x (dunderR nm) K && decide (PySem.W.subIn K (.ref (He.ga K x)) (.type "int") = some false)
def tNoIp (x : Str) (nm : String) : Tst := fun K => (match PySem.W.clsIn K (He.ga K x) with
    | some cd => decide (cd.mro = [.ref (He.ga K x), .type "object"])
    | none => false) && (He.eqO (PySem.W.findIn K (.ref (He.ga K x)) (dunderI nm)) (some none) && He.eqO (PySem.W.findIn K (.type "object") (dunderI nm)) (some none))
theorem bin_ok {K : Fr} {x : Str} {nm : String} (c : tBin x nm K = true) : BinF K (He.ga K x) nm (mAd x (PySem.dunder nm) K) := by
  obtain ⟨c1, c⟩ := He.ba c
  obtain ⟨c2, c⟩ := He.ba c
  obtain ⟨c3, c⟩ := He.ba c
  obtain ⟨c4, c⟩ := He.ba c
  obtain ⟨c5, c6⟩ := He.ba c
  have m := He.meth_ok c2
  refine ⟨c1, m.at_, m.fn, ?_, Option.isSome_iff_exists.mp c4, Option.isSome_iff_exists.mp c5, of_decide_eq_true c6⟩
  cases e : PySem.W.findIn K (.ref (He.ga K x)) (dunderR nm) with
  | none =>
    rw [e] at c3
    exact nomatch c3
  | some o =>
    rw [e] at c3
    cases o with
    | none => exact ⟨none, rfl, .inl rfl⟩
    | some v =>
      cases v with
      | ref g => exact ⟨_, rfl, .inr ⟨g, rfl⟩⟩
      | _ => exact nomatch c3
theorem rbin_ok {K : Fr} {x : Str} {nm : String} (c : tRbin x nm K = true) : RbinF K (He.ga K x) nm (mAd x (dunderR nm) K) := by
  obtain ⟨c1, c2⟩ := He.ba c
  have m := He.meth_ok c1
  exact ⟨m.at_, m.fn, of_decide_eq_true c2⟩
theorem noip_ok {K : Fr} {x : Str} {nm : String} (c : tNoIp x nm K = true) : NoIp K (He.ga K x) nm := by
  obtain ⟨c1, c⟩ := He.ba c
  obtain ⟨c2, c3⟩ := He.ba c
  refine ⟨?_, He.eqO_ok c2, He.eqO_ok c3⟩
  cases e : PySem.W.clsIn K (He.ga K x) with
  | none =>
    rw [e] at c1
    exact nomatch c1
  | some cd =>
    rw [e] at c1
    exact ⟨cd, rfl, of_decide_eq_true c1⟩
end Hk

/-! Fractions in lowest terms, over Int. -/
namespace NumM
def sg (b : Int) : Int := if b < 0 then -1 else 1
def gd (h b : Int) : Int := ((Nat.gcd h.natAbs b.natAbs : Nat) : Int)
def lowT (h b : Int) : Int := sg b * h / gd h b
def lowB (h b : Int) : Int := sg b * b / gd h b
theorem gd_pos {h b : Int} (hb : b ≠ 0) : 0 < gd h b := by
  have : 0 < Nat.gcd h.natAbs b.natAbs := Nat.gcd_pos_of_pos_right _ (by omega)
  unfold gd; omega
theorem gd_dvd_l (h b : Int) : gd h b ∣ h := by
  unfold gd
  exact Int.ofNat_dvd_left.mpr (Nat.gcd_dvd_left _ _)
theorem gd_dvd_r (h b : Int) : gd h b ∣ b := by
  unfold gd
  exact Int.ofNat_dvd_left.mpr (Nat.gcd_dvd_right _ _)
theorem gd_le {h b : Int} (hb : b ≠ 0) : (gd h b).natAbs ≤ b.natAbs := by
  have := Nat.gcd_le_right h.natAbs (show 0 < b.natAbs by omega)
  unfold gd; omega
theorem sg_sq (b : Int) : sg b * sg b = 1 := by unfold sg; split <;> rfl
theorem sg_mul {b : Int} (hb : b ≠ 0) : 0 < sg b * b := by unfold sg; split <;> omega
theorem natAbs_sg (b x : Int) : (sg b * x).natAbs = x.natAbs := by unfold sg; split <;> simp
theorem lowT_mul {h b : Int} : lowT h b * gd h b = sg b * h := by
  unfold lowT
  exact Int.ediv_mul_cancel (Int.dvd_mul_of_dvd_right (gd_dvd_l h b))
theorem lowB_mul {h b : Int} : lowB h b * gd h b = sg b * b := by
  unfold lowB
  exact Int.ediv_mul_cancel (Int.dvd_mul_of_dvd_right (gd_dvd_r h b))
theorem low_pos {h b : Int} (hb : b ≠ 0) : 0 < lowB h b := by
  have h1 := gd_pos (h := h) hb
  have h2 := sg_mul hb
  rw [← lowB_mul (h := h)] at h2
  exact Int.pos_of_mul_pos_left h2 (by omega)
theorem low_cop {h b : Int} (hb : b ≠ 0) : Nat.gcd (lowT h b).natAbs (lowB h b).natAbs = 1 := by
  have hp := gd_pos (h := h) hb
  have e1 : (lowT h b).natAbs * (gd h b).natAbs = h.natAbs := by rw [← Int.natAbs_mul, lowT_mul, natAbs_sg]
  have e2 : (lowB h b).natAbs * (gd h b).natAbs = b.natAbs := by rw [← Int.natAbs_mul, lowB_mul, natAbs_sg]
  have g : Nat.gcd ((lowT h b).natAbs * (gd h b).natAbs) ((lowB h b).natAbs * (gd h b).natAbs) = (gd h b).natAbs := by
    rw [e1, e2]; unfold gd; simp
  rw [Nat.gcd_mul_right] at g
  have hp' : 0 < (gd h b).natAbs := by omega
  exact Nat.eq_of_mul_eq_mul_right hp' (by rw [g, Nat.one_mul])
theorem low_eq {h b : Int} (hb : b ≠ 0) : lowT h b * b = h * lowB h b := by
  have hp := gd_pos (h := h) hb
  have e1 := lowT_mul (h := h) (b := b)
  have e2 := lowB_mul (h := h) (b := b)
  have : (lowT h b * b) * gd h b = (h * lowB h b) * gd h b := by
    calc (lowT h b * b) * gd h b = (lowT h b * gd h b) * b := by rw [Int.mul_right_comm]
      _ = (sg b * h) * b := by rw [e1]
      _ = h * (sg b * b) := by rw [Int.mul_comm (sg b) h, Int.mul_assoc]
      _ = h * (lowB h b * gd h b) := by rw [e2]
      _ = (h * lowB h b) * gd h b := by rw [Int.mul_assoc]
  exact Int.eq_of_mul_eq_mul_right (by omega) this
theorem uniq {t b u c : Int} (hb : 0 < b) (hc : 0 < c) (h1 : Nat.gcd t.natAbs b.natAbs = 1) (h2 : Nat.gcd u.natAbs c.natAbs = 1) (e : t * c = u * b) : t = u ∧ b = c := by
  have en : t.natAbs * c.natAbs = u.natAbs * b.natAbs := by rw [← Int.natAbs_mul, ← Int.natAbs_mul, e]
  have d1 : b.natAbs ∣ c.natAbs := by
    have : b.natAbs ∣ t.natAbs * c.natAbs := ⟨u.natAbs, by rw [en, Nat.mul_comm]⟩
    exact Nat.Coprime.dvd_of_dvd_mul_left (show Nat.Coprime b.natAbs t.natAbs by unfold Nat.Coprime; rw [Nat.gcd_comm]; exact h1) this
  have d2 : c.natAbs ∣ b.natAbs := by
    have : c.natAbs ∣ u.natAbs * b.natAbs := ⟨t.natAbs, by rw [← en, Nat.mul_comm]⟩
    exact Nat.Coprime.dvd_of_dvd_mul_left (show Nat.Coprime c.natAbs u.natAbs by unfold Nat.Coprime; rw [Nat.gcd_comm]; exact h2) this
  have ebc : b.natAbs = c.natAbs := Nat.dvd_antisymm d1 d2
  have bc : b = c := by omega
  subst bc
  exact ⟨Int.eq_of_mul_eq_mul_right (by omega) e, rfl⟩
theorem low_of {h b t c : Int} (hb : b ≠ 0) (hc : 0 < c) (h1 : Nat.gcd t.natAbs c.natAbs = 1) (e : t * b = h * c) : lowT h b = t ∧ lowB h b = c := by
  have l := low_eq (h := h) hb
  refine uniq (low_pos hb) hc (low_cop hb) h1 ?_
  have : (lowT h b * c) * b = (t * lowB h b) * b := by
    calc (lowT h b * c) * b = (lowT h b * b) * c := by rw [Int.mul_right_comm]
      _ = h * lowB h b * c := by rw [l]
      _ = (h * c) * lowB h b := by rw [Int.mul_right_comm]
      _ = (t * b) * lowB h b := by rw [e]
      _ = (t * lowB h b) * b := by rw [Int.mul_right_comm]
  exact Int.eq_of_mul_eq_mul_right hb this
theorem low_red {t b : Int} (hb : 0 < b) (h1 : Nat.gcd t.natAbs b.natAbs = 1) : lowT t b = t ∧ lowB t b = b := low_of (by omega) hb h1 rfl
theorem low_mul {h b m : Int} (hb : b ≠ 0) (hm : m ≠ 0) : lowT (h * m) (b * m) = lowT h b ∧ lowB (h * m) (b * m) = lowB h b := by
  refine low_of (Int.mul_ne_zero hb hm) (low_pos hb) (low_cop hb) ?_
  rw [← Int.mul_assoc, low_eq hb, Int.mul_right_comm]
theorem natAbs_le_of_mul {x g y : Int} (hg : 0 < g) (e : x * g = y) : x.natAbs ≤ y.natAbs := by
  rw [← e, Int.natAbs_mul]
  exact Nat.le_mul_of_pos_right _ (by omega)
theorem lowT_le {h b : Int} (hb : b ≠ 0) : (lowT h b).natAbs ≤ h.natAbs := by
  have := natAbs_le_of_mul (gd_pos (h := h) hb) (lowT_mul (h := h) (b := b))
  rwa [natAbs_sg] at this
theorem lowB_le {h b : Int} (hb : b ≠ 0) : (lowB h b).natAbs ≤ b.natAbs := by
  have := natAbs_le_of_mul (gd_pos (h := h) hb) (lowB_mul (h := h) (b := b))
  rwa [natAbs_sg] at this
/-- what __init__ divides by -/
def shr (h b : Int) : Int := if b < 0 then -(gd h b) else gd h b
theorem shr_eq (h b : Int) : shr h b = sg b * gd h b := by unfold shr sg; split <;> simp
theorem fdiv_of {x y z : Int} (hy : y ≠ 0) (e : x = z * y) : x.fdiv y = z := by
  rw [e]
  exact Int.mul_fdiv_cancel _ hy
theorem init_top {h b : Int} (hb : b ≠ 0) : h.fdiv (shr h b) = lowT h b := by
  have hp := gd_pos (h := h) hb
  refine fdiv_of (by rw [shr_eq]; unfold sg; split <;> omega) ?_
  rw [shr_eq, Int.mul_comm (sg b), ← Int.mul_assoc, lowT_mul, Int.mul_right_comm, sg_sq, Int.one_mul]
theorem init_bot {h b : Int} (hb : b ≠ 0) : b.fdiv (shr h b) = lowB h b := by
  have hp := gd_pos (h := h) hb
  refine fdiv_of (by rw [shr_eq]; unfold sg; split <;> omega) ?_
  rw [shr_eq, Int.mul_comm (sg b), ← Int.mul_assoc, lowB_mul, Int.mul_right_comm, sg_sq, Int.one_mul]
theorem shr_ne {h b : Int} (hb : b ≠ 0) : shr h b ≠ 0 := by
  have hp := gd_pos (h := h) hb
  rw [shr_eq]; unfold sg; split <;> omega
theorem shr_le {h b : Int} (hb : b ≠ 0) : (shr h b).natAbs ≤ b.natAbs := by
  rw [shr_eq, natAbs_sg]; exact gd_le hb
end NumM

/-! The texts of ints and fractions, as lists of codes. -/
namespace NumT
open PySem PySem.Spec PyProof.Rows L2 SX
open TL (numL)
def iL (z : Int) : List Nat := if z < 0 then 45 :: numL z.natAbs else numL z.natAbs
theorem toS (z : Int) : ((toString z : String) : Str) = S (iL z) := by
  unfold iL
  by_cases h : z < 0
  · rw [if_pos h]
    obtain ⟨n, rfl⟩ : ∃ n : Nat, z = -((n : Nat) : Int) := ⟨z.natAbs, by omega⟩
    have hn : 0 < n := by omega
    obtain ⟨m, rfl⟩ : ∃ m, n = m + 1 := ⟨n - 1, by omega⟩
    have e : (toString (-(((m + 1 : Nat)) : Int)) : String) = "-" ++ toString (((m + 1 : Nat) : Nat) : Int) := rfl
    have e2 : ((-(((m + 1 : Nat)) : Int)).natAbs) = m + 1 := by omega
    rw [e2]
    show Str.ofString (toString (-(((m + 1 : Nat)) : Int))) = _
    rw [e]
    have e3 := TL.tl_num (m + 1)
    refine TL.ext_tl ?_
    show (Str.ofString ("-" ++ toString (((m + 1 : Nat)) : Int))).cps.toList = _
    have e4 : (Str.ofString ("-" ++ toString (((m + 1 : Nat)) : Int))).cps.toList = 45 :: (Str.ofString (toString (((m + 1 : Nat)) : Int))).cps.toList := by
      simp [Str.ofString]
      rfl
    rw [e4]
    exact congrArg (45 :: ·) e3
  · rw [if_neg h]
    obtain ⟨n, rfl⟩ : ∃ n : Nat, z = ((n : Nat) : Int) := ⟨z.natAbs, by omega⟩
    exact num_S n
theorem iL_free {z : Int} : 47 ∉ iL z := by
  unfold iL
  split
  · intro h
    rcases List.mem_cons.mp h with h | h
    · cases h
    · exact TL.numL_free (by decide) h
  · exact TL.numL_free (by decide)
theorem numL_all (n : Nat) : NumText.AllDigits (numL n) := TL.numL_digits n
theorem pre_one {c d : Nat} {r : List Nat} : TL.pre [c] (d :: r) = decide (c = d) := by
  by_cases h : c = d
  · rw [decide_eq_true h]
    subst h
    simp [TL.pre]
  · rw [decide_eq_false h]
    have h2 : ¬ d = c := fun e => h e.symm
    simp [TL.pre, h, h2]
theorem par_none (c : Nat) : ∀ (a acc : List Nat), c ∉ a → TL.par [c] acc a = none
  | [], _, _ => rfl
  | d :: r, acc, h => by
    have hd : ¬ c = d := fun e => h (by rw [e]; exact List.mem_cons_self)
    show (if TL.pre [c] (d :: r) = true then _ else _) = _
    rw [pre_one, decide_eq_false hd, if_neg Bool.false_ne_true]
    exact par_none c r _ fun z => h (List.mem_cons_of_mem _ z)
theorem par_some (c : Nat) (q : List Nat) : ∀ (a acc : List Nat), c ∉ a → TL.par [c] acc (a ++ c :: q) = some (acc ++ a, q)
  | [], acc, _ => by
    show (if TL.pre [c] (c :: q) = true then _ else _) = _
    rw [pre_one, decide_eq_true rfl, if_pos rfl]
    simp
  | d :: r, acc, h => by
    have hd : ¬ c = d := fun e => h (by rw [e]; exact List.mem_cons_self)
    rw [List.cons_append]
    show (if TL.pre [c] (d :: (r ++ c :: q)) = true then _ else TL.par [c] (acc ++ [d]) (r ++ c :: q)) = _
    rw [pre_one, decide_eq_false hd, if_neg Bool.false_ne_true, par_some c q r _ fun z => h (List.mem_cons_of_mem _ z)]
    simp
theorem part_none {a : List Nat} (h : 47 ∉ a) : Txt.partition (S a) (S [47]) = (S a, S [], S []) := partition_none (by simp) (par_none 47 a [] h)
theorem part_some {a q : List Nat} (h : 47 ∉ a) : Txt.partition (S (a ++ 47 :: q)) (S [47]) = (S a, S [47], S q) := partition_some (by simp) (par_some 47 q a [] h)
theorem slash_S : ("/" : Str) = S [47] := by decide +kernel
theorem minus_S : ("-" : Str) = S [45] := by decide +kernel
/-- digits, and at least one -/
def dig (a : List Nat) : Bool := !a.isEmpty && a.all (fun c => decide (48 ≤ c) && decide (c ≤ 57))
theorem ascii_S (a : List Nat) : Txt.isascii (S a) = a.all (fun c => decide (c < 128)) := by
  show (S a).cps.all (· < 128) = _
  rw [← Array.all_toList]
theorem digit_S {a : List Nat} (h : a.all (fun c => decide (c < 128)) = true) : Txt.isdigit (S a) = dig a := by
  have e : Txt.isdigit (S a) = (decide ((S a).length > 0) && (S a).cps.all Unicode.isDigit) := rfl
  rw [e, ← Array.all_toList, S_len]
  show (decide (a.length > 0) && a.all Unicode.isDigit) = _
  unfold dig
  have e1 : decide (a.length > 0) = !a.isEmpty := by cases a <;> simp
  rw [e1]
  congr 1
  have hall : ∀ c ∈ a, c < 128 := fun c hc => of_decide_eq_true (List.all_eq_true.mp h c hc)
  clear h e e1
  induction a with
  | nil => rfl
  | cons c r ih =>
    have k : ∀ n : _root_.Fin 128, Unicode.isDigit n.val = (decide (48 ≤ n.val) && decide (n.val ≤ 57)) := by decide +kernel
    rw [List.all_cons, List.all_cons, ih fun d hd => hall d (List.mem_cons_of_mem _ hd), k ⟨c, hall c List.mem_cons_self⟩]
/-- isascii and isdigit together -/
theorem both_S (a : List Nat) : (Txt.isascii (S a) && Txt.isdigit (S a)) = dig a := by
  rw [ascii_S]
  cases h : a.all (fun c => decide (c < 128)) with
  | true => rw [Bool.true_and]; exact digit_S h
  | false =>
    rw [Bool.false_and]
    cases q : dig a with
    | false => rfl
    | true =>
      unfold dig at q
      have q2 := (Bool.and_eq_true_iff.mp q).2
      have : a.all (fun c => decide (c < 128)) = true := List.all_eq_true.mpr fun c hc => by
        have z := List.all_eq_true.mp q2 c hc
        rw [Bool.and_eq_true, decide_eq_true_eq, decide_eq_true_eq] at z
        exact decide_eq_true (by omega)
      rw [this] at h
      exact nomatch h
theorem dig_num (n : Nat) : dig (numL n) = true := by
  unfold dig
  have h1 := TL.numL_ne n
  have h2 := numL_all n
  rw [Bool.and_eq_true]
  refine ⟨by cases e : numL n with
    | nil => exact absurd e h1
    | cons => rfl, List.all_eq_true.mpr fun c hc => ?_⟩
  have := h2 c hc
  rw [Bool.and_eq_true, decide_eq_true_eq, decide_eq_true_eq]
  exact this
theorem dig_all {a : List Nat} (h : dig a = true) : NumText.AllDigits a ∧ a ≠ [] := by
  unfold dig at h
  obtain ⟨h1, h2⟩ := Bool.and_eq_true_iff.mp h
  refine ⟨fun c hc => ?_, by rintro rfl; exact nomatch h1⟩
  have z := List.all_eq_true.mp h2 c hc
  rw [Bool.and_eq_true, decide_eq_true_eq, decide_eq_true_eq] at z
  exact z
/-- removeprefix('-') -/
def unsig : List Nat → List Nat
  | 45 :: r => r
  | a => a
theorem rmp_S (a : List Nat) (ha : a ≠ [45]) : Txt.removeprefix (S a) (S [45]) = S (unsig a) := by
  rw [StrLaws.removeprefix_eq]
  have e : ∀ l : List Nat, Builtin.Str.subAt (S l) (S [45]) 0 = (match l with
    | c :: _ => decide (45 = c)
    | [] => false) := fun l => by
    rw [StrLaws.subAt_eq]
    cases l with
    | nil => decide +kernel
    | cons c r =>
      show (((c :: r).drop 0).take 1 == [45]) = _
      simp [eq_comm]
      try rfl
  cases a with
  | nil => decide +kernel
  | cons c r =>
    rw [e (c :: r)]
    have hl : decide (0 + (S [45]).length ≤ (S (c :: r)).length) = true := by
      rw [S_len, S_len]
      simp
    rw [hl, Bool.true_and]
    by_cases h : 45 = c
    · subst h
      show (if decide ((45 : Nat) = 45) = true then _ else _) = _
      rw [if_pos (by decide)]
      refine TL.ext_tl ?_
      show (((45 :: r).drop (S [45]).length).take ((S (45 :: r)).length - (S [45]).length)) = r
      rw [S_len, S_len]
      simp
    · have hu : unsig (c :: r) = c :: r := by
        unfold unsig
        split
        · rename_i z
          have := (List.cons.inj z).1
          exact absurd this.symm h
        · rfl
      show (if decide (45 = c) = true then _ else _) = _
      rw [decide_eq_false h, if_neg Bool.false_ne_true, hu]
theorem unsig_i (z : Int) : unsig (iL z) = numL z.natAbs := by
  unfold iL
  split
  · rfl
  · have h := numL_all z.natAbs
    cases e : numL z.natAbs with
    | nil => rfl
    | cons c r =>
      have := h c (by rw [e]; exact List.mem_cons_self)
      unfold unsig
      split
      · rename_i z
        have := (List.cons.inj z).1
        omega
      · rfl
theorem iL_ne45 (z : Int) : iL z ≠ [45] := fun h => by
  have e := unsig_i z
  rw [h] at e
  exact TL.numL_ne _ e.symm
theorem num_len {n : Nat} (h : n < 2 ^ 1000) : (numL n).length ≤ 302 := TL.numL_len (by decide) (Nat.lt_of_lt_of_le h (by decide +kernel))
theorem i_len {z : Int} (h : z.natAbs < 2 ^ 1000) : (iL z).length ≤ 303 := by
  unfold iL
  have := num_len h
  split
  · rw [List.length_cons]; omega
  · omega
theorem int_i {z : Int} (h : z.natAbs < 2 ^ 1000) : intText? (S (iL z)) = some z := by
  have hl := num_len h
  unfold iL
  split
  · rename_i hz
    have e := PySem.intText_neg (x := S (45 :: numL z.natAbs)) (cs := numL z.natAbs) rfl (numL_all _) (TL.numL_ne _) (by rw [S_len, List.length_cons]; omega)
    rw [TL.numL_val] at e
    rw [e]
    congr 1
    omega
  · rename_i hz
    have e := PySem.intText_digits (x := S (numL z.natAbs)) (numL_all _) (TL.numL_ne _) (by rw [S_len]; omega)
    have e2 : (S (numL z.natAbs)).cps.toList = numL z.natAbs := rfl
    rw [e2, TL.numL_val] at e
    rw [e]
    congr 1
    omega
/-- the text of a fraction -/
def fL (t b : Int) : List Nat := if b = 1 then iL t else iL t ++ 47 :: iL b
theorem iL_inj {x y : Int} (h : iL x = iL y) : x = y := by
  have hu := congrArg unsig h
  rw [unsig_i, unsig_i] at hu
  have e := TL.numL_inj hu
  by_cases hx : x < 0 <;> by_cases hy : y < 0
  · omega
  · exfalso
    unfold iL at h
    rw [if_pos hx, if_neg hy] at h
    have := numL_all y.natAbs 45 (by rw [← h]; exact List.mem_cons_self)
    omega
  · exfalso
    unfold iL at h
    rw [if_neg hx, if_pos hy] at h
    have := numL_all x.natAbs 45 (by rw [h]; exact List.mem_cons_self)
    omega
  · omega
theorem f_len {t b : Int} (h1 : t.natAbs < 2 ^ 1000) (h2 : b.natAbs < 2 ^ 1000) : (fL t b).length ≤ 610 := by
  have a := i_len h1
  have c := i_len h2
  unfold fL
  split
  · omega
  · rw [List.length_append, List.length_cons]; omega
theorem fL_inj {t b u c : Int} (h : fL t b = fL u c) : t = u ∧ b = c := by
  unfold fL at h
  by_cases hb : b = 1 <;> by_cases hc : c = 1
  · rw [if_pos hb, if_pos hc] at h
    exact ⟨iL_inj h, by omega⟩
  · rw [if_pos hb, if_neg hc] at h
    exact absurd (by rw [h]; simp) (iL_free (z := t))
  · rw [if_neg hb, if_pos hc] at h
    exact absurd (by rw [← h]; simp) (iL_free (z := u))
  · rw [if_neg hb, if_neg hc] at h
    have p1 := par_some 47 (iL b) (iL t) [] iL_free
    have p2 := par_some 47 (iL c) (iL u) [] iL_free
    rw [h, p2] at p1
    have := Prod.mk.inj (Option.some.inj p1)
    exact ⟨(iL_inj this.1).symm, (iL_inj this.2).symm⟩
end NumT

namespace Hk
open PySem PySem.Spec PyProof.Rows L2 NumM NumT SX
/-- codes below 128 -/
def Asc (x : Str) : Prop := ∀ c ∈ x.cps.toList, c < 128
theorem Asc.app {x y : Str} (h : Asc x) (g : Asc y) : Asc (x ++ y) := fun c hc => by
  rw [show (x ++ y).cps.toList = x.cps.toList ++ y.cps.toList from TL.tl_append x y] at hc
  rcases List.mem_append.mp hc with z | z
  · exact h c z
  · exact g c z
theorem Asc.ok {x : Str} (h : Asc x) : PyData.strOk x = true := by
  unfold PyData.strOk
  rw [← Array.all_toList, List.all_eq_true]
  intro c hc
  have := h c hc
  exact decide_eq_true (by omega)
theorem char_asc (q c : Nat) (hq : q = 39 ∨ q = 34) (hc : c < 128) : ∀ d ∈ Builtin.Str.reprChar q c, d < 128 := by
  have k : ∀ n : _root_.Fin 128, ((Builtin.Str.reprChar 39 n.val).all (fun d => decide (d < 128)) && (Builtin.Str.reprChar 34 n.val).all (fun d => decide (d < 128))) = true := by decide +kernel
  have h := k ⟨c, hc⟩
  obtain ⟨h1, h2⟩ := Bool.and_eq_true_iff.mp h
  intro d hd
  rcases hq with rfl | rfl
  · exact of_decide_eq_true (List.all_eq_true.mp h1 d hd)
  · exact of_decide_eq_true (List.all_eq_true.mp h2 d hd)
theorem fold_asc (q : Nat) (hq : q = 39 ∨ q = 34) : ∀ (l : List Nat) (acc : Array Nat), (∀ c ∈ l, c < 128) → (∀ c ∈ acc.toList, c < 128) → ∀ c ∈ (l.foldl (fun out c => out ++ (Builtin.Str.reprChar q c).toArray) acc).toList, c < 128
  | [], acc, _, h => h
  | x :: r, acc, hl, h => by
    rw [List.foldl_cons]
    refine fold_asc q hq r _ (fun c hc => hl c (List.mem_cons_of_mem _ hc)) fun c hc => ?_
    rw [Array.toList_append] at hc
    rcases List.mem_append.mp hc with z | z
    · exact h c z
    · exact char_asc q x hq (hl x List.mem_cons_self) c (by simpa using z)
theorem repr_asc {x : Str} (h : Asc x) : Asc (reprText x) := by
  have hq : reprQuote x = 39 ∨ reprQuote x = 34 := by
    unfold reprQuote
    split <;> simp
  intro c hc
  unfold reprText at hc
  rw [Array.toList_push] at hc
  rcases List.mem_append.mp hc with z | z
  · rw [← Array.foldl_toList] at z
    refine fold_asc _ hq x.cps.toList _ h (fun d hd => ?_) c z
    have : d = reprQuote x := by simpa using hd
    rw [this]
    rcases hq with e | e <;> rw [e] <;> decide
  · have : c = reprQuote x := by simpa using z
    rw [this]
    rcases hq with e | e <;> rw [e] <;> decide
theorem lit_asc {x : Str} (h : x.cps.toList.all (fun c => decide (c < 128)) = true) : Asc x := fun c hc => of_decide_eq_true (List.all_eq_true.mp h c hc)
theorem join_asc {s : Str} {ts : List Str} (hs : Asc s) (h : ∀ t ∈ ts, Asc t) : Asc (Str.join s ts) := fun c hc => by
  rcases (mem_join s c ts).mp hc with ⟨t, ht, z⟩ | ⟨_, z⟩
  · exact h t ht c z
  · exact hs c z
theorem S_asc {a : List Nat} (h : ∀ c ∈ a, c < 128) : Asc (S a) := h
theorem int_asc (i : Int) : Asc ((toString i : String) : Str) := by
  rw [toS]
  intro c hc
  have hc : c ∈ iL i := hc
  unfold iL at hc
  split at hc
  · rcases List.mem_cons.mp hc with h | h
    · omega
    · have := numL_all _ c h; omega
  · have := numL_all _ c hc; omega
mutual
/-- all texts in it have codes below 128 -/
def ascD : PyData → Prop
  | .str x => Asc x
  | .list xs => ascDs xs
  | .tuple xs => ascDs xs
  | .dict _ => False
  | _ => True
def ascDs : List PyData → Prop
  | [] => True
  | x :: xs => ascD x ∧ ascDs xs
end
mutual
theorem shown_asc : ∀ d : PyData, ascD d → Asc d.shown
  | .none, _ => lit_asc (by decide +kernel)
  | .bool b, _ => by cases b <;> exact lit_asc (by decide +kernel)
  | .int i, _ => by rw [PyData.shown_int]; exact int_asc i
  | .str x, h => by
    rw [PyData.shown_str]
    simp only [ascD] at h
    exact repr_asc h
  | .list xs, h => by
    simp only [ascD] at h
    rw [PyData.shown_list]
    exact ((lit_asc (by decide +kernel)).app (join_asc (lit_asc (by decide +kernel)) (shownAll_asc xs h))).app (lit_asc (by decide +kernel))
  | .tuple xs, h => by
    simp only [ascD] at h
    rw [PyData.shown_tuple]
    refine ((lit_asc (by decide +kernel)).app (join_asc (lit_asc (by decide +kernel)) (shownAll_asc xs h))).app ?_
    split <;> exact lit_asc (by decide +kernel)
  | .dict _, h => by simp only [ascD] at h
theorem shownAll_asc : ∀ xs : List PyData, ascDs xs → ∀ t ∈ PyData.shownAll xs, Asc t
  | [], _ => by
    rw [PyData.shownAll_nil]
    intro t ht
    exact absurd ht (List.not_mem_nil)
  | x :: xs, h => by
    simp only [ascDs] at h
    rw [PyData.shownAll_cons]
    intro t ht
    rcases List.mem_cons.mp ht with e | e
    · rw [e]; exact shown_asc x h.1
    · exact shownAll_asc xs h.2 t e
end
end Hk

/-! Numbers: what stands at an instance, promises, texts. -/
namespace Hk
open PySem PySem.Spec PyProof.Rows L2 NumM
/-! ### the class Number: data, promises -/
def numF (t b : Int) : List (Str × V) := [("_top", .int t), ("_bottom", .int b)]
theorem ktb : ¬ (("_top" : Str) = "_bottom") := by decide +kernel
theorem numF_eq (t b : Int) : putF "_bottom" (.int b) (putF "_top" (.int t) []) = numF t b := by
  show (if ("_top" : Str) = "_bottom" then [(("_top" : Str), V.int b)] else (("_top" : Str), V.int t) :: putF "_bottom" (V.int b) []) = numF t b
  rw [if_neg ktb]
  rfl
theorem numF_top (t b : Int) : (numF t b).lookup ("_top" : Str) = some (.int t) := by
  rw [← numF_eq, lookup_putF, if_neg ktb, lookup_putF, if_pos rfl]
theorem numF_bot (t b : Int) : (numF t b).lookup ("_bottom" : Str) = some (.int b) := by
  rw [← numF_eq, lookup_putF, if_pos rfl]
/-- a Number in lowest terms stands at p -/
structure NumAt (C : Addr) (H : Hp) (p : Addr) (t b : Int) : Prop where
  at_ : ∃ dx, H p = some (.ins C dx (numF t b))
  pos : 0 < b
  cop : Nat.gcd t.natAbs b.natAbs = 1
theorem NumAt.same {C : Addr} {H H' : Hp} {p : Addr} {t b : Int} (n : NumAt C H p t b) (s : Same H H') : NumAt C H' p t b := by
  obtain ⟨dx, h⟩ := n.at_
  exact ⟨⟨dx, s _ _ h⟩, n.pos, n.cop⟩
/-- sizes: numbers of this many bits -/
abbrev Sz (n : Int) : Prop := n.natAbs < 2 ^ 1000
def spInit (C : Addr) : Sp := fun vs H Q _ => ∃ (p dx : Addr) (h b : Int), vs = [.ref p, .int h, .int b] ∧ H p = some (.ins C dx []) ∧ b ≠ 0 ∧ Sz b ∧ Q .non (upd H p (.ins C dx (numF (lowT h b) (lowB h b))))
/-- a reader of a Number -/
def spGet (C : Addr) (g : Int → Int → V) : Sp := fun vs H Q _ => ∃ (p : Addr) (t b : Int), vs = [.ref p] ∧ NumAt C H p t b ∧ Sz t ∧ Sz b ∧ Q (g t b) H
def sgn (t : Int) : Int := if t = 0 then 0 else if 0 < t then 1 else -1
def txt (t b : Int) : Str := if b = 1 then ((toString t : String) : Str) else ((toString t : String) : Str) ++ ("/" : Str) ++ ((toString b : String) : Str)
/-- __eq__ -/
def spEq (C : Addr) (K : Fr) : Sp := fun vs H Q _ => ∃ (p : Addr) (t b : Int) (y : V), vs = [.ref p, y] ∧ NumAt C H p t b ∧
  ((∃ q u c, y = .ref q ∧ NumAt C H q u c ∧ Q (.bl (decide (t = u) && decide (b = c))) H) ∨ (∃ ty, TyX K H y ty ∧ PySem.W.kitOne K ty (.ref C) = some false ∧ Q (.bl false) H))
def spIsInt : Sp := fun vs H Q _ => ∃ i : Int, vs = [.int i] ∧ Q (.bl true) H
section
variable {X : Cx}
/-- // by any divisor below 2 ^ 9000 -/
def CDivG (_ j : Int) : Prop := j ≠ 0 ∧ j.natAbs.log2 < 9000
theorem op_fdivG : OpR X (binaryOp .FloorDiv) (rI CDivG fun i j => .int (i.fdiv j)) := opI fun _ _ _ _ _ _ _ hc q => floordiv_int hc.1 q (.inl (PyProof.noPylong_of_log2 hc.2))
end
theorem log2_sz {i : Int} (h : Sz i) : i.natAbs.log2 < 1000 := PySem.Flt.log2_lt_of (by decide) h
end Hk
namespace Hk
open PySem PySem.Spec PyProof.Rows L2 NumM NumT SX
theorem empty_S : Str.empty = S [] := by decide +kernel
theorem log2_small {i : Int} (h : Sz i) : i.natAbs.log2 < 1920 := Nat.lt_trans (log2_sz h) (by decide)
theorem line_ge {n : Nat} (h : n ≤ 100000) : n ≤ sizeLine := Nat.le_trans h (by decide)
end Hk
namespace Hk
open PySem PySem.Spec PyProof.Rows L2 NumM NumT SX
/-- a promise about one text -/
def spDigits : Sp := fun vs H Q _ => ∃ a : List Nat, vs = [.str (S a)] ∧ Q (.bl (dig a)) H
end Hk
namespace Hk
open PySem PySem.Spec PyProof.Rows L2 NumM NumT SX
/-- a new Number comes back -/
abbrev NewNum (C : Addr) (H : Hp) (Q : VK) (t b : Int) : Prop := ∀ (H' : Hp) (p : Addr), Same H H' → H p = none → NumAt C H' p t b → Q (.ref p) H'
/-- a text of a fraction in lowest terms is read -/
def spRead (C : Addr) : Sp := fun vs H Q _ => ∃ t b : Int, vs = [.str (S (fL t b))] ∧ 0 < b ∧ Nat.gcd t.natAbs b.natAbs = 1 ∧ Sz t ∧ Sz b ∧ NewNum C H Q t b
theorem truS {K : Fr} {H : Hp} {a : List Nat} (h : a.length ≤ 100000) : TruV K (.str (S a)) H (!a.isEmpty) := by
  refine ⟨by rw [S_len]; exact line_ge h, ?_⟩
  rw [S_len]
  cases a with
  | nil => rfl
  | cons c r => rfl
/-- an instance is laid: it and its dict are new -/
theorem laid_same {H : Hp} {x dx C : Addr} {fs : List (Str × V)} (nx : H x = none) (nd : H dx = none) : Same H (upd (upd (upd H dx (.own x)) x (.ins C dx [])) x (.ins C dx fs)) := by
  intro b o e
  rw [upd_upd, upd_ne (ne_of_none e nx), upd_ne (ne_of_none e nd)]
  exact e
theorem same_upd {H : Hp} {p : Addr} {o : HO} (h : H p = none) : Same H (upd H p o) := fun b u e => by
  rw [upd_ne (ne_of_none e h)]
  exact e
theorem same_upd' {H H1 : Hp} {p : Addr} {o : HO} (s : Same H H1) (h : H p = none) : Same H (upd H1 p o) := fun b u e => by
  rw [upd_ne (ne_of_none e h)]
  exact s b u e
/-- a call of the class with its two arguments: what __init__ promises of it -/
theorem mk_num {C : Addr} {H : Hp} {Q : VK} {h b : Int} (hb : b ≠ 0) (sb : Sz b) (k : NewNum C H Q (lowT h b) (lowB h b)) : ∀ x dx, H x = none → H dx = none → dx ≠ x →
    spInit C [.ref x, .int h, .int b] (upd (upd H dx (.own x)) x (.ins C dx [])) (fun v H2 => v = .non ∧ Q (.ref x) H2) E0 := by
  intro x dx nx nd ne
  refine ⟨x, dx, h, b, rfl, upd_same, hb, sb, rfl, ?_⟩
  exact k _ x (laid_same nx nd) nx ⟨⟨dx, upd_same⟩, low_pos hb, low_cop hb⟩
end Hk
namespace Hk
open PySem PySem.Spec PyProof.Rows L2 NumM NumT SX
theorem map_int_get {ns : List Int} {j : Nat} (h : j < ns.length) : ∃ n : Int, ns[j]? = some n ∧ atI (ns.map V.int) ((j : Nat) : Int) = some (V.int n) := by
  refine ⟨ns[j], by simp [h], ?_⟩
  refine atI_nat ?_
  rw [List.getElem?_map]
  simp [h]
end Hk
namespace Hk
open PySem PySem.Spec PyProof.Rows L2 NumM NumT SX
theorem iL_small (z : Int) : ∀ c ∈ iL z, c < 128 := fun c hc => by
  unfold iL at hc
  split at hc
  · rcases List.mem_cons.mp hc with h | h
    · omega
    · have := numL_all _ c h; omega
  · have := numL_all _ c hc; omega
theorem fL_small (t b : Int) : ∀ c ∈ fL t b, c < 128 := fun c hc => by
  unfold fL at hc
  split at hc
  · exact iL_small _ c hc
  · rcases List.mem_append.mp hc with h | h
    · exact iL_small _ c h
    · rcases List.mem_cons.mp h with h | h
      · omega
      · exact iL_small _ c h
/-- repr of a Number, by its codes -/
def rL (t b : Int) : List Nat := [78, 117, 109, 98, 101, 114, 40] ++ fL t b ++ [41]
theorem repr_S (t b : Int) : ("Number(" : Str) ++ S (fL t b) ++ (")" : Str) = S (rL t b) := by
  have e1 : ("Number(" : Str) = S [78, 117, 109, 98, 101, 114, 40] := by decide +kernel
  have e2 : (")" : Str) = S [41] := by decide +kernel
  rw [e1, e2, S_cat, S_cat]
  rfl
theorem rL_small (t b : Int) : ∀ c ∈ rL t b, c < 128 := fun c hc => by
  unfold rL at hc
  rcases List.mem_append.mp hc with h | h
  · rcases List.mem_append.mp h with h | h
    · exact (by decide : ∀ c ∈ [78, 117, 109, 98, 101, 114, 40], c < 128) c h
    · exact fL_small _ _ c h
  · rw [List.mem_singleton.mp h]; decide
/-- what is shown of a Number -/
def seenD (t b : Int) : PyData := .list [.int t, .int b, .int (sgn t), .str (S (fL t b)), .str (S (rL t b)), .bool true]
def seenT (t b : Int) : Str := (seenD t b).shown
theorem sgn_sz (t : Int) : Sz (sgn t) := by
  unfold sgn
  split
  · decide +kernel
  · split <;> decide +kernel
theorem show_int {i : Int} (h : Sz i) : (PyData.int i).showable = true := by
  simp only [PyData.showable, decide_eq_true_eq]
  exact log2_small h
theorem short_int {i : Int} (h : Sz i) : (PyData.int i).leavesShort 320 = true := by
  simp only [PyData.leavesShort, decide_eq_true_eq]
  rw [PyData.shown_int, toS, S_len]
  have := i_len h
  omega
theorem short_S {a : List Nat} (h : ∀ c ∈ a, c < 128) : (PyData.str (S a)).leavesShort 320 = true := by
  simp only [PyData.leavesShort, List.all_eq_true, decide_eq_true_eq]
  intro c hc
  exact Nat.lt_trans (h c hc) (by decide)
theorem seen_ok {t b : Int} (st : Sz t) (sb : Sz b) : (seenD t b).showable = true ∧ (seenD t b).depth ≤ 60 ∧ (seenD t b).shown.length ≤ sizeLine := by
  have l := f_len st sb
  refine ⟨?_, ?_, ?_⟩
  · unfold seenD
    have a := show_int st
    have c := show_int sb
    have d := show_int (sgn_sz t)
    simp only [PyData.showable, PyData.showableAll] at a c d ⊢
    simp [a, c, d]
  · unfold seenD
    simp [PyData.depth, PyData.depthAll]
  · have h := PyData.shown_le_bulk 320 (by decide) (seenD t b) (by
      have a := short_int st
      have c := short_int sb
      have d := short_int (sgn_sz t)
      have e := short_S (fL_small t b)
      have f := short_S (rL_small t b)
      have g : (PyData.bool true).leavesShort 320 = true := rfl
      unfold seenD
      simp only [PyData.leavesShort, PyData.leavesShortAll] at a c d e f g ⊢
      simp [a, c, d, e, f])
    have hb : (seenD t b).bulk ≤ 2000 := by
      unfold seenD
      simp only [PyData.bulk, PyData.bulkAll]
      have e1 : (S (fL t b)).cps.size = (fL t b).length := by simp
      have e2 : (S (rL t b)).cps.size = (fL t b).length + 8 := by simp [rL]
      rw [e1, e2]
      omega
    rw [sizeLine_eq]
    have : 322 * (seenD t b).bulk ≤ 322 * 2000 := Nat.mul_le_mul (Nat.le_refl _) hb
    omega
theorem dp_seen {K : Fr} {H : Hp} {p : Addr} {t b z : Int} (hz : z = sgn t) (h : H p = some (.lst [.int t, .int b, .int z, .str (S (fL t b)), .str (S (rL t b)), .bl true])) : Dp K H (.ref p) (seenD t b) := by
  subst hz
  exact .lst (.inl (.inl h)) (.cons (.int _) (.cons (.int _) (.cons (.int _) (.cons (.str _) (.cons (.str _) (.cons (.bl _) .nil))))))
theorem dp_due {K : Fr} {H : Hp} {p : Addr} {t b z : Int} (hz : z = sgn t) (h : H p = some (.lst [.int t, .int b, .int z, .str (S (fL t b)), .str (("Number(" : Str) ++ S (fL t b) ++ (")" : Str)), .bl true])) : Dp K H (.ref p) (seenD t b) := by
  rw [repr_S] at h
  exact dp_seen hz h
end Hk
namespace Hk
open PySem PySem.Spec PyProof.Rows L2 NumM NumT SX
/-- a promise of a def over a pair (a tuple of two ints at p) -/
def spPair (g : Int → Int → V) : Sp := fun vs H Q _ => ∃ (p : Addr) (t b : Int), vs = [.ref p] ∧ H p = some (.tup [.int t, .int b]) ∧ 0 < b ∧ Sz t ∧ Sz b ∧ ∀ H', Same H H' → Q (g t b) H'
def spSeen (C : Addr) : Sp := fun vs H Q _ => ∃ (p : Addr) (t b : Int), vs = [.ref p] ∧ NumAt C H p t b ∧ Sz t ∧ Sz b ∧ ∀ H', Same H H' → Q (.str (seenT t b)) H'
theorem add_SS (a b : List Nat) : S a ++ S b = S (a ++ b) := S_cat a b
end Hk
namespace Hk
open PySem PySem.Spec PyProof.Rows L2 NumM NumT SX
/-- all but what stands at a is as it was -/
def Old (a : Addr) (H H' : Hp) : Prop := ∀ x o, H x = some o → x ≠ a → H' x = some o
theorem Old.refl (a : Addr) (H : Hp) : Old a H H := fun _ _ h _ => h
theorem Old.trans {a : Addr} {H H1 H2 : Hp} (s : Old a H H1) (t : Old a H1 H2) : Old a H H2 := fun x o h n => t x o (s x o h n) n
theorem Old.same {a : Addr} {H H1 : Hp} (s : Same H H1) : Old a H H1 := fun x o h _ => s x o h
theorem Old.put {a : Addr} {H : Hp} {o : HO} : Old a H (upd H a o) := fun x u h n => by
  rw [upd_ne n]
  exact h
theorem Old.new {a p : Addr} {H : Hp} {o : HO} (np : H p = none) : Old a H (upd H p o) := Old.same (same_upd np)
end Hk
namespace Hk
open PySem PySem.Spec PyProof.Rows L2 NumM NumT SX
theorem dec_int (x y : Int) : decide (V.int x = V.int y) = decide (x = y) := by
  by_cases h : x = y
  · subst h; simp
  · rw [decide_eq_false h, decide_eq_false fun z => h (V.int.inj z)]
theorem sz200 {z : Int} (h : z.natAbs < 2 ^ 200) : Sz z := Nat.lt_of_lt_of_le h (by decide +kernel)
theorem sz_mul {x y : Int} (h : x.natAbs < 2 ^ 200) (h2 : y.natAbs < 2 ^ 4) : Sz (x * y) := Nat.lt_of_lt_of_le (wide_lt h h2) (by decide +kernel)
theorem sz_succ {x : Int} (h : x.natAbs < 2 ^ 200) : Sz (x + 1) := by
  have e : (2 : Nat) ^ 200 + 1 ≤ 2 ^ 1000 := by decide +kernel
  have : (x + 1).natAbs ≤ x.natAbs + 1 := by omega
  exact Nat.lt_of_lt_of_le (show (x + 1).natAbs < 2 ^ 200 + 1 by omega) e
/-- the fraction one greater is another one -/
theorem far_ne {t b : Int} (hb : 0 < b) : (decide (t = lowT (t + 1) b) && decide (b = lowB (t + 1) b)) = false := by
  cases h : (decide (t = lowT (t + 1) b) && decide (b = lowB (t + 1) b)) with
  | false => rfl
  | true =>
    obtain ⟨h1, h2⟩ := Bool.and_eq_true_iff.mp h
    have e1 := of_decide_eq_true h1
    have e2 := of_decide_eq_true h2
    have l := low_eq (h := t + 1) (b := b) (by omega)
    rw [← e1, ← e2, Int.add_mul, Int.one_mul] at l
    omega
theorem num_ne {C : Addr} {H : Hp} {a p : Addr} {xs : List V} {t b : Int} (N : NumAt C H p t b) (h : H a = some (.lst xs)) : p ≠ a := by
  obtain ⟨dx, e⟩ := N.at_
  exact ne_of e h (by intro z; exact nomatch z)
theorem NumAt.old {C : Addr} {H H' : Hp} {a p : Addr} {t b : Int} (N : NumAt C H p t b) (s : Old a H H') (ne : p ≠ a) : NumAt C H' p t b := by
  obtain ⟨dx, h⟩ := N.at_
  exact ⟨⟨dx, s _ _ h ne⟩, N.pos, N.cop⟩
theorem dp_strs {K : Fr} {H : Hp} {p : Addr} {xs : List Str} (h : H p = some (.lst (xs.map V.str))) : Dp K H (.ref p) (.list (xs.map PyData.str)) := by
  refine .lst (.inl (.inl h)) ?_
  clear h
  induction xs with
  | nil => exact .nil
  | cons x r ih => exact .cons (.str x) ih
theorem dp_bls {K : Fr} {H : Hp} {p : Addr} {xs : List Bool} (h : H p = some (.lst (xs.map V.bl))) : Dp K H (.ref p) (.list (xs.map PyData.bool)) := by
  refine .lst (.inl (.inl h)) ?_
  clear h
  induction xs with
  | nil => exact .nil
  | cons x r ih => exact .cons (.bl x) ih
theorem depth_strs : ∀ xs : List Str, PyData.depthAll (xs.map PyData.str) ≤ 1
  | [] => by simp [PyData.depthAll]
  | x :: r => by
    have := depth_strs r
    simp only [List.map_cons, PyData.depthAll, PyData.depth]
    omega
theorem depth_bls : ∀ xs : List Bool, PyData.depthAll (xs.map PyData.bool) ≤ 1
  | [] => by simp [PyData.depthAll]
  | x :: r => by
    have := depth_bls r
    simp only [List.map_cons, PyData.depthAll, PyData.depth]
    omega
theorem shaped_strs {xs : List Str} (h : ∀ x ∈ xs, Asc x) : SeqAt.shaped (.list (xs.map PyData.str)) = true := by
  unfold SeqAt.shaped
  rw [Bool.and_eq_true]
  refine ⟨?_, decide_eq_true ?_⟩
  · show PyData.canLayAll0 (xs.map PyData.str) = true
    rw [PyProof.Rows.canLayAll_strs', List.all_eq_true]
    exact fun x hx => (h x hx).ok
  · have := depth_strs xs
    simp only [PyData.depth]
    omega
theorem shaped_bls (xs : List Bool) : SeqAt.shaped (.list (xs.map PyData.bool)) = true := by
  unfold SeqAt.shaped
  rw [Bool.and_eq_true]
  refine ⟨?_, decide_eq_true ?_⟩
  · show PyData.canLayAll0 (xs.map PyData.bool) = true
    induction xs with
    | nil => rfl
    | cons x r ih => simpa [PyData.canLayAll0, PyData.canLay0] using ih
  · have := depth_bls xs
    simp only [PyData.depth]
    omega
theorem seen_asc (t b : Int) : Asc (seenT t b) := by
  refine shown_asc _ ?_
  unfold seenD
  simp only [ascD, ascDs, and_true, true_and]
  exact ⟨S_asc (fL_small t b), S_asc (rL_small t b)⟩
theorem eqv_strs (xs : List Str) : PyData.eqv (.list (xs.map PyData.str)) (.list (xs.map PyData.str)) = true := by
  simp only [PyData.eqv]
  induction xs with
  | nil => rfl
  | cons x r ih => simp [PyData.eqvAll, PyData.eqv, ih]
theorem eqv_bls (xs : List Bool) : PyData.eqv (.list (xs.map PyData.bool)) (.list (xs.map PyData.bool)) = true := by
  simp only [PyData.eqv]
  induction xs with
  | nil => rfl
  | cons x r ih => simp [PyData.eqvAll, PyData.eqv, ih]
/-- two keywords, given in the other order -/
def kwTurn {α : Type} (us ws : List α) : List α := match ws with
  | [b, t] => us ++ [t, b]
  | _ => us
/-- Number(e, ..): a new Number in lowest terms -/
def tNum (C : Addr) (dvs : List V) (t : TA) : TE := fun σ H Q => t σ H fun vs H1 => ∃ h b : Int, vs ++ dvs = [.int h, .int b] ∧ b ≠ 0 ∧ Sz b ∧ NewNum C H1 Q (lowT h b) (lowB h b)
def tNumK (C : Addr) (tk : TA) : TE := fun σ H Q => tk σ H fun zs H1 => ∃ h b : Int, zs = [.int b, .int h] ∧ b ≠ 0 ∧ Sz b ∧ NewNum C H1 Q (lowT h b) (lowB h b)
section
variable {X : Cx} {k : Nat} {f C : Addr} {fd : FuncData} {ps : List Str} {dvs : List V} {ds : List Value} {x : Str} {p pos : Pos} {e : Expr} {es : List Expr} {kws : List Keyword} {t tk : TA} {g : List Value → List Value → List Value}
theorem pe_num (M : Mk X.K C f) (F : FnOk X.prog X.w X.K X.mg X.base CX0 k f fd ps (spInit C)) (hr : Room (k + 1) X.A) (hm : X.mg x = some (.ref C)) (hb : Binds X.K fd ps ds) (hd : Vals dvs ds) (ha : PA X (e :: es) t) (hg : Gl X x := by rfl)
    (hdb : (x == ("__debug__" : Str)) = false := by decide) (he : starEach (e :: es) X.env = (false, eval e X.env) :: starEach es X.env := by rfl) (hpl : (backTo pos (starEach es X.env)).any (·.1) = false := by rfl) :
    PE X (.Call (.Name x p) (e :: es) [] pos) (tNum C dvs t) := by
  refine ⟨fun pins s σ H Q I h => wpAny_Call_Name_kw (ld_glob I hg hm ?_ hdb)⟩
  refine PySem.W.callWith_K (h₀ := X.base) I.ok.mod.kin M.kp (thn (ha.run pos pins s σ H _ I h) fun us s1 hu => ?_) he hpl
  obtain ⟨vs, H1, J, r, a, b, ev, hb0, sb, q⟩ := hu
  refine ⟨J.kIn, run_make (E := E0) M F hr hb hd pass0 J r ?_⟩
  rw [ev]
  exact mk_num hb0 sb q
theorem pe_numK (M : Mk X.K C f) (F : FnOk X.prog X.w X.K X.mg X.base CX0 k f fd ps (spInit C)) (hr : Room (k + 1) X.A) (hm : X.mg x = some (.ref C)) (hb : KBn X.K fd ps 1 ["bottom", "top"] g (fun vs zs => kwTurn vs zs)) (hkw : PK X kws tk) (hg : Gl X x := by rfl)
    (hall : (backToKw pos (keywordEach kws X.env)).all (·.1.isSome) = true := by rfl) (hks : (backToKw pos (keywordEach kws X.env)).filterMap (·.1) = [("bottom" : Str), ("top" : Str)] := by rfl) (hdb : (x == ("__debug__" : Str)) = false := by decide)
    (hpl : ((backTo pos (starEach [] X.env)).any (·.1) || (backToKw pos (keywordEach kws X.env)).any (·.1.isNone)) = false := by rfl) : PE X (.Call (.Name x p) [] kws pos) (tNumK C tk) := by
  refine ⟨fun pins s σ H Q I h => wpAny_Call_Name_kw (ld_glob I hg hm ?_ hdb)⟩
  refine PySem.W.callWith_KW0 (h₀ := X.base) I.ok.mod.kin M.kp hall (thn (hkw.run pos pins s σ H _ I h) fun ws s2 hu => ?_) hpl
  obtain ⟨zs, H2, J, rz, a, b, ev, hb0, sb, q⟩ := hu
  refine ⟨J.kIn, ?_⟩
  rw [hks]
  refine run_makeK (E := E0) (us := []) (vs := []) M F hr hb pass0 J .nil rz rfl (by rw [ev]; rfl) ?_
  rw [ev]
  exact mk_num hb0 sb q
end
end Hk

/-! A method called by one keyword or more. -/
namespace Hk
open PySem PySem.Spec PyProof.Rows L2
def tMethK (C : Addr) (m : Str) (sp : Sp) (ta : TE) (tk : TA) : TE := fun σ H Q => ta σ H fun x H1 => ∃ a dx fs, x = .ref a ∧ H1 a = some (.ins C dx fs) ∧ fs.lookup m = none ∧ tk σ H1 fun vs H2 => sp (x :: vs) H2 Q E0
section
variable {X : Cx} {k : Nat} {C p f : Addr} {m : Str} {fd : FuncData} {p1 : Str} {ps : List Str} {sp : Sp} {o : Expr} {kws : List Keyword} {ta : TE} {tk : TA} {pos apos : Pos} {pl : Sem Bool}
theorem pe_methK (he : PE X o ta) (c : Cls X.K C) (hm : Meth X.K C m f) (F : FnOk X.prog X.w X.K X.mg X.base CX0 k f fd (p1 :: ps) sp) (hr : Room k X.A)
    (hbk : ∀ (s : Shared) (v : Value) (ws : List Value), X.K.In s.heap → ws.length = ps.length → BindsTo s fd ⟨[v], ps.zip ws⟩ ((p1 :: ps).zip (v :: ws))) (hk : PK X kws tk)
    (hall : (backToKw pos (keywordEach kws X.env)).all (·.1.isSome) = true := by rfl) (hks : (backToKw pos (keywordEach kws X.env)).filterMap (·.1) = ps := by rfl)
    (hpl : ((backTo pos (starEach [] X.env)).any (·.1) || (backToKw pos (keywordEach kws X.env)).any (·.1.isNone)) = false := by rfl)
    (ht : eval (.Call (.Attribute o m apos) [] kws pos) X.env = (do
      let ov ← eval o X.env
      standAt apos.atName
      let (f, first) ← holding [ov] (getMethod ov m pl)
      callWith pos f first (backTo pos (starEach [] X.env)) (backToKw pos (keywordEach kws X.env))) := by rfl) :
    PE X (.Call (.Attribute o m apos) [] kws pos) (tMethK C m sp ta tk) := by
  refine ⟨fun pins s σ H Q I h => PySem.W.methodCall_KW (pl := pl) (thn (he.run pins s σ H _ I h) fun u s1 hu => ?_) ht⟩
  obtain ⟨x, H1, I1, rx, a, dx, fs, ex, ea, l, q⟩ := hu
  subst ex
  obtain rfl : u = Value.ref a := rx
  refine getmeth_ok I1 ea c hm l ?_
  refine PySem.W.callWith_KW0 (first := [.ref a]) (h₀ := X.base) I.ok.mod.kin hm.kp hall (thn (hk.run pos pins s1 σ H1 _ I1 q) fun ws s2 hw => ?_) hpl
  obtain ⟨vs, H2, I2, rv, q2⟩ := hw
  have rv2 : Vals (.ref a :: vs) (.ref a :: ws) := .cons rfl rv
  have ln : ws.length = ps.length := by
    have h1 := rv2.length
    have h2 := F.len _ _ _ _ q2
    simp only [List.length_cons] at h1 h2
    omega
  refine ⟨I2.kIn, ?_⟩
  rw [hks]
  refine wpAny_call (codeAny_mono (F.run X.A X.stack s2 H2 ⟨[.ref a], ps.zip ws⟩ (.ref a :: ws) (.ref a :: vs) Q E0 hr I2.env0 (hbk s2 _ ws I2.kIn ln) rv2 q2) fun z s' hq => ?_)
  rcases z with e | fl
  · exact (show False from hq).elim
  · cases fl with
    | ret u => exact I2.after hq
    | _ => exact (show False from hq).elim
end
end Hk

/-! Exceptions of own classes: tests of the written part, defs that raise, what a suite asks of what it caught. -/
namespace Hk
open PySem PySem.Spec PyProof.Rows L2
/-! ### tests -/
def oexB (K : Fr) (C : Addr) : Bool := (match K.lookup C with
  | some ⟨.type "type", _, .cls cd, sl⟩ => (match cd.mro, sl.toList with
    | .ref C' :: bm, [_, _, _, _, some (.builtin n), _] => C' == C && (n == "ValueError.__new__" && (!cd.hasDel && (cd.hasDict && PySem.HandSPX.refsVE bm)))
    | _, _ => false)
  | _ => false) && (He.eqO (PySem.W.findIn K (.ref C) "__setattr__") (some (some (.builtin "object.__setattr__"))) && (decide (PySem.W.subIn K (.ref C) (.type "BaseException") = some true) && (decide (PySem.W.typeIn K (.ref C) = some (.type "type")) && PySem.W.keepIn K (.ref C))))
theorem oexB_ok {K : Fr} {C : Addr} (q : oexB K C = true) : OexC K C := by
  obtain ⟨q, c⟩ := He.ba q
  obtain ⟨c1, c⟩ := He.ba c
  obtain ⟨c2, c⟩ := He.ba c
  obtain ⟨c3, c4⟩ := He.ba c
  refine ⟨?_, He.eqO_ok c1, of_decide_eq_true c2, of_decide_eq_true c3, c4⟩
  split at q
  · rename_i dd cd sl ho
    split at q
    · rename_i C' bm k0 k1 k2 k3 n k5 hm hs
      simp only [Bool.and_eq_true, beq_iff_eq, Bool.not_eq_true'] at q
      obtain ⟨rfl, rfl, hdel, hdct, hv⟩ := q
      obtain ⟨nm, bs, mro, ns, qn, hd, sn, sub, ab, col, del⟩ := cd
      dsimp only at hm hdel hdct
      subst hm hdel hdct
      have hsl : sl = #[k0, k1, k2, k3, some (.builtin "ValueError.__new__"), k5] := by
        obtain ⟨l⟩ := sl
        simp only at hs
        rw [hs]
      subst hsl
      exact ⟨nm, qn, ns, bs, bm, sn, sub, ab, col, dd, k0, k1, k2, k3, k5, ho, hv⟩
    · cases q
  · cases q
def tOex (x : Str) : Tst := fun K => oexB K (He.ga K x)
def tXfc (x : Str) : Tst := fun K => xfB K (He.ga K x)
def tNof (x f : Str) : Tst := fun K => He.eqO (PySem.W.findIn K (.ref (He.ga K x)) f) (some none)
/-- its own __init__ stands at the address of the method -/
def tInit (x : Str) : Tst := fun K => tMeth x "__init__" K && decide (PySem.W.typeIn K (.ref (mAd x "__init__" K)) = some (.type "function"))
def excB (K : Fr) (D : Addr) : Bool := He.eqO (PySem.W.findIn K (.ref D) "__getattribute__") (some (some (.builtin "BaseException.__getattribute__"))) && (He.eqO (PySem.W.findIn K (.ref D) "__getattr__") (some none) && (decide (PySem.W.subIn K (.ref D) (.type "BaseException") = some true) && (PySem.W.hasDictIn K D &&
  (He.eqO (PySem.W.findIn K (.ref D) "__class__") (some (some (.builtin "object.__class__"))) && (He.eqO (PySem.W.specialIn K (.builtin "object.__class__") "__get__") (some (some (.builtin "getset_descriptor.__get__"))) && (decide (PySem.W.takesIn K (.builtin "object.__class__") = some true) && decide (PySem.W.mroIn K D (.type "object") = some true)))))))
theorem excB_ok {K : Fr} {D : Addr} (c : excB K D = true) : ExcC K D := by
  obtain ⟨c1, c⟩ := He.ba c
  obtain ⟨c2, c⟩ := He.ba c
  obtain ⟨c3, c⟩ := He.ba c
  obtain ⟨c4, c⟩ := He.ba c
  obtain ⟨c5, c⟩ := He.ba c
  obtain ⟨c6, c⟩ := He.ba c
  obtain ⟨c7, c8⟩ := He.ba c
  exact ⟨He.eqO_ok c1, He.eqO_ok c2, of_decide_eq_true c3, c4, He.eqO_ok c5, He.eqO_ok c6, of_decide_eq_true c7, of_decide_eq_true c8⟩
def tExc (x : Str) : Tst := fun K => excB K (He.ga K x)
/-- except: an error of the class x against the class y -/
def tExm (x y : Str) (b : Bool) : Tst := fun K => decide (PySem.W.exmOne K (.ref (He.ga K x)) (.ref (He.ga K y)) = some b)
/-! ### what a suite asks -/
def tXfX (K : PySem.W.Frag) (a : Addr) (cls : Value) (d : Option Addr) (f : Str) (te : TE) : TE := fun σ H Q => te σ H fun x H1 => x = .ref a ∧ ∃ (C dd : Addr) (fs : List (Str × V)) (v : V), cls = .ref C ∧ XfC K C ∧ PySem.W.findIn K (.ref C) f = some none ∧ d = some dd ∧ H1 dd = some (.xd fs) ∧ fs.lookup f = some v ∧ Q v H1
theorem pe_xfX {X : Cx} {a : Addr} {oe : Obj} {cls : Value} {d : Option Addr} {pn : List (Addr × Obj)} {e : Expr} {te : TE} {pos : Pos} {n : Str} (hz : Zc cls d oe) (hf : ∃ vs, oe.data = .fields vs) (he : PE (X.suite a ((a, oe) :: pn)) e te)
    (hb : attributeBase e n X.env (eval e X.env) = eval e X.env := by rfl) : PE (X.suite a ((a, oe) :: pn)) (.Attribute e n pos) (tXfX X.K a cls d n te) := by
  refine ⟨fun pins s σ H Q I h => ?_⟩
  refine attr_of hb (thn (he.run pins s σ H _ I h) fun u s1 hh => ?_)
  obtain ⟨x, H1, I1, rx, ex, C, dd, fs, v, ec, T, hno, ed, ea, l, q⟩ := hh
  subst ex
  obtain rfl : u = Value.ref a := rx
  subst ec
  subst ed
  obtain ⟨ha, _⟩ := I1.pin (a, oe) (List.mem_append_left _ List.mem_cons_self)
  obtain ⟨vs, hd⟩ := hf
  obtain ⟨mz, ns, rel⟩ : ObjOk X.prog X.w H1 s1.heap dd (.xd fs) := I1.hok dd _ ea
  obtain ⟨od, ho, hl⟩ := lookIn_ns ns
  have rn := rel n
  rw [l] at rn
  obtain ⟨val, ev, rv⟩ := RelO.some_of rn
  have J : PySem.W.InstAt s1.heap a oe C (some od) := ⟨ha, hz.1, by unfold PySem.W.notCls; rw [hd] <;> rfl, by rw [hz.2]; exact ho⟩
  have own := PySem.W.findObj_own T.hdC hno rfl ((hl n).trans (congrArg some ev))
  exact HandSPX.exc_get I1.kIn J T.ga T.gg T.exC own (handed_of rv) ⟨v, H1, I1.tok _, rv, q⟩
/-- isinstance(e, c), e what the suite holds, of the class cls, its dict d -/
def rIsX (K : PySem.W.Frag) (a : Addr) (cls : Value) (d : Option Addr) : List V → Hp → VK → Prop := fun xs H Q => ∃ (D : Addr) (c : V) (cv : Value) (b : Bool), cls = .ref D ∧ ExcC K D ∧ (d = none ∨ ∃ dd fs, d = some dd ∧ H dd = some (.xd fs)) ∧ xs = [.ref a, c] ∧ (∀ u, RelV c u → u = cv) ∧ PySem.W.kitOne K (.ref D) cv = some b ∧ Q (.bl b) H
theorem call_isX {X : Cx} {a : Addr} {cls : Value} {d : Option Addr} {oe : Obj} {pn : List (Addr × Obj)} (hz : Zc cls d oe) (hf : ∃ vs, oe.data = .fields vs) : CallR (X.suite a ((a, oe) :: pn)) (.builtin "isinstance") (rIsX X.K a cls d) := by
  intro pins s σ H xs us Q I r h
  obtain ⟨D, c, cv, b, ec, C, hd, rfl, hcv, e, q⟩ := h
  subst ec
  cases r with
  | cons rx rr =>
    cases rr with
    | cons rt rr =>
      cases rr
      cases rx
      have ec := hcv _ rt
      subst ec
      obtain ⟨hget, _⟩ := I.pin (a, oe) (List.mem_append.mpr (.inl List.mem_cons_self))
      obtain ⟨vs, hv⟩ := hf
      obtain ⟨cdD, hcD, _⟩ := PySem.W.any_some C.hd
      have hcl : (PySem.W.clsIn X.K D).isSome = true := by rw [hcD]; rfl
      obtain ⟨od, J⟩ : ∃ od, PySem.W.InstAt s.heap a oe D od := by
        rcases hd with rfl | ⟨dd, fs, rfl, ea⟩
        · exact ⟨none, hget, hz.1, by unfold PySem.W.notCls; rw [hv] <;> rfl, by rw [hz.2]; trivial⟩
        · have hx : ObjOk X.prog X.w H s.heap dd (.xd fs) := I.hok dd _ ea
          obtain ⟨mA, hns, hr⟩ := hx
          obtain ⟨od, ho, hl⟩ := lookIn_ns hns
          exact ⟨some od, hget, hz.1, by unfold PySem.W.notCls; rw [hv] <;> rfl, by rw [hz.2]; exact ho⟩
      exact PySem.W.kia_one (PySem.W.kitx_exc hcl C.hg C.hk C.hs C.ha C.hn C.ht C.hm) I.kIn J e (fun z => nomatch z) fun tk => ⟨.bl b, H, I.kept (t' := tk) fun _ _ z => z, rfl, q⟩
/-! ### defs that raise -/
section
variable {P : Program} {w : World} {K : Fr} {mg : Str → Option Value} {base : Heap}
/-- as Cal, for a def that may raise (its promise says what) -/
def CalX (P : Program) (w : World) (K : Fr) (mg : Str → Option Value) (base : Heap) (k : Nat) (x : Str) (ad : Addr) (ps : List Str) (sp : Sp) : Prop :=
  ∃ fd : FuncData, FnOk P w K mg base (L2.CX P w) k ad fd ps sp ∧ Binds K fd ps [] ∧ PySem.W.keepIn K (.ref ad) = true ∧ mg x = some (.ref ad)
theorem pe_cx {X : Cx} {k : Nat} {x : Str} {ad : Addr} {ps : List Str} {sp : Sp} {W : WX} {e : Expr} {es : List Expr} {t : TA} {p pos : Pos} (c : CalX X.prog X.w X.K X.mg X.base k x ad ps sp) (tk : Takes X W) (hr : Room k X.A) (ha : PA X (e :: es) t) (hg : Gl X x := by rfl)
    (hdb : (x == ("__debug__" : Str)) = false := by decide) (he : starEach (e :: es) X.env = (false, eval e X.env) :: starEach es X.env := by rfl) (hpl : (backTo pos (starEach es X.env)).any (·.1) = false := by rfl) :
    PE X (.Call (.Name x p) (e :: es) [] pos) (tCallS sp (WE W) t) := by
  obtain ⟨fd, F, b, kp, m⟩ := c
  exact pe_callS F hr hg m kp b (fun σ => passAt tk σ) ha hdb he hpl
abbrev BodyX (P : Program) (w : World) (K : Fr) (mg : Str → Option Value) (base : Heap) (k : Nat) (d : Dx) (N ps : List Str) (sp : Sp) : Prop :=
  ∀ (cdv : Value) (A : Around) (outer : List Env) (s : Shared) (H : Hp) (vs : List V) (Q : VK) (E : XK), Room k (A.deeper (envOfC d.ql (defScope d.st) s.heap.objs.size (d.ad K) cdv)) → sp vs H Q E →
      ∃ t, PSs (cxOf (L2.CX P w) P w K mg base N d.ql (defScope d.st) (d.ad K) cdv A outer s H E) (defBody d.st) t ∧ t { nx := fun _ H' => Q .non H', rt := Q } (start N vs) H
theorem okx_of {k : Nat} {d : Dx} {N ps : List Str} {sp : Sp} {fd : FuncData} (D : DAt K d fd) (S : FnScope N ps (defScope d.st)) (len : ∀ vs H Q E, sp vs H Q E → vs.length = ps.length) (hb : BodyX P w K mg base k d N ps sp) :
    FnOk P w K mg base (L2.CX P w) (k + 1) (d.ad K) fd ps sp := FunD.ok D S len hb
end
end Hk

/-! Exceptions as values: made by a def of their own or without one, positionally or by keywords; their fields; isinstance of them. -/
namespace Hk
open PySem PySem.Spec PyProof.Rows L2
abbrev tlV : List Value := [.type "ValueError", .type "Exception", .type "BaseException", .type "object"]
abbrev tlL : List Value := [.type "LookupError", .type "Exception", .type "BaseException", .type "object"]
abbrev tlR : List Value := [.type "RuntimeError", .type "Exception", .type "BaseException", .type "object"]
abbrev tlA : List Value := [.type "ArithmeticError", .type "Exception", .type "BaseException", .type "object"]
/-- one of four built-in bases -/
structure Bas (B newId initId : String) (bm : List Value) : Prop where
  f : ExcBaseFacts B newId initId bm
  s : StoreFacts B bm "object.__setattr__" "object"
theorem basV : Bas "ValueError" "ValueError.__new__" "ValueError.__init__" tlV := ⟨PySem.F.excBase_ValueError, PySem.F.store_ValueError⟩
theorem basL : Bas "LookupError" "LookupError.__new__" "LookupError.__init__" tlL := ⟨PySem.F.excBase_LookupError, PySem.F.store_LookupError⟩
theorem basR : Bas "RuntimeError" "RuntimeError.__new__" "RuntimeError.__init__" tlR := ⟨PySem.F.excBase_RuntimeError, PySem.F.store_RuntimeError⟩
theorem basA : Bas "ArithmeticError" "ArithmeticError.__new__" "ArithmeticError.__init__" tlA := ⟨PySem.F.excBase_ArithmeticError, PySem.F.store_ArithmeticError⟩
/-- what the written part says of an own exception class -/
structure VeC (K : Fr) (C : Addr) : Prop where
  b : ∃ B newId initId bm, Bas B newId initId bm ∧ PySem.W.excInitIn K C bm newId = true ∧ PySem.W.excOver K C bm = true
  sa : PySem.W.findIn K (.ref C) "__setattr__" = some (some (.builtin "object.__setattr__"))
  kC : PySem.W.keepIn K (.ref C) = true
  x : ExcC K C
def basB (K : Fr) (C : Addr) (bm : List Value) (n : String) : Bool := PySem.W.excInitIn K C bm n && PySem.W.excOver K C bm
def veB (K : Fr) (C : Addr) : Bool := (basB K C tlV "ValueError.__new__" || (basB K C tlL "LookupError.__new__" || (basB K C tlR "RuntimeError.__new__" || basB K C tlA "ArithmeticError.__new__"))) &&
  (He.eqO (PySem.W.findIn K (.ref C) "__setattr__") (some (some (.builtin "object.__setattr__"))) && (PySem.W.keepIn K (.ref C) && excB K C))
theorem veB_ok {K : Fr} {C : Addr} (c : veB K C = true) : VeC K C := by
  obtain ⟨c1, c⟩ := He.ba c
  obtain ⟨c2, c⟩ := He.ba c
  obtain ⟨c3, c4⟩ := He.ba c
  refine ⟨?_, He.eqO_ok c2, c3, excB_ok c4⟩
  rcases Bool.or_eq_true_iff.mp c1 with h | h
  · exact ⟨_, _, _, _, basV, He.ba h⟩
  · rcases Bool.or_eq_true_iff.mp h with h | h
    · exact ⟨_, _, _, _, basL, He.ba h⟩
    · rcases Bool.or_eq_true_iff.mp h with h | h
      · exact ⟨_, _, _, _, basR, He.ba h⟩
      · exact ⟨_, _, _, _, basA, He.ba h⟩
def tVe (x : Str) : Tst := fun K => veB K (He.ga K x)
end Hk
namespace Hk
open PySem PySem.Spec PyProof.Rows L2
/-! ### a class called, with keywords too -/
section
variable {prog : Program} {w : World} {A : Around} {E : Value → Shared → Prop} {R : Result → Shared → Prop} {h : Heap} {g : Array GenState} {d : Drawn} {t : Nat} {os : OsState}
variable {nm q : Str} {C N : Addr} {bs bm bmB : List Value} {hdct : Bool} {sn : List Str} {sub : List Value} {ab : Bool} {col : Option Bool} {dd : Option Addr} {k0 k1 k2 k3 k5 : Option Value} {B newId initId : String}
theorem chk_new (F : ExcBaseFacts B newId initId bmB) (hT : ∀ X : String, bm.contains (.type X) = bmB.contains (.type X)) {rest : List Value} {kw : List (Str × Value)} {Q : Unit → Shared → Prop} {M : Model}
    (hC : h.get? C = some (excClassObj nm q C N bs bm hdct sn sub ab col dd k0 k1 k2 k3 k5 newId)) (hq : Q () ⟨h, g, d, t, os⟩) : wpAny M A (checkBuiltinCall newId ⟨.ref C :: rest, kw⟩) Q E ⟨h, g, d, t, os⟩ := by
  have c1 : (Value.ref C :: bm).contains (.type B) = true := by rw [List.contains_cons, hT, F.hasB, Bool.or_true]
  have c2 := F.noStar
  cases kw with
  | nil => exact HandSPX.check_new_own F hT hC hq
  | cons k r =>
    simp only [checkBuiltinCall, F.newKind, F.newSplit, F.newRow]
    repeat (first | (refine wpAny_loadPart_at hC ?_) | (refine wpAny_isSubtype_exc hC ?_; rw [c1]) | (refine wpAny_staticBase_exc hC ?_) | (refine wpAny_madeBy_exc hC ?_) | (simp only [bne_self_eq_false, Bool.false_eq_true, if_false]) | wp_step)
    exact hq
end
end Hk

namespace Hk
open PySem PySem.Spec PyProof.Rows L2
section
variable {prog : Program} {w : World} {A : Around} {E : Value → Shared → Prop} {R : Result → Shared → Prop} {h : Heap} {g : Array GenState} {d : Drawn} {t : Nat} {os : OsState}
variable {nm q : Str} {C N : Addr} {bs bm bmB : List Value} {hdct : Bool} {sn : List Str} {sub : List Value} {ab : Bool} {col : Option Bool} {dd : Option Addr} {k0 k1 k2 k3 k5 : Option Value} {B newId initId : String}
theorem new_kw (F : ExcBaseFacts B newId initId bmB) (hT : ∀ X : String, bm.contains (.type X) = bmB.contains (.type X)) {rest : List Value} {kw : List (Str × Value)}
    (hC : h.get? C = some (excClassObj nm q C N bs bm hdct sn sub ab col dd k0 k1 k2 k3 k5 newId))
    (hq : R (.ok (.ret (.ref (h.objs.size + 1)))) ⟨(h.push (PySem.W.kdv_tup rest)).push (HandSPX.excO C h.objs.size), g, d, t, os⟩) (hrest : rest.length ≤ sizeLine) :
    codeAny (model prog w) A (.builtin newId ⟨.ref C :: rest, kw⟩) R ⟨h, g, d, t, os⟩ := by
  have e1 := F.ends
  have e2 : (Value.ref C :: bm).contains (.type B) = true := by rw [List.contains_cons, hT, F.hasB, Bool.or_true]
  have e3 : (Value.ref C :: bm).contains (.type "AttributeError") = false := by rw [List.contains_cons, hT, F.noAttr]; rfl
  have e4 : (Value.ref C :: bm).contains (.type "NameError") = false := by rw [List.contains_cons, hT, F.noName]; rfl
  refine codeAny_builtinAt F.entry ?_
  unfold Builtin.«BaseException.__new__»
  refine PySem.wpAt_bind ?_
  show PySem.wpAt _ _ _ (stack >>= _) _ _ _
  refine PySem.wpAt_bind (PySem.wpAt_stack fun p below => PySem.wpAt_of_wpAny ?_)
  wp_walk
  refine PySem.wpAt_of_wpAny ?_
  rw [F.owner]
  repeat (first | (with_reducible refine wpAny_madeHere_exc F.canon hC ?_) | (with_reducible refine wpAny_loadPart_at hC ?_) | (with_reducible refine wpAny_isSubtype_exc hC ?_; first | rw [e2] | rw [e3] | rw [e4]) | wp_step)
  show R _ _
  rw [Heap.size_push]
  exact hq
theorem type_kw (F : ExcBaseFacts B newId initId bmB) (hT : ∀ X : String, bm.contains (.type X) = bmB.contains (.type X)) {rest : List Value} {kw : List (Str × Value)} {fI : Addr} {Q : Fin → Shared → Prop}
    (hC : h.get? C = some (excClassObj nm q C N bs bm hdct sn sub ab col dd k0 k1 k2 k3 k5 newId))
    (hi : PySem.W.Looks (model prog w) h (typeLookup (.ref C) "__init__") (some (.ref fI))) (hb : ∀ self, PySem.W.Looks (model prog w) h (bindSpecial (.ref fI) self) (.ref fI, [self])) (hrest : rest.length ≤ sizeLine)
    (hq : codeAny (model prog w) A (.call (.ref fI) ⟨.ref (h.objs.size + 1) :: rest, kw⟩)
      (fun r s' => match r with | .ok (.ret v) => v = .none ∧ Q (.done (.ret (.ref (h.objs.size + 1)))) s' | .ok _ => False | .error e => E e s')
      ⟨(h.push (PySem.W.kdv_tup rest)).push (HandSPX.excO C h.objs.size), g, d, t, os⟩) :
    wpAny (model prog w) A (Builtin.«type.__call__» ⟨.ref C :: rest, kw⟩) Q E ⟨h, g, d, t, os⟩ := by
  repeat (first | (with_reducible refine wpAny_loadPart_at hC ?_) | (with_reducible refine wpAny_madeBy_exc hC ?_) | wp_step)
  refine codeAny_call_builtin_code (Code.quiet_builtin _ F.quiet) (chk_new F hT hC ?_)
  refine new_kw F hT hC ?_ hrest
  show wpAny _ _ _ _ _ _
  have kk : ∀ b o, h.get? b = some o → ((h.push (PySem.W.kdv_tup rest)).push (HandSPX.excO C h.objs.size)).get? b = some o := fun b o e => Heap.get?_push_of_some _ (Heap.get?_push_of_some _ e)
  have hC2 := kk _ _ hC
  have hg2 : ((h.push (PySem.W.kdv_tup rest)).push (HandSPX.excO C h.objs.size)).get? (h.objs.size + 1) = some (HandSPX.excO C h.objs.size) := by heap_get
  have hcc : (Value.ref C :: bm).contains (.ref C) = true := by simp
  have i1 := hi.keeps kk
  have b1 := (hb (.ref (h.objs.size + 1))).keeps kk
  unfold isInstance
  repeat (first | (with_reducible refine wpAny_loadPart_at hg2 ?_) | (with_reducible refine wpAny_isSubtype_exc hC2 ?_; rw [hcc]) | wp_step)
  show wpAny _ _ (typeLookup (.ref C) _) _ _ _
  refine i1.at ?_
  refine wpAny_holding (wpAny_bind (b1.at ?_))
  refine wpAny_bind (wpAny_call (codeAny_mono hq fun r s' z => ?_))
  rcases r with e | (v | _ | _ | _) <;> first | exact z | exact z.elim | skip
  obtain ⟨rfl, z⟩ := z
  first
    | exact wpAny_pure (wpAny_pure z)
    | (wp_walk; exact z)
theorem chk_tc {M : Model} {rest : List Value} {kw : List (Str × Value)} {Q : Unit → Shared → Prop} (hC : h.get? C = some (excClassObj nm q C N bs bm hdct sn sub ab col dd k0 k1 k2 k3 k5 newId))
    (hq : Q () ⟨h, g, d, t, os⟩) : wpAny M A (checkBuiltinCall "type.__call__" ⟨.ref C :: rest, kw⟩) Q E ⟨h, g, d, t, os⟩ := by
  cases kw with
  | nil => exact wpAny_check_type_call_sub hC hq
  | cons k r =>
    have f3 := tc_sub
    have hT : (⟨h, g, d, t, os⟩ : Shared).TypeIs (.ref C) "type" := ⟨_, hC, rfl⟩
    simp only [checkBuiltinCall, tc_kind, tc_split]
    repeat (any_goals (first | assumption | (with_reducible refine wpAny_loadPart_at hC ?_) | (with_reducible refine wpAny_onRaise ?_) | (with_reducible refine wpAny_map ?_) | wp_step))
theorem call_kw (F : ExcBaseFacts B newId initId bmB) (hT : ∀ X : String, bm.contains (.type X) = bmB.contains (.type X)) {rest : List Value} {kw : List (Str × Value)} {fI : Addr}
    (hC : h.get? C = some (excClassObj nm q C N bs bm hdct sn sub ab col dd k0 k1 k2 k3 k5 newId))
    (hi : PySem.W.Looks (model prog w) h (typeLookup (.ref C) "__init__") (some (.ref fI))) (hb : ∀ self, PySem.W.Looks (model prog w) h (bindSpecial (.ref fI) self) (.ref fI, [self])) (hrest : rest.length ≤ sizeLine)
    (hq : codeAny (model prog w) (A.under (.builtin "type.__call__" ⟨.ref C :: rest, kw⟩)) (.call (.ref fI) ⟨.ref (h.objs.size + 1) :: rest, kw⟩) (PySem.W.InitBack (h.objs.size + 1) R)
      ⟨(h.push (PySem.W.kdv_tup rest)).push (HandSPX.excO C h.objs.size), g, d, t, os⟩) :
    codeAny (model prog w) A (.call (.ref C) ⟨rest, kw⟩) R ⟨h, g, d, t, os⟩ := by
  have f1 := tc_lookup
  have f2 := tc_bind (.ref C)
  have hTy : (⟨h, g, d, t, os⟩ : Shared).TypeIs (.ref C) "type" := ⟨_, hC, rfl⟩
  refine codeAny_of_tree ?_
  show wpAny _ _ (callAny (.ref C) _) _ _ _
  repeat (any_goals (first | assumption | (with_reducible refine wpAny_loadPart_at hC ?_) | wp_step))
  refine ⟨rfl, ?_⟩
  refine codeAny_call_builtin_at (Code.quiet_builtin _ (by decide +kernel)) entry_typeCall (chk_tc hC (type_kw F hT hC hi hb hrest ?_))
  refine codeAny_mono hq fun r s' z => ?_
  rcases r with e | (v | _ | _ | _) <;> exact z
end
end Hk

namespace Hk
open PySem PySem.Spec PyProof.Rows L2
/-! ### self.f = y in __init__ -/
section
open PySem.Builtin PySem.Builtin.ObjectAttr
variable {prog : Program} {w : World} {A : Around} {E : Value → Shared → Prop} {R : Result → Shared → Prop} {hp : Heap} {g : Array GenState} {d : Drawn} {t : Nat} {os : OsState} {K : Fr}
theorem osa_first {name : Str} {tk : Tok} {v : Value} {x C : Addr} {fv : Array Value} (T : VeC K C)
    (Y : K.In hp) (hx : hp.get? x = some { cls := .ref C, data := .fields fv }) (ha : PySem.W.findIn K (.ref C) name = some none)
    (hq : ∀ h' tk' dx, (∀ b o, b ≠ x → hp.get? b = some o → h'.get? b = some o) → hp.objs.size ≤ dx → dx ≠ x → h'.get? x = some { cls := .ref C, dict := some dx, data := .fields fv } →
      h'.Ns1 dx (fun y => if y = name then some v else none) → R (.ok (.ret .none)) ⟨h', g, d, tk', os⟩) :
    codeAny (model prog w) A (.call (.builtin "object.__setattr__") ⟨[.ref x, .str name tk, v], []⟩) R ⟨hp, g, d, t, os⟩ := by
  obtain ⟨B, newId, initId, bm, b, _, ov⟩ := T.b
  have I : PySem.W.InstAt hp x { cls := .ref C, data := .fields fv } C none := ⟨hx, rfl, rfl, trivial⟩
  have hxs : x ≠ hp.objs.size := Nat.ne_of_lt (Heap.lt_size hx)
  refine PySem.W.osa_openX (s := ⟨hp, g, d, t, os⟩) (r := none) b.s Y I ov (by unfold PySem.W.takerIn; rw [ha]; rfl) fun bb => ?_
  show wpAny _ _ (storeInOwnDict (.ref x) (.ref C) (.str name tk) name v bb) _ _ _
  obtain ⟨cd, hcd, hh⟩ := PySem.W.any_some T.x.hd
  have hcls : PySem.W.Looks (model prog w) hp (classData C) cd := PySem.W.looks_clsIn Y hcd
  obtain ⟨nm, bs, mro, ns, qn, hd, sn, sb, ab, col, del⟩ := cd
  dsimp only at hh
  subst hh
  unfold storeInOwnDict ownDictForStores
  repeat (first | (with_reducible refine HandSPX.store_in_new ?_ ?_) | (with_reducible refine wpAny_loadPart_at hx ?_) | (with_reducible refine hcls.at ?_) | wp_step)
  · exact ⟨_, #[], _, (Heap.get?_update_ne _ _ _ _ hxs.symm).trans (Heap.get?_push_at rfl rfl), rfl, fun e he => absurd he (by simp), fun _ => rfl⟩
  · intro h' tk' hn' hs
    have hx1 : (hp.push { cls := .type "dict", data := .dict #[] }).get? x = some { cls := .ref C, data := .fields fv } := Heap.get?_push_of_some _ hx
    refine hq h' tk' hp.objs.size (fun b o hb ho => ?_) (Nat.le_refl _) hxs.symm ?_ hn'
    · exact (hs.2 b (Nat.ne_of_lt (Heap.lt_size ho))).trans ((Heap.get?_update_ne _ _ _ _ hb).trans (Heap.get?_push_of_some _ ho))
    · exact (hs.2 x hxs).trans (Heap.get?_update_self _ hx1 rfl)
theorem osa_more {name : Str} {tk : Tok} {v : Value} {m0 : Str → Option Value} {ns : List Str} {x C dx : Addr} {fv : Array Value} (T : VeC K C)
    (Y : K.In hp) (hx : hp.get? x = some { cls := .ref C, dict := some dx, data := .fields fv }) (hns : hp.Ns1 dx m0) (hw : Within m0 ns) (hz : ns.length ≤ 1000) (ha : PySem.W.findIn K (.ref C) name = some none)
    (hq : ∀ h' tk', (∀ b o, b ≠ dx → hp.get? b = some o → h'.get? b = some o) → h'.Ns1 dx (fun y => if y = name then some v else m0 y) → R (.ok (.ret .none)) ⟨h', g, d, tk', os⟩) :
    codeAny (model prog w) A (.call (.builtin "object.__setattr__") ⟨[.ref x, .str name tk, v], []⟩) R ⟨hp, g, d, t, os⟩ := by
  obtain ⟨B, newId, initId, bm, b, _, ov⟩ := T.b
  obtain ⟨oD, esD, epD, hoD, hdD, _⟩ := hns.count hw
  have I : PySem.W.InstAt hp x { cls := .ref C, dict := some dx, data := .fields fv } C (some oD) := ⟨hx, rfl, rfl, hoD⟩
  refine PySem.W.osa_openX (s := ⟨hp, g, d, t, os⟩) (r := none) b.s Y I ov (by unfold PySem.W.takerIn; rw [ha]; rfl) fun bb => ?_
  show wpAny _ _ (storeInOwnDict (.ref x) (.ref C) (.str name tk) name v bb) _ _ _
  obtain ⟨cd, hcd, hh⟩ := PySem.W.any_some T.x.hd
  have hcls : PySem.W.Looks (model prog w) hp (classData C) cd := PySem.W.looks_clsIn Y hcd
  obtain ⟨nm, bs, mro, nn, qn, hd, sn, sb, ab, col, del⟩ := cd
  dsimp only at hh
  subst hh
  unfold storeInOwnDict ownDictForStores
  repeat (first | (with_reducible refine PySem.OEX.store_in_old hns hw hz ?_) | (with_reducible refine wpAny_loadPart_at hx ?_) | (with_reducible refine hcls.at ?_) | wp_step)
  intro h' tk' hn' hs
  exact hq h' tk' (fun b o hb ho => (hs.2 b hb).trans ho) hn'
end
section
variable {X : Cx} {pins : List (Addr × Obj)} {σ : L2.St} {H : Hp} {s : Shared} {a C dx : Addr} {f : Str} {y : V} {u : Value} {fs : List (Str × V)} {Q : Unit → Shared → Prop} {E : Value → Shared → Prop} {A : Around}
theorem vst_new (T : VeC X.K C) (I : Inv X pins σ H s) (e : H a = some (exo a C none)) (hno : PySem.W.findIn X.K (.ref C) f = some none) (ry : RelV y u)
    (h : ∀ dx s', H dx = none → dx ≠ a → Inv X pins σ (upd (upd H dx (exd dx [(f, y)])) a (exo a C (some dx))) s' → Q () s') : wpAny (model X.prog X.w) A (setAttr (.ref a) f u) Q E s := by
  obtain ⟨t1, ho⟩ := exo_at I.hok e
  obtain ⟨hp, g, d, t, os⟩ := s
  refine PySem.W.set_plain I.kIn (ox := { cls := .ref C, dict := none, data := .fields #[.ref t1, .none, .none, .none, .bool false, .none] }) (od := none) ⟨ho, rfl, rfl, trivial⟩ T.sa ?_
  refine osa_first T I.kIn ho hno (fun h' tk' dx k dn dne hx hn => ?_)
  have hnd : H dx = none := I.hok.fresh dn
  have nd : ∀ {b : Addr} {o : Obj}, hp.get? b = some o → b ≠ dx := fun {b o} q => Nat.ne_of_lt (Nat.lt_of_lt_of_le (Heap.lt_size q) dn)
  have na : ∀ {b : Addr}, H b = none → b ≠ a := fun {b} n z => by
    rw [z, e] at n
    exact nomatch n
  have U : Un X.fs [] H (upd (upd H dx (exd dx [(f, y)])) a (exo a C (some dx))) hp h' := by
    refine ⟨fun b o q n _ _ => k b o (na n) q, fun b o q n _ _ => ⟨o.slots, k b o (na n) q⟩, fun b o q n _ => ?_, fun b o q _ => ?_, fun b xs q => ?_, fun b o v q => ?_, fun b ps q => ⟨#[], ?_⟩⟩
    · rw [upd_ne (na n), upd_ne (nd q)]
      exact n
    · by_cases hb : b = a
      · exact ⟨_, by rw [hb]; exact hx⟩
      · exact ⟨o, k b o hb q⟩
    · rw [upd_ne (at_ne e q exo_tup), upd_ne (ne_of_none q hnd)]
      exact q
    · rw [upd_ne (at_ne e q exo_frz), upd_ne (ne_of_none q hnd)]
      exact q
    · rw [upd_ne (at_ne e q exo_tbl), upd_ne (ne_of_none q hnd), q]
      simp
  refine h dx _ hnd dne (I.un (t' := tk') U fun b o q => ?_)
  by_cases hb : b = a
  · subst hb
    rw [upd_same] at q
    cases q
    exact exo_ok hx
  · rw [upd_ne hb] at q
    by_cases hd : b = dx
    · subst hd
      rw [upd_same] at q
      cases q
      exact exd_ok hn (relO_put (fs := []) ry fun g => True.intro)
    · rw [upd_ne hd] at q
      refine (I.hok b o q).stay (fun c v hc z => k c v ?_ z) (fun c hc => ?_) fun c xs hc => ?_
      · rcases hc with hc | hc
        · rw [hc]
          exact hb
        · exact at_ne e hc exo_own
      · rw [upd_ne (at_ne e hc exo_own), upd_ne (ne_of_none hc hnd)]
        exact hc
      · rw [upd_ne (at_ne e hc exo_tup), upd_ne (ne_of_none hc hnd)]
        exact hc
theorem vst_old (T : VeC X.K C) (I : Inv X pins σ H s) (e : H a = some (exo a C (some dx))) (ed : H dx = some (exd dx fs)) (hl : fs.length ≤ 900) (hno : PySem.W.findIn X.K (.ref C) f = some none) (ry : RelV y u)
    (h : ∀ s', Inv X pins σ (upd H dx (exd dx ((f, y) :: fs))) s' → Q () s') : wpAny (model X.prog X.w) A (setAttr (.ref a) f u) Q E s := by
  obtain ⟨t1, ho⟩ := exo_at I.hok e
  obtain ⟨mA, hns, rel⟩ := exd_at I.hok ed
  have hw := within_of rel
  obtain ⟨hp, g, d, t, os⟩ := s
  obtain ⟨oD, _, _, hoD, _, _⟩ := hns.count hw
  refine PySem.W.set_plain I.kIn (ox := { cls := .ref C, dict := some dx, data := .fields #[.ref t1, .none, .none, .none, .bool false, .none] }) (od := some oD) ⟨ho, rfl, rfl, hoD⟩ T.sa ?_
  refine osa_more T I.kIn ho hns hw (by rw [List.length_map]; omega) hno (fun h' tk' k hn => ?_)
  have hd : ∃ o, h'.get? dx = some o := by
    obtain ⟨o, _, _, e', _⟩ := hn
    exact ⟨o, e'⟩
  exact h _ (I.write (t' := tk') (x := dx) (e := dx) (o := exd dx ((f, y) :: fs)) (by rw [ed]; exact True.intro) (.inl rfl) k hd (exd_ok hn (relO_put ry rel)))
end
/-- self.f = e -/
def tVst (K : Fr) (f : Str) (to te : TE) : TS := fun D σ H => te σ H fun y H1 => to σ H1 fun x H2 => ∃ a C : Addr, x = .ref a ∧ VeC K C ∧ PySem.W.findIn K (.ref C) f = some none ∧
  ((H2 a = some (exo a C none) ∧ ∀ dx, H2 dx = none → dx ≠ a → D.nx σ (upd (upd H2 dx (exd dx [(f, y)])) a (exo a C (some dx)))) ∨
    ∃ (dx : Addr) (fs : List (Str × V)), H2 a = some (exo a C (some dx)) ∧ H2 dx = some (exd dx fs) ∧ fs.length ≤ 900 ∧ D.nx σ (upd H2 dx (exd dx ((f, y) :: fs))))
section
variable {X : Cx} {o e : Expr} {to te : TE} {f : Str} {p' pos : Pos}
theorem ps_vst (ho : PE X o to) (he : PE X e te) (hs : swapsWith e (some (.Attribute o f p')) pos.line X.env = pure false := by rfl) : PS X (.Assign [.Attribute o f p'] e pos) (tVst X.K f to te) := by
  refine ⟨fun pins s σ H D I h => ?_⟩
  refine plainObj_wpAny_Assign_Attribute (thn (he.run pins s σ H _ I h) fun v s1 ⟨y, H1, I1, r1, q1⟩ => thn (ho.run pins s1 σ H1 _ I1 q1) fun u s2 ⟨x, H2, I2, r2, a, C, ex, T, hno, q⟩ => ?_) hs
  subst ex
  obtain rfl : u = Value.ref a := r2
  rcases q with ⟨ea, q⟩ | ⟨dx, fs, ea, ed, hl, q⟩
  · exact vst_new T I2 ea hno r1 fun dx s' n ne J => ⟨σ, _, J, q dx n ne⟩
  · exact vst_old T I2 ea ed hl hno r1 fun s' J => ⟨σ, _, J, q⟩
end
end Hk

namespace Hk
open PySem PySem.Spec PyProof.Rows L2
/-- an exception of the class C with these fields stands at a -/
def VeAt (H : Hp) (a C : Addr) (fs : List (Str × V)) : Prop := ∃ d, H a = some (exo a C (some d)) ∧ H d = some (exd d fs)
/-- one without fields -/
def VeBare (H : Hp) (a C : Addr) : Prop := H a = some (ExO (.ref C) a)
theorem VeAt.same {H H' : Hp} {a C : Addr} {fs : List (Str × V)} (v : VeAt H a C fs) (s : Same H H') : VeAt H' a C fs := by
  obtain ⟨d, h1, h2⟩ := v
  exact ⟨d, s _ _ h1, s _ _ h2⟩
section
variable {X : Cx} {k : Nat} {C fI : Addr} {fd : FuncData} {ps ks : List Str} {sp : Sp}
/-- the class called: a new object, then its __init__ -/
theorem run_ve {pins : List (Addr × Obj)} {σ : L2.St} {H : Hp} {s : Shared} {Q : VK} {us ws : List Value} {vl : Addr → List V} {al : Addr → List Value} (T : VeC X.K C) (iC : PySem.W.findIn X.K (.ref C) "__init__" = some (some (.ref fI))) (tI : PySem.W.typeIn X.K (.ref fI) = some (.type "function"))
    (F : FnOk X.prog X.w X.K X.mg X.base CX0 k fI fd ps sp) (hr : Room (k + 1) X.A) (I : Inv X pins σ H s) (hl : us.length ≤ sizeLine)
    (hb : ∀ (s' : Shared) (a : Addr), X.K.In s'.heap → BindsTo s' fd ⟨.ref a :: us, ks.zip ws⟩ (ps.zip (al a))) (hv : ∀ a, Vals (vl a) (al a))
    (h : ∀ a, H a = none → sp (vl a) (upd H a (exo a C none)) (fun v H2 => v = .non ∧ Q (.ref a) H2) E0) :
    wpAny (model X.prog X.w) X.A (call (.ref C) us (ks.zip ws)) (EP X pins σ Q) X.xe s := by
  obtain ⟨B, newId, initId, bmB, b, ei, _⟩ := T.b
  obtain ⟨nm, N, q, bs, bm, hdct, sn, sub, ab, col, dd, k0, k1, k2, k3, k5, hC, hT⟩ := PySem.W.excInit_of I.kIn ei
  obtain ⟨hp, g, dr, tk, os⟩ := s
  have hsz : hp.objs.size ≤ hp.objs.size + 1 := Nat.le_succ _
  have hn : H (hp.objs.size + 1) = none := I.hok.fresh hsz
  have hq := h (hp.objs.size + 1) hn
  have kk : ∀ b o, hp.get? b = some o → ((hp.push (PySem.W.kdv_tup us)).push (HandSPX.excO C hp.objs.size)).get? b = some o := fun b o e => Heap.get?_push_of_some _ (Heap.get?_push_of_some _ e)
  have hget : ((hp.push (PySem.W.kdv_tup us)).push (HandSPX.excO C hp.objs.size)).get? (hp.objs.size + 1) = some (HandSPX.excO C hp.objs.size) := by heap_get
  have I2 : Inv X pins σ (upd H (hp.objs.size + 1) (exo (hp.objs.size + 1) C none)) ⟨(hp.push (PySem.W.kdv_tup us)).push (HandSPX.excO C hp.objs.size), g, dr, tk, os⟩ :=
    I.laid (t' := tk) (a := hp.objs.size + 1) (o := exo (hp.objs.size + 1) C none) (h' := (hp.push (PySem.W.kdv_tup us)).push (HandSPX.excO C hp.objs.size)) kk hsz (exo_ok hget)
  refine wpAny_call (call_kw b.f hT hC (PySem.W.looks_findIn I.kIn iC) (fun self => PySem.W.bind_fn I.kIn self tI) hl
    (codeAny_mono (F.run _ X.stack _ _ ⟨Value.ref (hp.objs.size + 1) :: us, ks.zip ws⟩ (al (hp.objs.size + 1)) (vl (hp.objs.size + 1)) _ E0 (hr.make C us (ks.zip ws)) (I2.env0.make C us (ks.zip ws)) (hb _ _ I2.kIn) (hv _) hq) fun r s' hq' => ?_))
  cases r with
  | error er => exact (show False from hq').elim
  | ok fl =>
    cases fl with
    | ret u =>
      obtain ⟨v, H', I3, rv, ev, q3⟩ := I2.after hq'
      subst ev
      exact ⟨rv, V.ref (hp.objs.size + 1), H', I3, rfl, q3⟩
    | _ => exact (show False from hq').elim
/-- C(e, ..) -/
def tVe1 (C : Addr) (sp : Sp) (t : TA) : TE := fun σ H Q => t σ H fun vs H1 => vs.length ≤ 1000 ∧ ∀ a, H1 a = none → sp (.ref a :: vs) (upd H1 a (exo a C none)) (fun v H2 => v = .non ∧ Q (.ref a) H2) E0
theorem len_line {us : List Value} {vs : List V} (r : Vals vs us) (h : vs.length ≤ 1000) : us.length ≤ sizeLine := by
  rw [← r.length]
  exact Nat.le_trans h (by decide)
theorem pe_ve {x : Str} {e : Expr} {es : List Expr} {t : TA} {p pos : Pos} (T : VeC X.K C) (iC : PySem.W.findIn X.K (.ref C) "__init__" = some (some (.ref fI))) (tI : PySem.W.typeIn X.K (.ref fI) = some (.type "function"))
    (F : FnOk X.prog X.w X.K X.mg X.base CX0 k fI fd ps sp) (hr : Room (k + 1) X.A) (hm : X.mg x = some (.ref C)) (hb : Binds X.K fd ps []) (ha : PA X (e :: es) t) (hg : Gl X x := by rfl)
    (hdb : (x == ("__debug__" : Str)) = false := by decide) (he : starEach (e :: es) X.env = (false, eval e X.env) :: starEach es X.env := by rfl) (hpl : (backTo pos (starEach es X.env)).any (·.1) = false := by rfl) :
    PE X (.Call (.Name x p) (e :: es) [] pos) (tVe1 C sp t) := by
  refine ⟨fun pins s σ H Q I h => wpAny_Call_Name_kw (ld_glob I hg hm ?_ hdb)⟩
  refine PySem.W.callWith_K (h₀ := X.base) I.ok.mod.kin T.kC (thn (ha.run pos pins s σ H _ I h) fun us s1 hu => ?_) he hpl
  obtain ⟨vs, H1, J, r, hl, q⟩ := hu
  have fr : ∃ a, H1 a = none := ⟨_, J.hok.fresh (Nat.le_refl _)⟩
  obtain ⟨a0, n0⟩ := fr
  have ln : us.length + 1 = ps.length := by
    have e1 := F.len _ _ _ _ (q a0 n0)
    rw [List.length_cons, r.length] at e1
    exact e1
  refine ⟨J.kIn, run_ve (ks := []) (ws := []) (vl := fun a => .ref a :: vs) (al := fun a => .ref a :: us) T iC tI F hr J (len_line r hl) (fun s' a Y => ?_) (fun a => .cons rfl r) q⟩
  have := hb s' (.ref a :: us) Y (by rw [List.append_nil, List.length_cons]; exact ln)
  rwa [List.append_nil] at this
/-- C(k = e, ..): how the keywords come to the parameters -/
def tVeK (C : Addr) (sp : Sp) (gV : List V → List V) (tk : TA) : TE := fun σ H Q => tk σ H fun zs H1 => ∀ a, H1 a = none → sp (.ref a :: gV zs) (upd H1 a (exo a C none)) (fun v H2 => v = .non ∧ Q (.ref a) H2) E0
theorem pe_veK {x : Str} {kws : List Keyword} {tk : TA} {p pos : Pos} {g : List Value → List Value} {gV : List V → List V} (T : VeC X.K C) (iC : PySem.W.findIn X.K (.ref C) "__init__" = some (some (.ref fI))) (tI : PySem.W.typeIn X.K (.ref fI) = some (.type "function"))
    (F : FnOk X.prog X.w X.K X.mg X.base CX0 k fI fd ps sp) (hr : Room (k + 1) X.A) (hm : X.mg x = some (.ref C)) (hb : ∀ (s' : Shared) (a : Addr) (ws : List Value), X.K.In s'.heap → ws.length = ks.length → BindsTo s' fd ⟨[.ref a], ks.zip ws⟩ (ps.zip (.ref a :: g ws)))
    (hgv : ∀ {zs : List V} {ws : List Value}, Vals zs ws → Vals (gV zs) (g ws)) (hlk : ∀ (σ : L2.St) (H : Hp) (Q : List V → Hp → Prop), tk σ H Q → tk σ H fun zs H1 => zs.length = ks.length ∧ Q zs H1) (hk : PK X kws tk) (hg : Gl X x := by rfl)
    (hall : (backToKw pos (keywordEach kws X.env)).all (·.1.isSome) = true := by rfl) (hks : (backToKw pos (keywordEach kws X.env)).filterMap (·.1) = ks := by rfl) (hdb : (x == ("__debug__" : Str)) = false := by decide)
    (hpl : ((backTo pos (starEach [] X.env)).any (·.1) || (backToKw pos (keywordEach kws X.env)).any (·.1.isNone)) = false := by rfl) : PE X (.Call (.Name x p) [] kws pos) (tVeK C sp gV tk) := by
  refine ⟨fun pins s σ H Q I h => wpAny_Call_Name_kw (ld_glob I hg hm ?_ hdb)⟩
  refine PySem.W.callWith_KW0 (h₀ := X.base) I.ok.mod.kin T.kC hall (thn (hk.run pos pins s σ H _ I (hlk _ _ _ h)) fun ws s2 hu => ?_) hpl
  obtain ⟨zs, H2, J, rz, ln, q⟩ := hu
  refine ⟨J.kIn, ?_⟩
  rw [hks]
  exact run_ve (us := []) (vl := fun a => .ref a :: gV zs) (al := fun a => .ref a :: g ws) T iC tI F hr J (Nat.zero_le _) (fun s' a Y => hb s' a ws Y (rz.length.symm.trans ln)) (fun a => .cons rfl (hgv rz)) q
/-- C() of a class without an __init__ of its own -/
theorem pe_ve0 {bmB : List Value} {B newId initId : String} {x : Str} {p pos : Pos} (F : ExcBaseFacts B newId initId bmB) (q : PySem.W.excIn X.K C bmB newId = true) (gC : X.mg x = some (.ref C)) (kC : PySem.W.keepIn X.K (.ref C) = true) (hg : Gl X x := by rfl)
    (hdb : (x == ("__debug__" : Str)) = false := by decide) : PE X (.Call (.Name x p) [] [] pos) (fun σ H Q => ∀ a, H a = none → Q (.ref a) (upd H a (ExO (.ref C) a))) := by
  refine ⟨fun pins s σ H Q I h => wpAny_Call_Name_kw (ld_glob I hg gC ?_ hdb)⟩
  refine PySem.W.callWith_K0 I.kIn kC ?_
  obtain ⟨bm, N, nm, qn, bs, hdct, sn, sub, ab, col, dd, k0, k1, k2, k3, k5, mN, hC, hN, hni, T⟩ := exc_obj I.kIn q
  refine wpAny_call_exc_subT F T hC hN hni (fun h' a hm => ?_) (Nat.zero_le _)
  have hn : H a = none := I.hok.gone hm.new
  obtain ⟨t, ht, _, _⟩ := hm.there
  exact ⟨.ref a, upd H a (ExO (.ref C) a), I.laidN hm.keeps hm.new hn (exO_ok ht ⟨rfl, rfl⟩ rfl rfl rfl (show 4 < 6 by decide)), rfl, h a hn⟩
/-- e.n -/
def tVeF (K : Fr) (n : Str) (te : TE) : TE := fun σ H Q => te σ H fun x H1 => ∃ (a C : Addr) (fs : List (Str × V)) (v : V), x = .ref a ∧ VeAt H1 a C fs ∧ ExcC K C ∧ PySem.W.findIn K (.ref C) n = some none ∧ fs.lookup n = some v ∧ Q v H1
theorem pe_veF {e : Expr} {te : TE} {pos : Pos} {n : Str} (he : PE X e te) (hb : attributeBase e n X.env (eval e X.env) = eval e X.env := by rfl) : PE X (.Attribute e n pos) (tVeF X.K n te) := by
  refine ⟨fun pins s σ H Q I h => ?_⟩
  refine attr_of hb (thn (he.run pins s σ H _ I h) fun u s1 hh => ?_)
  obtain ⟨x, H1, I1, rx, a, C, fs, v, ex, ⟨d, ea, ed⟩, T, hno, l, q⟩ := hh
  subst ex
  obtain rfl : u = Value.ref a := rx
  obtain ⟨t1, ho⟩ := exo_at I1.hok ea
  obtain ⟨mz, ns, rel⟩ := exd_at I1.hok ed
  obtain ⟨od, hod, hl⟩ := lookIn_ns ns
  have rn := rel n
  rw [l] at rn
  obtain ⟨val, ev, rv⟩ := RelO.some_of rn
  have J : PySem.W.InstAt s1.heap a { cls := .ref C, dict := some d, data := .fields #[.ref t1, .none, .none, .none, .bool false, .none] } C (some od) := ⟨ho, rfl, rfl, hod⟩
  exact HandSPX.exc_get I1.kIn J T.hg T.hk T.hs (PySem.W.findObj_own T.hd hno rfl ((hl n).trans (congrArg some ev))) (handed_of rv) ⟨v, H1, I1.tok _, rv, q⟩
/-- isinstance(e, c) -/
def rIsV (K : Fr) : List V → Hp → VK → Prop := fun xs H Q => ∃ (a D : Addr) (c : V) (cv : Value) (b : Bool), xs = [.ref a, c] ∧ ((∃ fs, VeAt H a D fs) ∨ VeBare H a D) ∧ ExcC K D ∧ ClsV c cv ∧ PySem.W.kitOne K (.ref D) cv = some b ∧ Q (.bl b) H
theorem call_isV : CallR X (.builtin "isinstance") (rIsV X.K) := by
  intro pins s σ H xs us Q I r h
  obtain ⟨a, D, c, cv, b, rfl, hv, C, hcv, e, q⟩ := h
  obtain ⟨u1, u2, rfl, r1, r2⟩ := vals2 r
  have ec := hcv.eq r2
  subst ec
  cases (show u1 = Value.ref a from r1)
  obtain ⟨cdD, hcD, _⟩ := PySem.W.any_some C.hd
  have hcl : (PySem.W.clsIn X.K D).isSome = true := by rw [hcD]; rfl
  have fin : ∀ {ox : Obj} {od : Option Obj}, PySem.W.InstAt s.heap a ox D od → wpAny (model X.prog X.w) X.A (call (.builtin "isinstance") [.ref a, u2]) (EP X pins σ Q) X.xe s := fun {ox od} J =>
    PySem.W.kia_one (PySem.W.kitx_exc hcl C.hg C.hk C.hs C.ha C.hn C.ht C.hm) I.kIn J e (fun z => nomatch z) fun tk => ⟨.bl b, H, I.kept (t' := tk) fun _ _ z => z, rfl, q⟩
  rcases hv with ⟨fs, d, ea, ed⟩ | ea
  · obtain ⟨t1, ho⟩ := exo_at I.hok ea
    obtain ⟨mz, ns, rel⟩ := exd_at I.hok ed
    obtain ⟨od, hod, hl⟩ := lookIn_ns ns
    exact fin (ox := { cls := .ref D, dict := some d, data := .fields #[.ref t1, .none, .none, .none, .bool false, .none] }) (od := some od) ⟨ho, rfl, rfl, hod⟩
  · obtain ⟨⟨oe, vs, ho, hz, hd, _⟩, _, _⟩ := I.hok a _ ea
    refine fin (ox := oe) (od := none) ⟨ho, hz.1, ?_, by rw [hz.2]; trivial⟩
    unfold PySem.W.notCls
    rw [hd] <;> rfl
end
/-- an __init__ that stores its one argument -/
def spSet (C : Addr) (f : Str) : Sp := fun vs H Q _ => ∃ (a : Addr) (y : V), vs = [.ref a, y] ∧ H a = some (exo a C none) ∧ ∀ dx, H dx = none → dx ≠ a → Q .non (upd (upd H dx (exd dx [(f, y)])) a (exo a C (some dx)))
end Hk

namespace Hk
open PySem PySem.Spec PyProof.Rows L2
/-! ### of which classes an error is -/
def ownBs : List (Str × Nat) := [("InputError", 0), ("NetError", 1), ("StateError", 2), ("LimitError", 3)]
def pyBs : List (String × Nat) := [("ValueError", 0), ("LookupError", 1), ("RuntimeError", 2), ("ArithmeticError", 3)]
def kits (K : Fr) (C : Addr) (i : Nat) : Bool := (ownBs.all fun p => decide (PySem.W.kitOne K (.ref C) (.ref (He.ga K p.1)) = some (decide (p.2 = i)))) && (pyBs.all fun p => decide (PySem.W.kitOne K (.ref C) (.type p.1) = some (decide (p.2 = i))))
structure RowC (K : Fr) (D : Addr) (i : Nat) : Prop where
  x : ExcC K D
  o : ∀ p ∈ ownBs, PySem.W.kitOne K (.ref D) (.ref (He.ga K p.1)) = some (decide (p.2 = i))
  b : ∀ p ∈ pyBs, PySem.W.kitOne K (.ref D) (.type p.1) = some (decide (p.2 = i))
theorem kits_ok {K : Fr} {C : Addr} {i : Nat} (x : ExcC K C) (c : kits K C i = true) : RowC K C i := by
  obtain ⟨c1, c2⟩ := He.ba c
  exact ⟨x, fun p hp => of_decide_eq_true (List.all_eq_true.mp c1 p hp), fun p hp => of_decide_eq_true (List.all_eq_true.mp c2 p hp)⟩
/-- a class with fields over the base i: its facts; all its fields have no class attribute -/
def tEc (x : Str) (fs : List Str) (i : Nat) : Tst := fun K => tVe x K && (tInit x K && (kits K (He.ga K x) i && fs.all fun f => tNof x f K))
structure EcC (K : Fr) (C fI : Addr) (fs : List Str) (i : Nat) : Prop where
  v : VeC K C
  iC : PySem.W.findIn K (.ref C) "__init__" = some (some (.ref fI))
  tI : PySem.W.typeIn K (.ref fI) = some (.type "function")
  r : RowC K C i
  n : ∀ f ∈ fs, PySem.W.findIn K (.ref C) f = some none
theorem ec_ok {K : Fr} {x : Str} {fs : List Str} {i : Nat} (c : tEc x fs i K = true) : EcC K (He.ga K x) (mAd x "__init__" K) fs i := by
  obtain ⟨c1, c⟩ := He.ba c
  obtain ⟨c2, c⟩ := He.ba c
  obtain ⟨c3, c4⟩ := He.ba c
  obtain ⟨c5, c6⟩ := He.ba c2
  have v := veB_ok c1
  exact ⟨v, (own_ok c5).at_, of_decide_eq_true c6, kits_ok v.x c3, fun f hf => He.eqO_ok (List.all_eq_true.mp c4 f hf)⟩
/-- a class without a def of its own -/
def tEb (x : Str) (bm : List Value) (n : String) (i : Nat) : Tst := fun K => PySem.W.excIn K (He.ga K x) bm n && (PySem.W.keepIn K (.ref (He.ga K x)) && (excB K (He.ga K x) && kits K (He.ga K x) i))
structure EbC (K : Fr) (C : Addr) (i : Nat) : Prop where
  e : ∃ B newId initId bm, ExcBaseFacts B newId initId bm ∧ PySem.W.excIn K C bm newId = true
  kC : PySem.W.keepIn K (.ref C) = true
  r : RowC K C i
theorem eb_ok {K : Fr} {x : Str} {B n ii : String} {bm : List Value} {i : Nat} (b : Bas B n ii bm) (c : tEb x bm n i K = true) : EbC K (He.ga K x) i := by
  obtain ⟨c1, c⟩ := He.ba c
  obtain ⟨c2, c⟩ := He.ba c
  obtain ⟨c3, c4⟩ := He.ba c
  exact ⟨⟨B, n, ii, bm, b.f, c1⟩, c2, kits_ok (excB_ok c3) c4⟩
theorem kwN {K : Fr} {x qual : Str} {params : Arguments} {body : List Stmt} {scope : Scope} {kws : List (Str × V)} {f : Addr} {fd : FuncData} {ps ks : List Str} {g : List Value → List Value} (F : FunD K x qual params body scope [] kws f fd)
    (h : ∀ (kV doc pm : Value) (an : Option Addr) (cdv ct v : Value) (ws : List Value), ws.length = ks.length → bindArgs (PySem.W.fnOf x qual params body scope .none kV doc pm an cdv ct) ⟨[v], ks.zip ws⟩ = pure (ps.zip (v :: g ws))) :
    ∀ (s' : Shared) (a : Addr) (ws : List Value), K.In s'.heap → ws.length = ks.length → BindsTo s' fd ⟨[.ref a], ks.zip ws⟩ (ps.zip (.ref a :: g ws)) := by
  obtain ⟨oc, od, dV, kV, doc, pm, an, cdv, ct, osl, rfl, lk, hcd, hD, hK⟩ := F.ex
  rcases hD with ⟨_, rfl⟩ | ⟨e, _⟩
  · exact fun s' a ws _ hl => .of_eq (h kV doc pm an cdv ct (.ref a) ws hl)
  · exact absurd rfl e
/-- a class by its name: called with one value, or with it by its name -/
structure ErC (P : Program) (w : World) (K : Fr) (mg : Str → Option Value) (base : Heap) (x f : Str) (i : Nat) : Prop where
  c : EcC K (He.ga K x) (mAd x "__init__" K) [f] i
  m : mg x = some (.ref (He.ga K x))
  fn : ∃ fd, FnOk P w K mg base CX0 1 (mAd x "__init__" K) fd [("self" : Str), f] (spSet (He.ga K x) f) ∧ Binds K fd [("self" : Str), f] [] ∧
    ∀ (s' : Shared) (a : Addr) (ws : List Value), K.In s'.heap → ws.length = 1 → BindsTo s' fd ⟨[.ref a], List.zip [f] ws⟩ (List.zip [("self" : Str), f] (.ref a :: ws))
def tE1 (C : Addr) (f : Str) (t : TA) : TE := fun σ H Q => t σ H fun vs H1 => ∃ y, vs = [y] ∧ ∀ H' a, Same H1 H' → H1 a = none → VeAt H' a C [(f, y)] → Q (.ref a) H'
theorem set_same {H : Hp} {a dx C : Addr} {f : Str} {y : V} (na : H a = none) (nd : upd H a (exo a C none) dx = none) (ne : dx ≠ a) :
    Same H (upd (upd (upd H a (exo a C none)) dx (exd dx [(f, y)])) a (exo a C (some dx))) ∧ VeAt (upd (upd (upd H a (exo a C none)) dx (exd dx [(f, y)])) a (exo a C (some dx))) a C [(f, y)] := by
  rw [upd_ne ne] at nd
  refine ⟨fun b o e => ?_, dx, upd_same, ?_⟩
  · rw [upd_ne (ne_of_none e na), upd_ne (ne_of_none e nd), upd_ne (ne_of_none e na)]
    exact e
  · rw [upd_ne ne, upd_same]
theorem sp_set {H : Hp} {C a : Addr} {f : Str} {y : V} {Q : VK} (na : H a = none) (q : ∀ H' a, Same H H' → H a = none → VeAt H' a C [(f, y)] → Q (.ref a) H') :
    spSet C f [.ref a, y] (upd H a (exo a C none)) (fun v H2 => v = .non ∧ Q (.ref a) H2) E0 := by
  refine ⟨a, y, rfl, upd_same, fun dx nd ne => ⟨rfl, ?_⟩⟩
  obtain ⟨s, v⟩ := set_same (f := f) (y := y) na nd ne
  exact q _ a s na v
section
variable {X : Cx} {x f : Str} {i : Nat}
theorem pe_e1 {e : Expr} {t : TA} {p pos : Pos} (c : ErC X.prog X.w X.K X.mg X.base x f i) (hr : Room 2 X.A) (ha : PA X [e] t) (hg : Gl X x := by rfl)
    (hdb : (x == ("__debug__" : Str)) = false := by decide) (he : starEach [e] X.env = (false, eval e X.env) :: starEach [] X.env := by rfl) (hpl : (backTo pos (starEach [] X.env)).any (·.1) = false := by rfl) :
    PE X (.Call (.Name x p) [e] [] pos) (tE1 (He.ga X.K x) f t) := by
  obtain ⟨fd, F, b, _⟩ := c.fn
  refine ⟨fun pins s σ H Q I h => wpAny_Call_Name_kw (ld_glob I hg c.m ?_ hdb)⟩
  refine PySem.W.callWith_K (h₀ := X.base) I.ok.mod.kin c.c.v.kC (thn (ha.run pos pins s σ H _ I h) fun us s1 hu => ?_) he hpl
  obtain ⟨vs, H1, J, r, y, rfl, q⟩ := hu
  obtain ⟨u, rfl, ru⟩ := r.one
  refine ⟨J.kIn, run_ve (ks := []) (ws := []) (vl := fun a => [.ref a, y]) (al := fun a => [.ref a, u]) c.c.v c.c.iC c.c.tI F hr J (by show 1 ≤ sizeLine; decide) (fun s' a Y => ?_) (fun a => .cons rfl (.cons ru .nil)) fun a na => sp_set na q⟩
  exact b s' [.ref a, u] Y rfl
def tEK (C : Addr) (f : Str) (tk : TA) : TE := fun σ H Q => tk σ H fun zs H1 => ∃ y, zs = [y] ∧ ∀ H' a, Same H1 H' → H1 a = none → VeAt H' a C [(f, y)] → Q (.ref a) H'
theorem pe_eK {kws : List Keyword} {tk : TA} {p pos : Pos} (c : ErC X.prog X.w X.K X.mg X.base x f i) (hr : Room 2 X.A) (hk : PK X kws tk) (hg : Gl X x := by rfl)
    (hall : (backToKw pos (keywordEach kws X.env)).all (·.1.isSome) = true := by rfl) (hks : (backToKw pos (keywordEach kws X.env)).filterMap (·.1) = [f] := by rfl) (hdb : (x == ("__debug__" : Str)) = false := by decide)
    (hpl : ((backTo pos (starEach [] X.env)).any (·.1) || (backToKw pos (keywordEach kws X.env)).any (·.1.isNone)) = false := by rfl) : PE X (.Call (.Name x p) [] kws pos) (tEK (He.ga X.K x) f tk) := by
  obtain ⟨fd, F, _, b⟩ := c.fn
  refine ⟨fun pins s σ H Q I h => wpAny_Call_Name_kw (ld_glob I hg c.m ?_ hdb)⟩
  refine PySem.W.callWith_KW0 (h₀ := X.base) I.ok.mod.kin c.c.v.kC hall (thn (hk.run pos pins s σ H _ I h) fun ws s2 hu => ?_) hpl
  obtain ⟨zs, H2, J, rz, y, rfl, q⟩ := hu
  obtain ⟨u, rfl, ru⟩ := rz.one
  refine ⟨J.kIn, ?_⟩
  rw [hks]
  exact run_ve (us := []) (ws := [u]) (vl := fun a => [.ref a, y]) (al := fun a => [.ref a, u]) c.c.v c.c.iC c.c.tI F hr J (Nat.zero_le _) (fun s' a Y => b s' a [u] Y rfl) (fun a => .cons rfl (.cons ru .nil)) fun a na => sp_set na q
/-- C() -/
theorem pe_e0 {p pos : Pos} (c : EbC X.K (He.ga X.K x) i) (hm : X.mg x = some (.ref (He.ga X.K x))) (hg : Gl X x := by rfl) (hdb : (x == ("__debug__" : Str)) = false := by decide) :
    PE X (.Call (.Name x p) [] [] pos) (fun σ H Q => ∀ a, H a = none → Q (.ref a) (upd H a (ExO (.ref (He.ga X.K x)) a))) := by
  obtain ⟨B, n, ii, bm, F, q⟩ := c.e
  exact pe_ve0 F q hm c.kC hg hdb
end
/-! ### an error with two fields -/
def spSet2 (C : Addr) (f g : Str) : Sp := fun vs H Q _ => ∃ (a : Addr) (y z : V), vs = [.ref a, y, z] ∧ H a = some (exo a C none) ∧ ∀ dx, H dx = none → dx ≠ a → Q .non (upd (upd (upd H dx (exd dx [(f, y)])) a (exo a C (some dx))) dx (exd dx [(g, z), (f, y)]))
structure Er2C (P : Program) (w : World) (K : Fr) (mg : Str → Option Value) (base : Heap) (x f g : Str) (i : Nat) : Prop where
  c : EcC K (He.ga K x) (mAd x "__init__" K) [f, g] i
  m : mg x = some (.ref (He.ga K x))
  fn : ∃ fd, FnOk P w K mg base CX0 1 (mAd x "__init__" K) fd [("self" : Str), f, g] (spSet2 (He.ga K x) f g) ∧ Binds K fd [("self" : Str), f, g] [] ∧
    ∀ (s' : Shared) (a : Addr) (ws : List Value), K.In s'.heap → ws.length = 2 → BindsTo s' fd ⟨[.ref a], List.zip [g, f] ws⟩ (List.zip [("self" : Str), f, g] (.ref a :: ws.reverse))
theorem set2_same {H : Hp} {a dx C : Addr} {f g : Str} {y z : V} (na : H a = none) (nd : upd H a (exo a C none) dx = none) (ne : dx ≠ a) {G : Hp}
    (e : G = upd (upd (upd (upd H a (exo a C none)) dx (exd dx [(f, y)])) a (exo a C (some dx))) dx (exd dx [(g, z), (f, y)])) : Same H G ∧ VeAt G a C [(g, z), (f, y)] := by
  subst e
  rw [upd_ne ne] at nd
  refine ⟨fun b o e => ?_, dx, ?_, upd_same⟩
  · rw [upd_ne (ne_of_none e nd), upd_ne (ne_of_none e na), upd_ne (ne_of_none e nd), upd_ne (ne_of_none e na)]
    exact e
  · rw [upd_ne (Ne.symm ne), upd_same]
theorem sp_set2 {H : Hp} {C a : Addr} {f g : Str} {y z : V} {Q : VK} (na : H a = none) (q : ∀ H' a, Same H H' → H a = none → VeAt H' a C [(g, z), (f, y)] → Q (.ref a) H') :
    spSet2 C f g [.ref a, y, z] (upd H a (exo a C none)) (fun v H2 => v = .non ∧ Q (.ref a) H2) E0 := by
  refine ⟨a, y, z, rfl, upd_same, fun dx nd ne => ⟨rfl, ?_⟩⟩
  obtain ⟨s, v⟩ := set2_same (f := f) (g := g) (y := y) (z := z) na nd ne rfl
  exact q _ a s na v
section
variable {X : Cx} {x f g : Str} {i : Nat}
def tE2 (C : Addr) (f g : Str) (t : TA) : TE := fun σ H Q => t σ H fun vs H1 => ∃ y z, vs = [y, z] ∧ ∀ H' a, Same H1 H' → H1 a = none → VeAt H' a C [(g, z), (f, y)] → Q (.ref a) H'
theorem pe_e2 {e e2 : Expr} {t : TA} {p pos : Pos} (c : Er2C X.prog X.w X.K X.mg X.base x f g i) (hr : Room 2 X.A) (ha : PA X [e, e2] t) (hg : Gl X x := by rfl)
    (hdb : (x == ("__debug__" : Str)) = false := by decide) (he : starEach [e, e2] X.env = (false, eval e X.env) :: starEach [e2] X.env := by rfl) (hpl : (backTo pos (starEach [e2] X.env)).any (·.1) = false := by rfl) :
    PE X (.Call (.Name x p) [e, e2] [] pos) (tE2 (He.ga X.K x) f g t) := by
  obtain ⟨fd, F, b, _⟩ := c.fn
  refine ⟨fun pins s σ H Q I h => wpAny_Call_Name_kw (ld_glob I hg c.m ?_ hdb)⟩
  refine PySem.W.callWith_K (h₀ := X.base) I.ok.mod.kin c.c.v.kC (thn (ha.run pos pins s σ H _ I h) fun us s1 hu => ?_) he hpl
  obtain ⟨vs, H1, J, r, y, z, rfl, q⟩ := hu
  obtain ⟨u, u2, rfl, ru, ru2⟩ := vals2 r
  refine ⟨J.kIn, run_ve (ks := []) (ws := []) (vl := fun a => [.ref a, y, z]) (al := fun a => [.ref a, u, u2]) c.c.v c.c.iC c.c.tI F hr J (by show 2 ≤ sizeLine; decide) (fun s' a Y => ?_) (fun a => .cons rfl (.cons ru (.cons ru2 .nil))) fun a na => sp_set2 na q⟩
  exact b s' [.ref a, u, u2] Y rfl
def tE2K (C : Addr) (f g : Str) (tk : TA) : TE := fun σ H Q => tk σ H fun zs H1 => ∃ y z, zs = [z, y] ∧ ∀ H' a, Same H1 H' → H1 a = none → VeAt H' a C [(g, z), (f, y)] → Q (.ref a) H'
theorem pe_e2K {kws : List Keyword} {tk : TA} {p pos : Pos} (c : Er2C X.prog X.w X.K X.mg X.base x f g i) (hr : Room 2 X.A) (hk : PK X kws tk) (hg : Gl X x := by rfl)
    (hall : (backToKw pos (keywordEach kws X.env)).all (·.1.isSome) = true := by rfl) (hks : (backToKw pos (keywordEach kws X.env)).filterMap (·.1) = [g, f] := by rfl) (hdb : (x == ("__debug__" : Str)) = false := by decide)
    (hpl : ((backTo pos (starEach [] X.env)).any (·.1) || (backToKw pos (keywordEach kws X.env)).any (·.1.isNone)) = false := by rfl) : PE X (.Call (.Name x p) [] kws pos) (tE2K (He.ga X.K x) f g tk) := by
  obtain ⟨fd, F, _, b⟩ := c.fn
  refine ⟨fun pins s σ H Q I h => wpAny_Call_Name_kw (ld_glob I hg c.m ?_ hdb)⟩
  refine PySem.W.callWith_KW0 (h₀ := X.base) I.ok.mod.kin c.c.v.kC hall (thn (hk.run pos pins s σ H _ I h) fun ws s2 hu => ?_) hpl
  obtain ⟨zs, H2, J, rz, y, z, rfl, q⟩ := hu
  obtain ⟨u, u2, rfl, ru, ru2⟩ := vals2 rz
  refine ⟨J.kIn, ?_⟩
  rw [hks]
  exact run_ve (us := []) (ws := [u, u2]) (vl := fun a => [.ref a, y, z]) (al := fun a => [.ref a, u2, u]) c.c.v c.c.iC c.c.tI F hr J (Nat.zero_le _) (fun s' a Y => b s' a [u, u2] Y rfl) (fun a => .cons rfl (.cons ru2 (.cons ru .nil))) fun a na => sp_set2 na q
end
end Hk

/-! Where an exception is handled: walks over lists and texts, comprehensions. -/
namespace Hk
open PySem PySem.Spec PyProof.Rows L2 HotX L2H
section
variable {prog : Program} {w : World} {A : Around} {E : Value → Shared → Prop} {s : Shared}
theorem list_end_hot {it l x1 : Addr} {i : Nat} {items} {Q : Option Value → Shared → Prop} (hot : HotAt A x1 s.heap) (ne : x1 ≠ it)
    (hit : s.heap.IsListIter it l i) (hl : s.heap.IsList l items) (hx : items[i]? = none)
    (hQ : ∀ h', (∀ b o, b ≠ it → s.heap.get? b = some o → h'.get? b = some o) → Q none { s with heap := h' }) : wpAny (model prog w) A (pyNext (.ref it)) Q E s := by
  obtain ⟨o, ho, hc, hd⟩ := id hit
  obtain ⟨ol, hol, _, nl, hdl⟩ := hl
  obtain ⟨hh, o1, vs1, h1, d1, c1⟩ := hot
  unfold pyNext
  refine wpAny_bind (wpAny_attempt (wpAny_callSpecial?_slot (name := Str.ofString "__next__") hit.typeIs slot_listiter_next
    (wpAny_call_entry slot_listiter_next hit.typeIs entry_listiter_next ?_ (args_listiter_next _))))
  show wpAny _ _ (field (.ref it) 0 >>= _) _ _ s
  refine wpAny_bind (wpAny_field ho hd (x := .ref l) rfl ?_)
  show wpAny _ _ (if (Value.ref l == Value.none) = true then _ else _) _ _ s
  rw [if_neg (show ¬ ((Value.ref l == Value.none) = true) from Bool.false_ne_true)]
  show wpAny _ _ (field (.ref it) 1 >>= _) _ _ s
  refine wpAny_bind (wpAny_field ho hd (x := .int i 0) rfl ?_)
  show wpAny _ _ (seqItems? (.ref l) >>= _) _ _ s
  refine wpAny_bind (wpAny_seqItems hol hdl ?_)
  simp only [Int.toNat_natCast, hx]
  refine wpAny_bind (wpAny_rule (wpAny_bind (wpAny_setField ho hd (by simp) ?_)))
  show wpAny _ _ (newExc (.type "StopIteration") [] >>= _) _ _ _
  refine wpAny_bind ?_
  simp only [newExc, newTuple]
  refine wpAny_bind (wpAny_newObj_type ?_ (by size_fits))
  refine wpAny_bind (m := firstArgMember _ _) (wpAny_of_eq (a := Value.none) (by first | rfl | (simp only [firstArgMember]; rfl)) ?_)
  refine wpAny_newObj_type ?_ (by size_fits)
  have g1 := fun {f : Obj → Obj} => (Heap.get?_update_other s.heap f (Ne.symm ne)).trans h1
  refine raiseNew_hot ⟨hh, o1, vs1, Heap.get?_push_of_some _ (Heap.get?_push_of_some _ g1), d1, c1⟩ (Nat.ne_of_lt (Heap.lt_size (Heap.get?_push_of_some _ g1))) (Heap.get?_push_size _ rfl) rfl (by first | (simp; done) | (simp; omega) | decide) ?_
  refine wpAny_bind (wpAny_isInstance (T := "StopIteration") (b := true) ⟨_, Heap.get?_update_self _ (Heap.get?_push_size _ rfl) rfl, rfl⟩ isSubtype_stop ?_)
  refine wpAny_pure (hQ _ fun b o hb e => ?_)
  have g2 := fun {f : Obj → Obj} => (Heap.get?_update_other s.heap f (Ne.symm hb)).trans e
  rw [Heap.get?_update_other _ _ (Nat.ne_of_gt (Heap.lt_size (Heap.get?_push_of_some _ g2)))]
  exact Heap.get?_push_of_some _ (Heap.get?_push_of_some _ g2)
theorem ascii_end_hot {it x1 : Addr} {x : Str} {t : Tok} {i : Nat} {Q : Option Value → Shared → Prop} (hot : HotAt A x1 s.heap) (ne : x1 ≠ it)
    (hit : s.heap.IsStrIter it "str_ascii_iterator" x t i) (hx : x.cps[i]? = none)
    (hQ : ∀ h', (∀ b o, b ≠ it → s.heap.get? b = some o → h'.get? b = some o) → Q none { s with heap := h' }) : wpAny (model prog w) A (pyNext (.ref it)) Q E s := by
  obtain ⟨o, ho, hc, hd⟩ := id hit
  obtain ⟨hh, o1, vs1, h1, d1, c1⟩ := hot
  unfold pyNext
  refine wpAny_bind (wpAny_attempt (wpAny_callSpecial?_slot (name := Str.ofString "__next__") hit.typeIs F.slot_str_ascii_iterator_next
    (wpAny_call_entry F.slot_str_ascii_iterator_next hit.typeIs F.entry_str_ascii_iterator_next ?_ (F.args_str_ascii_iterator_next_1 _))))
  show wpAny _ _ (field (.ref it) 0 >>= _) _ _ s
  refine wpAny_bind (wpAny_field ho hd (x := .str x t) rfl ?_)
  show wpAny _ _ (field (.ref it) 1 >>= _) _ _ s
  refine wpAny_bind (wpAny_field ho hd (x := .int i 0) rfl ?_)
  simp only [Int.toNat_natCast, hx]
  refine wpAny_bind (wpAny_rule (wpAny_bind (wpAny_setField ho hd (by simp) (wpAny_bind (wpAny_letGo ?_)))))
  show wpAny _ _ (newExc (.type "StopIteration") [] >>= _) _ _ _
  refine wpAny_bind ?_
  simp only [newExc, newTuple]
  refine wpAny_bind (wpAny_newObj_type ?_ (by size_fits))
  refine wpAny_bind (m := firstArgMember _ _) (wpAny_of_eq (a := Value.none) (by first | rfl | (simp only [firstArgMember]; rfl)) ?_)
  refine wpAny_newObj_type ?_ (by size_fits)
  have g1 := fun {f : Obj → Obj} => (Heap.get?_update_other s.heap f (Ne.symm ne)).trans h1
  refine raiseNew_hot ⟨hh, o1, vs1, Heap.get?_push_of_some _ (Heap.get?_push_of_some _ g1), d1, c1⟩ (Nat.ne_of_lt (Heap.lt_size (Heap.get?_push_of_some _ g1))) (Heap.get?_push_size _ rfl) rfl (by first | (simp; done) | (simp; omega) | decide) ?_
  refine wpAny_bind (wpAny_isInstance (T := "StopIteration") (b := true) ⟨_, Heap.get?_update_self _ (Heap.get?_push_size _ rfl) rfl, rfl⟩ isSubtype_stop ?_)
  refine wpAny_pure (hQ _ fun b o hb e => ?_)
  have g2 := fun {f : Obj → Obj} => (Heap.get?_update_other s.heap f (Ne.symm hb)).trans e
  rw [Heap.get?_update_other _ _ (Nat.ne_of_gt (Heap.lt_size (Heap.get?_push_of_some _ g2)))]
  exact Heap.get?_push_of_some _ (Heap.get?_push_of_some _ g2)
end
/-- a context that holds what is handled, and is apart from the iterator -/
theorem hot_at {X : Cx} {pins : List (Addr × Obj)} {σ : L2.St} {H : Hp} {s : Shared} {it : Addr} (c : HotC X) (I : Inv X pins σ H s) (f : FpOk X pins H it) : ∃ x1, HotAt X.A x1 s.heap ∧ x1 ≠ it := by
  obtain ⟨p, ⟨hh, v1, e1, c1⟩, hp⟩ := c
  exact ⟨p.1, ⟨hh, p.2, v1, (I.pin p (List.mem_append_left _ hp)).1, e1, c1⟩, f.2.2.2.2.2 p (List.mem_append_left _ hp)⟩
theorem turn_listH {P : Program} {w : World} {K : Fr} {tg : Expr} (a it : Addr) : TurnH P w K tg (Itl K a) [it] it (fun i h => h.IsListIter it a i) where
  mem := by simp
  obj := (turn_list (P := P) (w := w) (K := K) (tg := tg) a it).obj
  keep := (turn_list (P := P) (w := w) (K := K) (tg := tg) a it).keep
  item := by
    intro X hP hw hK hc i pins s σ H E I hf st hg
    subst hP hw hK
    obtain ⟨xs, x, hq, hx⟩ := hg
    obtain ⟨its, rv, p, hz⟩ := I.list hq
    obtain ⟨u, hu, ru⟩ := rv.get hx
    obtain ⟨f0, f1, f2, f3, f4, f5⟩ := hf it (by simp)
    refine wpAny_pyNext_list_item st p.isList (x := u) (by simpa using hu) fun h' st' sb => ?_
    have I1 : Inv X pins σ H { s with heap := h' } := I.turned (t' := s.toks) (fun b o hb e => (sb.2 b hb).trans e) f0 f1 f3 f4 f5
    obtain ⟨o, e, c, d⟩ := id st'
    exact ⟨u, rfl, go_of (s := { s with heap := h' }) e c d (by decide) ⟨x, H, I1, ru, ⟨rfl, fun ys hy => by rw [I.list_inj hy hq]; exact hx⟩, st', fun b hb => (hf b hb).1⟩⟩
  done := by
    intro X hP hw hK hc i pins s σ H E I hf st hg
    subst hP hw hK
    obtain ⟨xs, hq, hx⟩ := hg
    obtain ⟨its, rv, p, hz⟩ := I.list hq
    have f := hf it (by simp)
    obtain ⟨x1, hot, ne⟩ := hot_at hc I f
    obtain ⟨f0, f1, f2, f3, f4, f5⟩ := f
    have hl := rv.length
    exact list_end_hot hot ne st p.isList (by simp; omega) fun h' eb => ⟨rfl, I.turned (t' := s.toks) (fun b o hb e => eb b o hb e) f0 f1 f3 f4 f5⟩
  self := fun _ _ _ _ _ st h => wpAny_pyIter_listiter st h
theorem turn_strH {P : Program} {w : World} {K : Fr} {tg : Expr} (it : Addr) (x : Str) (t : Tok) : TurnH P w K tg (Its x) [it] it (fun i h => h.IsStrIter it "str_ascii_iterator" x t i) where
  mem := by simp
  obj := (turn_str (P := P) (w := w) (K := K) (tg := tg) it x t _ (.inl rfl)).obj
  keep := (turn_str (P := P) (w := w) (K := K) (tg := tg) it x t _ (.inl rfl)).keep
  item := by
    intro X hP hw hK hc i pins s σ H E I hf st hg
    subst hP hw hK
    obtain ⟨f0, f1, f2, f3, f4, f5⟩ := hf it (by simp)
    have hg' : i < x.cps.size := hg
    refine wpAny_pyNext_ascii_item st (c := x.cps[i]) (by simp [hg']) fun h' st' sb => ?_
    have I1 : Inv X pins σ H { s with heap := h', toks := s.toks + 1 } := I.turned (fun b o hb e => (sb.2 b hb).trans e) f0 f1 f3 f4 f5
    obtain ⟨oi, e, cc, dd⟩ := id st'
    exact ⟨_, rfl, go_of (s := { s with heap := h', toks := s.toks + 1 }) e cc dd (by decide) ⟨.str ⟨#[x.cps[i]]⟩, H, I1, ⟨_, rfl⟩, ⟨rfl, _, by simp [hg'], rfl⟩, st', fun b hb => (hf b hb).1⟩⟩
  done := by
    intro X hP hw hK hc i pins s σ H E I hf st hg
    subst hP hw hK
    have f := hf it (by simp)
    obtain ⟨x1, hot, ne⟩ := hot_at hc I f
    obtain ⟨f0, f1, f2, f3, f4, f5⟩ := f
    exact ascii_end_hot hot ne st (Array.getElem?_eq_none hg) fun h' eb => ⟨rfl, I.turned (t' := s.toks) (fun b o hb e => eb b o hb e) f0 f1 f3 f4 f5⟩
  self := fun A i s Q E st h => wpAny_pyIter_striter_ascii st h
end Hk

namespace Hk
open PySem PySem.Spec PyProof.Rows L2 HotX L2H
/-! ### iterables where an exception is handled -/
theorem pie_hot {X : Cx} {tg : Expr} {pins : List (Addr × Obj)} {σ : L2.St} {H : Hp} {s : Shared} {R : It → Hp → Prop} {J : It} {tn : Nat → Heap → Prop} {tk : Nat} (I : Inv X pins σ H s) (o : Obj)
    (T : TurnH X.prog X.w X.K tg J [s.heap.objs.size] s.heap.objs.size tn) (st : tn 0 (s.heap.push o)) (q : R J H) : PIEH X pins σ tg R (.ref s.heap.objs.size) { s with heap := s.heap.push o, toks := tk } := by
  refine ⟨s.heap.objs.size, [s.heap.objs.size], tn, J, H, rfl, I.kept fun b ob e => Heap.get?_push_of_some _ e, T, st, fun b hb => ?_, q⟩
  have e : b = s.heap.objs.size := by simpa using hb
  subst e
  exact I.fpOk (Nat.le_refl _) (I.hok.fresh (Nat.le_refl _))
theorem pih_list {X : Cx} {tg l : Expr} {tl : TE} (hl : PE X l tl) : PIH X tg l (iList X.K tl) := by
  refine ⟨fun pins s σ H R I h => thn (hl.run pins s σ H _ I h) fun v s1 hv => ?_⟩
  obtain ⟨x, H1, I1, r1, a, rfl, ⟨xs, hq⟩, q⟩ := hv
  cases r1
  obtain ⟨its, rv, p, hz⟩ := I1.list hq
  exact wpAny_pyIter_list p.isList (pie_hot (tk := s1.toks) I1 _ (turn_listH a _) ⟨_, Heap.get?_push_size _ rfl, rfl, rfl⟩ q)
/-- a text of ASCII signs -/
def iStrA (te : TE) : TI := fun σ H R => te σ H fun v H1 => ∃ x, v = .str x ∧ x.cps.all (· < 128) = true ∧ R (Its x) H1
theorem pih_str {X : Cx} {tg e : Expr} {te : TE} (he : PE X e te) : PIH X tg e (iStrA te) := by
  refine ⟨fun pins s σ H R I h => thn (he.run pins s σ H _ I h) fun v s1 hv => ?_⟩
  obtain ⟨y, H1, I1, r1, x, rfl, ha, q⟩ := hv
  obtain ⟨t, rfl⟩ := r1
  exact wpAny_pyIter_ascii ha (pie_hot (tk := s1.toks) I1 _ (turn_strH _ x t) ⟨_, Heap.get?_push_size _ rfl, rfl, rfl⟩ q)
/-! ### a list comprehension there -/
/-- the context of its block, which keeps what is pinned -/
abbrev blkP (X : Cx) (s : Shared) (H : Hp) (scope : Scope) (cenv : Env) (fp : List Addr) : Cx := { X.blk s H scope cenv fp with pn := X.pn }
theorem blkP_start {X : Cx} {pins : List (Addr × Obj)} {σ : L2.St} {H : Hp} {s : Shared} {scope : Scope} {own : List (Str × Nat)} {fp : List Addr} (I : Inv X pins σ H s) (ok : BlkOk X.N X.env.scope scope own) (hN : X.N.Nodup) (hfp : ∀ b ∈ fp, FpOk X pins H b ∧ b < s.heap.objs.size) :
    Inv (blkP X s H scope (compEnvC scope (cellsFrom (s.heap.objs.size + 1) scope.names (cloFrom X.env.cells scope.names [])) s.heap.objs.size X.env) fp) [] (wipe σ (own.map (·.2))) H { s with heap := pushCells (s.heap.push { cls := .type "dict", data := .dict #[] }) scope.names } := by
  have J := block_start I ok hN hfp
  have k := J.ok
  refine ⟨⟨k.mod, k.kind, k.glob, k.blt, k.above, k.inj, k.has, k.cab, k.hd, k.frames, k.stk, k.exf, k.bs, k.bsz, k.noex, k.exfs, k.funs, k.frf⟩, J.os, J.bare, J.base, J.loc, J.cell, J.free, J.freeC, fun p hp => ?_, J.hok, J.len⟩
  have hp : p ∈ X.pn := by simpa using hp
  obtain ⟨g, n, nl, nf, nc⟩ := I.pin p (List.mem_append_left _ hp)
  refine ⟨pushCells_keeps _ _ _ _ (Heap.get?_push_of_some _ g), n, Nat.ne_of_lt (Heap.lt_size g), fun z => ?_, nc⟩
  rcases List.mem_cons.mp (I.stkSub _ z) with y | y
  · exact nl y
  · exact nf y
theorem pe_lcH {X : Cx} {elt tg iter : Expr} {ifs : List Expr} {scope : Scope} {own : List (Str × Nat)} {pos : Pos} {wi : TI} {g : TG} {tt : TT} {te : TE} (hc : HotC X) (hN : X.N.Nodup) (hi : PIH X tg iter wi) (ok : BlkOk X.N X.env.scope scope own)
    (hg : ∀ (s : Shared) (H : Hp) (C : Addr) (cl : List (Str × Addr)) (fp : List Addr), PG (blkP X s H scope (compEnvC scope cl C X.env) fp) tg g) (ht : ∀ (s : Shared) (H : Hp) (C : Addr) (cl : List (Str × Addr)) (fp : List Addr), PTs (blkP X s H scope (compEnvC scope cl C X.env) fp) ifs tt)
    (he : ∀ (s : Shared) (H : Hp) (C : Addr) (cl : List (Str × Addr)) (fp : List Addr), PE (blkP X s H scope (compEnvC scope cl C X.env) fp) elt te) (hs : ∀ x, foldedSetIterable iter X.env x = pure x := by intro _; rfl) :
    PE X (.ListComp elt [⟨tg, iter, ifs, 0⟩] scope pos) (tLc wi g tt te (own.map (·.2))) := by
  refine ⟨fun pins s σ H Q I h => ?_⟩
  rw [eval_ListComp]
  have hfree : ∀ y ∈ scope.names, y.2 = .free → ∃ c, X.env.cells.lookup y.1 = some c := fun y hy e => (ok.free y hy e).elim (fun k => I.ok.has _ (.inl k)) fun k => I.ok.has _ (.inr k)
  refine wpAny_comprehension_free rfl hs (closure_ok hfree) ok.kind (fun y hy e => by rw [ok.uniq y hy, e]) (thn (hi.run pins s σ H _ I h) fun xv s1 hx => thn hx fun itv s2 h2 => ?_)
  obtain ⟨it, fp, tn, J, H2, rfl, I2, T, st2, f2, q⟩ := h2
  refine wpAny_newObj_type (newEnv_comp ?_) (by show 0 ≤ sizeLine; decide)
  generalize hD : s2.heap.objs.size = D
  have hDn : H2 D = none := I2.hok.fresh (Nat.le_of_eq hD)
  obtain ⟨W, ⟨m0, w0⟩, turn⟩ := q D hDn
  generalize hs3 : ({ s2 with heap := s2.heap.push { cls := .type "list", data := .seq ([] : List Value).toArray } } : Shared) = s3
  have h3 : s3.heap = s2.heap.push { cls := .type "list", data := .seq ([] : List Value).toArray } := by rw [← hs3]
  have I3 : Inv X pins σ (upd H2 D (.lst [])) s3 := by
    rw [← hs3]
    refine I2.laid (t' := s2.toks) (fun b o e => Heap.get?_push_of_some _ e) (Nat.le_of_eq hD) ⟨Nat.zero_le _, [], 0, .nil, ?_⟩
    rw [← hD]
    exact Heap.get?_push_size _ rfl
  have f3 : ∀ b ∈ fp, FpOk X pins (upd H2 D (.lst [])) b ∧ b < s3.heap.objs.size := fun b hb => by
    obtain ⟨o, e, _⟩ := T.obj _ _ st2 b hb
    have lt := Heap.lt_size e
    refine ⟨⟨?_, (f2 b hb).2⟩, by rw [h3, Heap.size_push]; exact Nat.lt_succ_of_lt lt⟩
    rw [upd_ne (by rw [← hD]; exact Nat.ne_of_lt lt)]
    exact (f2 b hb).1
  have st3 : tn 0 s3.heap := T.keep _ _ _ st2 fun b _ o e => by rw [h3]; exact Heap.get?_push_of_some _ e
  have I4 := blkP_start I3 ok hN f3
  have pg := hg s3 (upd H2 D (.lst [])) s3.heap.objs.size (cellsFrom (s3.heap.objs.size + 1) scope.names (cloFrom X.env.cells scope.names [])) fp
  have pt := ht s3 (upd H2 D (.lst [])) s3.heap.objs.size (cellsFrom (s3.heap.objs.size + 1) scope.names (cloFrom X.env.cells scope.names [])) fp
  have pe := he s3 (upd H2 D (.lst [])) s3.heap.objs.size (cellsFrom (s3.heap.objs.size + 1) scope.names (cloFrom X.env.cells scope.names [])) fp
  have nfp : ∀ b ∈ fp, (upd H2 D (.lst [])) b = none := fun b hb => (f3 b hb).1.1
  have cL : (compEnvC scope (cellsFrom (s3.heap.objs.size + 1) scope.names (cloFrom X.env.cells scope.names [])) s3.heap.objs.size X.env).locals = s3.heap.objs.size := rfl
  have st4 : tn 0 (pushCells (s3.heap.push { cls := .type "dict", data := .dict #[] }) scope.names) := T.keep _ _ _ st3 fun b _ o e => pushCells_keeps _ _ _ _ (Heap.get?_push_of_some _ e)
  show codeAny _ _ (.compStart (.ListComp elt [⟨tg, iter, ifs, 0⟩] scope pos) 0 (.ref it) (.ref D) (compEnvC scope (cellsFrom (s3.heap.objs.size + 1) scope.names (cloFrom X.env.cells scope.names [])) s3.heap.objs.size X.env)) (compPost (model X.prog X.w) X.A X.xe none (EP X pins σ Q) (.ref D) s3.heap.objs.size) { s3 with heap := pushCells (s3.heap.push { cls := .type "dict", data := .dict #[] }) scope.names }
  generalize hce : compEnvC scope (cellsFrom (s3.heap.objs.size + 1) scope.names (cloFrom X.env.cells scope.names [])) s3.heap.objs.size X.env = ce at I4 pg pt pe cL ⊢
  generalize upd H2 D (.lst []) = H3 at I3 I4 pg pt pe w0 nfp f3
  have hcB : HotC (blkP X s3 H3 scope ce fp) := hc
  have stat : ∀ {σ' : L2.St} {H' : Hp} {s' : Shared}, Inv (blkP X s3 H3 scope ce fp) [] σ' H' s' → (∀ b ∈ fp, H' b = none) → ∀ b ∈ fp, FpOk (blkP X s3 H3 scope ce fp) [] H' b := fun {σ' H' s'} I' hn b hb =>
    ⟨hn b hb, (I'.ok.exf b hb).1, I'.ok.exfs b hb, .inl hb, fun x c e => (I'.ok.exf b hb).2 x c e, fun p hp => (f3 b hb).1.2.2.2.2.2 p (List.mem_append_left _ (by simpa using hp))⟩
  generalize hs4 : ({ s3 with heap := pushCells (s3.heap.push { cls := .type "dict", data := .dict #[] }) scope.names } : Shared) = s4 at I4 ⊢
  have st4' : tn 0 s4.heap := by rw [← hs4]; exact st4
  have run : codeAny (model X.prog X.w) X.A (.compLoop (.ListComp elt [⟨tg, iter, ifs, 0⟩] scope pos) 0 (.ref it) (.ref D) ce) (compPost (model X.prog X.w) X.A X.xe none (EP X pins σ Q) (.ref D) s3.heap.objs.size) s4 := by
    refine compLoop_any (fun n s' => ∃ i H', Inv (blkP X s3 H3 scope ce fp) [] (wipe σ (own.map (·.2))) H' s' ∧ tn i s'.heap ∧ (∀ b ∈ fp, H' b = none) ∧ W i n H') ?_ m0 ⟨0, H3, I4, st4', nfp, w0⟩
    rintro n s5 ⟨i, H5, I5, st5, n5, w5⟩
    rcases turn i n H5 w5 with ⟨stop, qq⟩ | ⟨go, Nx, hNx, step⟩
    · refine thnF (T.done (blkP X s3 H3 scope ce fp) rfl rfl rfl hcB i [] s5 _ H5 (fun _ _ => False) I5 (stat I5 n5) st5 stop) fun r s6 hr => ?_
      obtain ⟨rfl, I6⟩ := hr
      have I7 : Inv X pins σ H5 s6 := I3.call' (ch := fp) I6.os I6.base I6.hok I6.bare fun b hb => ⟨(f3 b hb).1.2.2.2.1, (f3 b hb).1.2.1, (f3 b hb).1.2.2.2.2.1, (f3 b hb).1.2.2.2.2.2⟩
      have nC : H5 s3.heap.objs.size = none := by
        have z : H5 ce.locals = none := I6.free
        rw [cL] at z
        exact z
      obtain ⟨m, hn, _⟩ := I6.loc
      have hn : s6.heap.Ns ce.locals m := hn
      rw [cL] at hn
      obtain ⟨c0, c1, c2, c3, c4, c5⟩ := I3.fpOk (Nat.le_refl _) nC
      exact ⟨m, hn, fun h'' sb => ⟨.ref D, H5, I7.turned (t' := s6.toks) (fun b o hb e => (sb.2 b hb).trans e) c0 c1 c3 c4 c5, rfl, qq⟩⟩
    · refine thnF (T.item (blkP X s3 H3 scope ce fp) rfl rfl rfl hcB i [] s5 _ H5 (fun _ _ => False) I5 (stat I5 n5) st5 go) fun r s6 hr => ?_
      obtain ⟨u, rfl, h6⟩ := hr
      refine thnF h6 fun _ s7 h7 => ?_
      obtain ⟨x, H7, I7, r7, y7, st7, n7⟩ := h7
      have P7 := I7.pinned (stat I7 n7) (T.obj _ _ st7)
      refine thnF (pg.run _ s7 _ H7 x u _ P7 r7 (step x H7 y7)) fun _ s8 h8 => ?_
      obtain ⟨σ8, H8, I8, hw8, q8⟩ := h8
      refine thnF (pt.run _ s8 σ8 H8 _ I8 q8) fun b s9 h9 => ?_
      obtain ⟨H9, I9, q9⟩ := h9
      have again : ∀ {s' : Shared} {H' : Hp}, Inv (blkP X s3 H3 scope ce fp) ([] ++ pinsAt fp s7.heap) σ8 H' s' → Nx H' → ∃ m, m < n ∧ ∃ i H', Inv (blkP X s3 H3 scope ce fp) [] (wipe σ (own.map (·.2))) H' s' ∧ tn i s'.heap ∧ (∀ b ∈ fp, H' b = none) ∧ W i m H' := fun {s' H'} I' nx => by
        obtain ⟨m', hm, w'⟩ := hNx H' nx
        have keepP : ∀ b ∈ fp, ∀ o, s7.heap.get? b = some o → s'.heap.get? b = some o ∧ H' b = none := fun b hb o e =>
          let z := I'.pin (b, o) (List.mem_append_right _ (List.mem_append_right _ (mem_pinsAt hb e)))
          ⟨z.1, z.2.1⟩
        refine ⟨m', hm, i + 1, H', (I'.unpinned (pins := [])).weak (by rw [← hw8, wipe_length]) (fun j v e => ?_), T.keep _ _ _ st7 fun b hb o e => (keepP b hb o e).1, fun b hb => ?_, w'⟩
        · rw [← hw8] at e
          exact (wipe_some e).1
        · obtain ⟨o, e, _⟩ := T.obj _ _ st7 b hb
          exact (keepP b hb o e).2
      cases b with
      | false =>
        simp only [Bool.false_eq_true, if_false] at q9 ⊢
        exact again I9 q9
      | true =>
        simp only [if_true] at q9 ⊢
        refine thnF (pe.run _ s9 σ8 H9 _ I9 q9) fun z s10 h10 => ?_
        obtain ⟨yv, H10, I10, r10, acc, hD10, hz10, nx⟩ := h10
        exact app_ok (X := blkP X s3 H3 scope ce fp) I10 hD10 hz10 r10 fun s11 I11 => again I11 nx
  exact codeAny_compStart_list run (T.self X.A 0 _ _ _ st4' run)
end Hk

namespace Hk
open PySem PySem.Spec PyProof.Rows L2 HotX L2H
/-! ### all, any of a list of truths there -/
theorem walks_list_hot {prog : Program} {w : World} {A : Around} (it ax x1 : Addr) (hne : ax ≠ it) (hx : x1 ≠ it) (items : Array Value) :
    Walks prog w A it [it, ax, x1] [it] items.size (fun i v => items[i]? = some v) (fun i h => h.IsListIter it ax i ∧ (h.IsList ax items ∧ HotAt A x1 h)) where
  sub := fun b hb => by simp at hb; simp [hb]
  frame := fun _ _ _ st hk => by
    obtain ⟨s1, s2, hh, o, vs, e, d, c⟩ := st
    exact ⟨s1.at fun o e => hk it (by simp) o e, s2.at fun o e => hk ax (by simp) o e, hh, o, vs, hk x1 (by simp) o e, d, c⟩
  item := fun i s Q E hi st hQ => by
    obtain ⟨s1, s2, hh, o, vs, e, d, c⟩ := st
    refine wpAny_pyNext_list_item s1 s2 (x := items[i]) (by simp [hi]) fun h' hit' hs' => ?_
    exact hQ _ h' s.toks (by simp [hi]) ⟨hit', s2.extBut hs'.extBut hne, hh, o, vs, hs'.extBut x1 o hx e, d, c⟩ fun b o hb e => hs'.extBut b o (fun h => hb (by simp [h])) e
  done := fun s Q E st hQ => list_end_hot st.2.2 hx st.1 st.2.1 (by simp) fun h' he' => hQ h' s.toks fun b o hb e => he' b o (fun h => hb (by simp [h])) e
  self := fun _ _ _ _ st hQ => wpAny_pyIter_listiter st.1 hQ
section
variable {X : Cx}
theorem cr_allH (hc : HotC X) : CallR X (.builtin "all") (rAll X.K) := by
  intro pins s σ H vs us Q I r h
  obtain ⟨a, bs, rfl, hs, q⟩ := h
  obtain ⟨its, rv, hl, _⟩ := I.list hs
  rw [Vals.ref1 r]
  have hb := rv.bls
  obtain ⟨x1, hh, o1, v1, e1, d1, c1⟩ := hc.at I
  refine call_all_walk (iter_any hl.isList fun s₂ e2 st hne => ?_)
  subst e2
  have lx : x1 < s.heap.objs.size := Heap.lt_size e1
  refine ⟨_, _, _, _, _, _, _, rfl, walks_list_hot (A := X.A.in1) _ a x1 hne (Nat.ne_of_lt lx) its.toArray, ⟨st.1, st.2, hh, o1, v1, Heap.get?_push_of_some _ e1, d1, c1⟩, truth_bools hb, fun h' tk hk => ?_⟩
  refine ⟨.bl _, H, I.kept fun b o eo => hk b o (fun hmem => ?_) (Heap.get?_push_of_some _ eo), ?_, q⟩
  · have z : b = s.heap.objs.size := by simpa using hmem
    exact absurd (z ▸ Heap.lt_size eo) (Nat.lt_irrefl _)
  · show Value.bool _ = Value.bool _
    rw [← L2.all_range, hb, List.size_toArray, List.length_map]
theorem cr_anyH (hc : HotC X) : CallR X (.builtin "any") (rAny X.K) := by
  intro pins s σ H vs us Q I r h
  obtain ⟨a, bs, rfl, hs, q⟩ := h
  obtain ⟨its, rv, hl, _⟩ := I.list hs
  rw [Vals.ref1 r]
  have hb := rv.bls
  obtain ⟨x1, hh, o1, v1, e1, d1, c1⟩ := hc.at I
  refine call_any_walk (iter_any hl.isList fun s₂ e2 st hne => ?_)
  subst e2
  have lx : x1 < s.heap.objs.size := Heap.lt_size e1
  refine ⟨_, _, _, _, _, _, _, rfl, walks_list_hot (A := X.A.in1) _ a x1 hne (Nat.ne_of_lt lx) its.toArray, ⟨st.1, st.2, hh, o1, v1, Heap.get?_push_of_some _ e1, d1, c1⟩, truth_bools hb, fun h' tk hk => ?_⟩
  refine ⟨.bl _, H, I.kept fun b o eo => hk b o (fun hmem => ?_) (Heap.get?_push_of_some _ eo), ?_, q⟩
  · have z : b = s.heap.objs.size := by simpa using hmem
    exact absurd (z ▸ Heap.lt_size eo) (Nat.lt_irrefl _)
  · show Value.bool _ = Value.bool _
    rw [← L2.any_range, hb, List.size_toArray, List.length_map]
end
/-! ### defs called there that let nothing out -/
section
variable {P : Program} {w : World} {K : Fr} {mg : Str → Option Value} {base : Heap}
theorem hotC_cx {CX : CXT} {N : List Str} {qual : Str} {scope : Scope} {f : Addr} {cd : Value} {A : Around} {outer : List Env} {s : Shared} {H : Hp} {E : XK} {p : Addr × Obj} (h : Hot1 A p) : HotC (cxH CX P w K mg base N qual scope f cd A outer s H E p) := ⟨p, h, List.mem_cons_self⟩
abbrev BodyH (P : Program) (w : World) (K : Fr) (mg : Str → Option Value) (base : Heap) (k : Nat) (d : Dx) (N ps : List Str) (sp : Sp) : Prop :=
  ∀ (cdv : Value) (A : Around) (outer : List Env) (s : Shared) (H : Hp) (vs : List V) (Q : VK) (E : XK) (p : Addr × Obj), Hot1 A p → RoomH k (A.deeper (envOfC d.ql (defScope d.st) s.heap.objs.size (d.ad K) cdv)) → sp vs H Q E →
      ∃ t, PSs (cxH CX0 P w K mg base N d.ql (defScope d.st) (d.ad K) cdv A outer s H E p) (defBody d.st) t ∧ t { nx := fun _ H' => Q .non H', rt := Q } (L2.start N vs) H
theorem okh_of {k : Nat} {d : Dx} {N ps : List Str} {sp : Sp} {fd : FuncData} (D : DAt K d fd) (S : FnScope N ps (defScope d.st)) (len : ∀ vs H Q E, sp vs H Q E → vs.length = ps.length) (hb : BodyH P w K mg base k d N ps sp) :
    FnH P w K mg base CX0 (k + 1) (d.ad K) fd ps sp := by
  obtain ⟨oc, od, dV, kV, doc, pm, an, cdv, ct, osl, rfl, lk, hcd, _, _⟩ := D.ex
  exact fn_ofH lk hcd S len fun A outer s H vs Q E p hot hr h => hb cdv A outer s H vs Q E p hot hr h
def CalH (P : Program) (w : World) (K : Fr) (mg : Str → Option Value) (base : Heap) (k : Nat) (x : Str) (ad : Addr) (ps : List Str) (sp : Sp) : Prop :=
  ∃ fd : FuncData, FnH P w K mg base CX0 k ad fd ps sp ∧ Binds K fd ps [] ∧ PySem.W.keepIn K (.ref ad) = true ∧ mg x = some (.ref ad)
theorem pe_ch {X : Cx} {k : Nat} {x : Str} {ad : Addr} {ps : List Str} {sp : Sp} {e : Expr} {es : List Expr} {t : TA} {p pos : Pos} (c : CalH X.prog X.w X.K X.mg X.base k x ad ps sp) (hr : RoomH k X.A) (hc : HotC X) (ha : PA X (e :: es) t) (hg : Gl X x := by rfl)
    (hdb : (x == ("__debug__" : Str)) = false := by decide) (he : starEach (e :: es) X.env = (false, eval e X.env) :: starEach es X.env := by rfl) (hpl : (backTo pos (starEach es X.env)).any (·.1) = false := by rfl) :
    PE X (.Call (.Name x p) (e :: es) [] pos) (tCallS sp (fun _ => E0) t) := by
  obtain ⟨fd, F, b, kp, m⟩ := c
  exact pe_callH F hr hc hg m kp b (fun σ _ _ _ _ _ _ z => (show False from z).elim) ha hdb he hpl
theorem calh_of {k : Nat} {d : Dx} {N ps : List Str} {sp : Sp} {x : Str} (D : ∃ fd, DAt K d fd) (hv : d.df = []) (S : FnScope N ps (defScope d.st)) (hm : mg x = some (.ref (d.ad K)))
    (hbi : ∀ (kV doc pm : Value) (an : Option Addr) (cdv ct : Value) (us : List Value), us.length = ps.length → bindArgs (PySem.W.fnOf d.nm d.ql (defArgs d.st) (defBody d.st) (defScope d.st) .none kV doc pm an cdv ct) ⟨us, []⟩ = pure (ps.zip us))
    (len : ∀ vs H Q E, sp vs H Q E → vs.length = ps.length) (hb : BodyH P w K mg base k d N ps sp) : CalH P w K mg base (k + 1) x (d.ad K) ps sp := by
  obtain ⟨fd, D⟩ := D
  have e : d.vs K = [] := by
    unfold Dx.vs
    rw [hv]
    rfl
  have D' : FunD K d.nm d.ql (defArgs d.st) (defBody d.st) (defScope d.st) [] [] (d.ad K) fd := by
    rw [← e]
    exact D
  exact ⟨fd, okh_of D S len hb, FunD.bindsN D' hbi, D.kp, hm⟩
end
/-! ### str and repr of own instances there -/
section
variable {X : Cx} {k : Nat} {C f : Addr} {fd : FuncData} {ps : List Str} {sp : Sp}
theorem own_runH {A' : Around} {pins : List (Addr × Obj)} {σ : L2.St} {H : Hp} {s : Shared} {Q : VK} {E' : Value → Shared → Prop} {us : List Value} {vs : List V} {p : Addr × Obj} (F : FnH X.prog X.w X.K X.mg X.base CX0 k f fd ps sp)
    (hr : RoomH k A') (hot : Hot1 A' p) (hp : p ∈ X.pn) (e0 : Env0 X.prog X.w X.K X.mg X.base A' X.stack s H) (hb : Binds X.K fd ps []) (I : Inv X pins σ H s) (r : Vals vs us) (h : sp vs H Q E0) : wpAny (model X.prog X.w) A' (call (.ref f) us) (EP X pins σ Q) E' s := by
  have ln : us.length = ps.length := r.length.symm.trans (F.len _ _ _ _ h)
  have bd : BindsTo s fd ⟨us, []⟩ (ps.zip us) := by
    have := hb s us I.kIn (by rw [List.append_nil]; exact ln)
    rwa [List.append_nil] at this
  obtain ⟨g1, g2, g3, g4, g5⟩ := I.pin p (List.mem_append_left _ hp)
  refine wpAny_call (codeAny_mono (F.run A' X.stack s H ⟨us, []⟩ us vs Q E0 p hr hot ⟨g1, g2, fun hm => (List.mem_cons.mp (I.stkSub p.1 hm)).elim g3 g4, g5⟩ e0 bd r h) fun z s' hq => ?_)
  rcases z with e | fl
  · exact (show False from hq).elim
  · cases fl with
    | ret u => exact I.after hq
    | _ => exact (show False from hq).elim
theorem call_strOH (O : Own X.K C "__str__" f) (F : FnH X.prog X.w X.K X.mg X.base CX0 k f fd ps sp) (hb : Binds X.K fd ps []) (hr : RoomH (k + 1) X.A) (hc : HotC X) : CallR X (.type "str") (rText C sp) := by
  intro pins s σ H xs us Q I r h
  obtain ⟨a, dx, fs, rfl, ha, q⟩ := h
  obtain ⟨u, rfl, ru⟩ := r.one
  cases (show u = Value.ref a from ru)
  obtain ⟨mA, M, _⟩ := ins_get I.hok ha
  obtain ⟨od, J, _⟩ := M.look
  obtain ⟨p, hot, hp⟩ := hc
  have r2 : RoomH k X.A.in1.in1 := ⟨by have := hr.dp; show X.A.depth + 3 * k + 5 < _; omega, by have := hr.un; show X.A.units + 1 + 1 + 16 * k + 200 < _; omega⟩
  refine PySem.W.kso_call (by have := hr.un; show X.A.units + 1 + 1 < _; omega) I.kIn J O.at_ O.fn (wpAny_mono (own_runH (vs := [.ref a]) F r2 hot hp I.env0.in1.in1 hb I (.cons rfl .nil) q) (fun v s' z => ?_) fun _ _ z => z)
  obtain ⟨z', H', I', rz, y, ey, qz⟩ := z
  subst ey
  obtain ⟨t, e⟩ := (show ∃ t, v = Value.str y t from rz)
  cases e
  exact ⟨.str y, H', I', ⟨t, rfl⟩, qz⟩
theorem call_reprOH (O : Own X.K C "__repr__" f) (F : FnH X.prog X.w X.K X.mg X.base CX0 k f fd ps sp) (hb : Binds X.K fd ps []) (hr : RoomH (k + 1) X.A) (hc : HotC X) : CallR X (.builtin "repr") (rText C sp) := by
  intro pins s σ H xs us Q I r h
  obtain ⟨a, dx, fs, rfl, ha, q⟩ := h
  obtain ⟨u, rfl, ru⟩ := r.one
  cases (show u = Value.ref a from ru)
  obtain ⟨mA, M, _⟩ := ins_get I.hok ha
  obtain ⟨od, J, _⟩ := M.look
  obtain ⟨p, hot, hp⟩ := hc
  have r2 : RoomH k X.A.in1 := ⟨by have := hr.dp; show X.A.depth + 3 * k + 5 < _; omega, by have := hr.un; show X.A.units + 1 + 16 * k + 200 < _; omega⟩
  obtain ⟨m, hF⟩ := I.fr
  refine PySem.W.repr_K (by have := hr.un; show X.A.units + 1 < _; omega) hF I.ok.mod.kin J O.at_ O.fn (wpAny_mono (own_runH (vs := [.ref a]) F r2 hot hp I.env0.in1 hb I (.cons rfl .nil) q) (fun v s' z => ?_) fun _ _ z => z)
  obtain ⟨z', H', I', rz, y, ey, qz⟩ := z
  subst ey
  obtain ⟨t, e⟩ := (show ∃ t, v = Value.str y t from rz)
  cases e
  exact ⟨.str y, H', I', ⟨t, rfl⟩, qz⟩
end
end Hk

namespace Hk
open PySem PySem.Spec PyProof.Rows L2 HotX L2H
section
variable {P : Program} {w : World} {K : Fr} {mg : Str → Option Value} {base : Heap}
theorem hotC_n {X : Cx} {p : Addr × Obj} (h : Hot1 X.A p) (m : p ∈ X.pn) : HotC X := ⟨p, h, m⟩
/-- as BodyH, the body letting nothing out -/
abbrev BodyHn (P : Program) (w : World) (K : Fr) (mg : Str → Option Value) (base : Heap) (k : Nat) (d : Dx) (N ps : List Str) (sp : Sp) : Prop :=
  ∀ (cdv : Value) (A : Around) (outer : List Env) (s : Shared) (H : Hp) (vs : List V) (Q : VK) (E : XK) (p : Addr × Obj), Hot1 A p → RoomH k (A.deeper (envOfC d.ql (defScope d.st) s.heap.objs.size (d.ad K) cdv)) → sp vs H Q E →
      ∃ t, PSs (cxH CX0 P w K mg base N d.ql (defScope d.st) (d.ad K) cdv A outer s H E p).nox (defBody d.st) t ∧ t { nx := fun _ H' => Q .non H', rt := Q } (L2.start N vs) H
theorem calh_n {k : Nat} {d : Dx} {N ps : List Str} {sp : Sp} {x : Str} (D : ∃ fd, DAt K d fd) (hv : d.df = []) (S : FnScope N ps (defScope d.st)) (hm : mg x = some (.ref (d.ad K)))
    (hbi : ∀ (kV doc pm : Value) (an : Option Addr) (cdv ct : Value) (us : List Value), us.length = ps.length → bindArgs (PySem.W.fnOf d.nm d.ql (defArgs d.st) (defBody d.st) (defScope d.st) .none kV doc pm an cdv ct) ⟨us, []⟩ = pure (ps.zip us))
    (len : ∀ vs H Q E, sp vs H Q E → vs.length = ps.length) (hb : BodyHn P w K mg base k d N ps sp) : CalH P w K mg base (k + 1) x (d.ad K) ps sp :=
  calh_of D hv S hm hbi len fun cdv A outer s H vs Q E p hot hr h => by
    obtain ⟨t, c, q⟩ := hb cdv A outer s H vs Q E p hot hr h
    exact ⟨t, c.nox, q⟩
theorem okh_n {k : Nat} {d : Dx} {N ps : List Str} {sp : Sp} {fd : FuncData} (D : DAt K d fd) (S : FnScope N ps (defScope d.st)) (len : ∀ vs H Q E, sp vs H Q E → vs.length = ps.length) (hb : BodyHn P w K mg base k d N ps sp) :
    FnH P w K mg base CX0 (k + 1) (d.ad K) fd ps sp :=
  okh_of D S len fun cdv A outer s H vs Q E p hot hr h => by
    obtain ⟨t, c, q⟩ := hb cdv A outer s H vs Q E p hot hr h
    exact ⟨t, c.nox, q⟩
end
theorem iteTd {c A B : Prop} [Decidable c] (hc : c) (h : A) : if decide c = true then A else B := by
  rw [decide_eq_true hc]
  exact iteT h
theorem iteFd {c A B : Prop} [Decidable c] (hc : ¬ c) (h : B) : if decide c = true then A else B := by
  rw [decide_eq_false hc]
  exact iteF h
theorem unH {k : Nat} {A : Around} (r : RoomH k A) : A.units + 64 < cLine := by have := r.un; omega
/-- both branches give one value -/
theorem if_te {b : Bool} {ta tb : TE} {σ : L2.St} {H : Hp} {Q : VK} (v : V) (hq : Q v H) (ha : b = true → ∀ Q' : VK, Q' v H → ta σ H Q') (hb : b = false → ∀ Q' : VK, Q' v H → tb σ H Q') : if b = true then ta σ H Q else tb σ H Q := by
  cases b with
  | true => exact iteT (ha rfl Q hq)
  | false => exact iteF (hb rfl Q hq)
theorem cutV_from1 (x : V) (xs : List V) : cutV (x :: xs) (some 1) none = xs := by
  unfold cutV
  have e1 : HT.sIx (x :: xs).length 0 (some 1) = 1 := by
    show (if (1 : Int) < 0 then ((1 : Int) + ((x :: xs).length : Int)).toNat else min (1 : Int).toNat (x :: xs).length) = 1
    rw [if_neg (by decide), List.length_cons]
    show min 1 _ = 1
    omega
  rw [e1]
  show (List.drop 1 (x :: xs)).take ((x :: xs).length - 1) = xs
  rw [List.drop_one, List.tail_cons, List.length_cons]
  exact List.take_of_length_le (by omega)
/-! ### comprehensions of a function of each item -/
theorem lc_fn {K : Fr} {a : Addr} {xs : List V} {i : Nat} {te : TE} {σ : L2.St} {H1 : Hp} {D : Addr} {Qd : Hp → Prop} (f : V → V) (nD : H1 D = none) (hl : SqL K H1 a xs) (hz : xs.length ≤ 100000)
    (hs : ∀ x ∈ xs, ∀ (H : Hp) (R : VK), Same H1 H → (∀ H', Same H H' → R (f x) H') → te ((σ.set i none).set i (some x)) H R)
    (hd : ∀ H, Same H1 H → H D = some (.lst (xs.map f)) → Qd H) :
    ∃ W : Nat → Nat → Hp → Prop, (∃ m, W 0 m (upd H1 D (.lst []))) ∧ ∀ j m H, W j m H →
      ((Itl K a).stop j H ∧ Qd H) ∨ ((Itl K a).go j H ∧ ∃ Nx : Hp → Prop, (∀ H', Nx H' → ∃ m', m' < m ∧ W (j + 1) m' H') ∧ ∀ x H', (Itl K a).yld j H x H' → gName i x (wipe σ [i]) H' fun σ2 H2 => wipe σ2 [i] = wipe σ [i] ∧ tYes σ2 H2 fun b H3 =>
        if b = true then te σ2 H3 fun y H4 => ∃ acc, H4 D = some (.lst acc) ∧ acc.length < sizeLine ∧ Nx (upd H4 D (.lst (acc ++ [y]))) else Nx H3) := by
  refine lc_list (xs := xs) (fun j H' => Same H1 H' ∧ H' D = some (.lst ((xs.take j).map f))) ⟨same_upd nD, upd_same⟩ (fun j H' _ h => h.1.seq hl) ?_ ?_
  · rintro j x H hx ⟨s1, hD⟩
    have hj := (List.getElem?_eq_some_iff.mp hx).1
    refine ⟨by show ((σ.set i none).set i (some x)).set i none = σ.set i none; rw [List.set_set, List.set_set], ?_⟩
    unfold tYes
    dsimp only
    rw [if_pos rfl]
    refine hs x (List.mem_of_getElem? hx) H _ s1 fun H' s2 => ⟨_, s2 _ _ hD, ?_, same_upd' (s1.trans s2) nD, ?_⟩
    · rw [List.length_map, List.length_take]
      have : (100000 : Nat) < sizeLine := by decide
      omega
    · rw [upd_same, List.take_add_one, hx, List.map_append]
      rfl
  · rintro H ⟨s1, hD⟩
    rw [List.take_length] at hD
    exact hd H s1 hD
theorem lc_fnS {z : Str} {i : Nat} {te : TE} {σ : L2.St} {H1 : Hp} {D : Addr} {Qd : Hp → Prop} (f : Nat → V) (nD : H1 D = none) (hz : z.cps.size ≤ 100000)
    (hs : ∀ c ∈ z.cps.toList, ∀ (H : Hp) (R : VK), Same H1 H → (∀ H', Same H H' → R (f c) H') → te ((σ.set i none).set i (some (.str ⟨#[c]⟩))) H R)
    (hd : ∀ H, Same H1 H → H D = some (.lst (z.cps.toList.map f)) → Qd H) :
    ∃ W : Nat → Nat → Hp → Prop, (∃ m, W 0 m (upd H1 D (.lst []))) ∧ ∀ j m H, W j m H →
      ((Its z).stop j H ∧ Qd H) ∨ ((Its z).go j H ∧ ∃ Nx : Hp → Prop, (∀ H', Nx H' → ∃ m', m' < m ∧ W (j + 1) m' H') ∧ ∀ x H', (Its z).yld j H x H' → gName i x (wipe σ [i]) H' fun σ2 H2 => wipe σ2 [i] = wipe σ [i] ∧ tYes σ2 H2 fun b H3 =>
        if b = true then te σ2 H3 fun y H4 => ∃ acc, H4 D = some (.lst acc) ∧ acc.length < sizeLine ∧ Nx (upd H4 D (.lst (acc ++ [y]))) else Nx H3) := by
  refine lc_it walk_str (fun j H' => Same H1 H' ∧ H' D = some (.lst ((z.cps.toList.take j).map f))) ⟨same_upd nD, upd_same⟩ (fun _ _ _ _ => trivial) ?_ ?_
  · rintro j x H H' hj ⟨s1, hD⟩ ⟨e, c, hc, ex⟩
    subst e ex
    have hx : z.cps.toList[j]? = some c := by rw [Array.getElem?_toList]; exact hc
    refine ⟨by show ((σ.set i none).set i (some _)).set i none = σ.set i none; rw [List.set_set, List.set_set], ?_⟩
    unfold tYes
    dsimp only
    rw [if_pos rfl]
    refine hs c (List.mem_of_getElem? hx) _ _ s1 fun H' s2 => ⟨_, s2 _ _ hD, ?_, same_upd' (s1.trans s2) nD, ?_⟩
    · rw [List.length_map, List.length_take]
      have : (100000 : Nat) < sizeLine := by decide
      omega
    · rw [upd_same, List.take_add_one, hx, List.map_append]
      rfl
  · rintro H ⟨s1, hD⟩
    have e : z.cps.toList.take z.cps.size = z.cps.toList := by
      rw [← Array.length_toList]
      exact List.take_length
    rw [e] at hD
    exact hd H s1 hD
end Hk

/-! Tuples taken apart where an exception is handled. -/
namespace Hk
open PySem PySem.Spec PyProof.Rows L2 HotX L2H
section
variable {prog : Program} {w : World} {A : Around} {E : Value → Shared → Prop} {s : Shared}
theorem tuple_end_hot {it t x1 : Addr} {i : Nat} {items} {Q : Option Value → Shared → Prop} (hot : HotAt A x1 s.heap) (ne : x1 ≠ it)
    (hit : IsTupIter s.heap it t i) (ht : IsTup s.heap t items) (hx : items[i]? = none)
    (hQ : ∀ h', (∀ b o, b ≠ it → s.heap.get? b = some o → h'.get? b = some o) → Q none { s with heap := h' }) : wpAny (model prog w) A (pyNext (.ref it)) Q E s := by
  obtain ⟨o, ho, hc, hd⟩ := id hit
  obtain ⟨ol, hol, _, nl, hdl⟩ := ht
  obtain ⟨hh, o1, vs1, h1, d1, c1⟩ := hot
  unfold pyNext
  refine wpAny_bind (wpAny_attempt (wpAny_callSpecial?_slot (name := Str.ofString "__next__") hit.typeIs slot_tupleiter_next
    (wpAny_call_entry slot_tupleiter_next hit.typeIs entry_tupleiter_next ?_ (args_tupleiter_next _))))
  show wpAny _ _ (field (.ref it) 0 >>= _) _ _ s
  refine wpAny_bind (wpAny_field ho hd (x := .ref t) rfl ?_)
  show wpAny _ _ (if (Value.ref t == Value.none) = true then _ else _) _ _ s
  rw [if_neg (show ¬ ((Value.ref t == Value.none) = true) from Bool.false_ne_true)]
  show wpAny _ _ (field (.ref it) 1 >>= _) _ _ s
  refine wpAny_bind (wpAny_field ho hd (x := .int i 0) rfl ?_)
  show wpAny _ _ (seqItems? (.ref t) >>= _) _ _ s
  refine wpAny_bind (wpAny_seqItems hol hdl ?_)
  simp only [Int.toNat_natCast, hx]
  refine wpAny_bind (wpAny_rule (wpAny_bind (wpAny_setField ho hd (by simp) ?_)))
  show wpAny _ _ (newExc (.type "StopIteration") [] >>= _) _ _ _
  refine wpAny_bind ?_
  simp only [newExc, newTuple]
  refine wpAny_bind (wpAny_newObj_type ?_ (by size_fits))
  refine wpAny_bind (m := firstArgMember _ _) (wpAny_of_eq (a := Value.none) (by first | rfl | (simp only [firstArgMember]; rfl)) ?_)
  refine wpAny_newObj_type ?_ (by size_fits)
  have g1 := fun {f : Obj → Obj} => (Heap.get?_update_other s.heap f (Ne.symm ne)).trans h1
  refine raiseNew_hot ⟨hh, o1, vs1, Heap.get?_push_of_some _ (Heap.get?_push_of_some _ g1), d1, c1⟩ (Nat.ne_of_lt (Heap.lt_size (Heap.get?_push_of_some _ g1))) (Heap.get?_push_size _ rfl) rfl (by first | (simp; done) | (simp; omega) | decide) ?_
  refine wpAny_bind (wpAny_isInstance (T := "StopIteration") (b := true) ⟨_, Heap.get?_update_self _ (Heap.get?_push_size _ rfl) rfl, rfl⟩ isSubtype_stop ?_)
  refine wpAny_pure (hQ _ fun b o hb e => ?_)
  have g2 := fun {f : Obj → Obj} => (Heap.get?_update_other s.heap f (Ne.symm hb)).trans e
  rw [Heap.get?_update_other _ _ (Nat.ne_of_gt (Heap.lt_size (Heap.get?_push_of_some _ g2)))]
  exact Heap.get?_push_of_some _ (Heap.get?_push_of_some _ g2)
theorem unpackItems_tupleH {x1 t : Addr} {items : Array Value} {Q : List Value → Shared → Prop} (hot : HotAt A x1 s.heap) (ht : IsTup s.heap t items)
    (hQ : ∀ h', Heap.ExtBut s.heap.objs.size s.heap h' → Q items.toList { s with heap := h' }) : wpAny (model prog w) A (unpackItems (.ref t) items.size none) Q E s := by
  have hlt : t ≠ s.heap.objs.size := by obtain ⟨o, ho, _⟩ := ht; exact Nat.ne_of_lt (Heap.lt_size ho)
  obtain ⟨hh, o1, vs1, h1, d1, c1⟩ := hot
  have hx1 : x1 ≠ s.heap.objs.size := Nat.ne_of_lt (Heap.lt_size h1)
  unfold unpackItems
  refine wpAny_bind ?_
  · unfold notIterableAtAll
    refine wpAny_bind (wpAny_specialOf ht.typeIs slot_tuple_iter.lookup ?_)
    refine wpAny_pure ?_
    simp only [Bool.false_eq_true, if_false]
    refine wpAny_bind (wpAny_holding (iter_tuple ht ?_))
    refine wpAny_bind (wpAny_holding (draw_tuple hlt items.size 0 _ _ ⟨_, Heap.get?_push_size _ rfl, rfl, rfl⟩ (ht.push _) (by omega) fun h₁ hit₁ hs₁ => ?_))
    have hall : List.take items.size (List.drop 0 items.toList) = items.toList := by
      rw [List.drop_zero]; exact List.take_of_length_le (by simp)
    rw [hall]
    rw [if_neg (by simp)]
    have ht₁ : IsTup h₁ t items := (ht.push _).extBut hs₁.extBut hlt
    have hg : h₁.get? x1 = some o1 := hs₁.extBut x1 o1 hx1 (Heap.get?_push_of_some _ h1)
    refine wpAny_bind (wpAny_holding (tuple_end_hot (x1 := x1) ⟨hh, o1, vs1, hg, d1, c1⟩ hx1 hit₁ ht₁ (by simp) fun h₂ he₂ => ?_))
    simp only [Option.isSome_none, Bool.false_eq_true, if_false]
    refine wpAny_pure (hQ h₂ fun b o hb e => he₂ b o hb (hs₁.extBut b o hb (Heap.get?_push_of_some _ e)))
theorem assign_Tuple_tupleH {env : Env} {elts : List Expr} {k1} {pos : Pos} {x1 t : Addr} {items : Array Value} {Q : Unit → Shared → Prop} (hot : HotAt A x1 s.heap) (ht : IsTup s.heap t items)
    (hn : (assignEach elts env).length = items.size) (hstar : (assignEach elts env).findIdx? (·.1) = none)
    (h : ∀ h', Heap.ExtBut s.heap.objs.size s.heap h' → wpAny (model prog w) A (assignInOrder ((assignEach elts env).map (·.2)) items.toList) Q E { s with heap := h' }) :
    wpAny (model prog w) A (assign (.Tuple elts k1 pos) env (.ref t)) Q E s := by
  rw [assign_Tuple]
  refine wpAny_bind (wpAny_standAt ?_)
  unfold unpack
  rw [hn, hstar]
  exact wpAny_bind (wpAny_holding (unpackItems_tupleH hot ht h))
end
section
variable {X : Cx}
theorem ps_parH {i j : Nat} {x y : Str} {a b : Expr} {ta : TA} {px py pt pos : Pos} {kt k2 pt2} (hc : HotC X) (hN : X.N.Nodup) (hi : X.N[i]? = some x) (hj : X.N[j]? = some y) (hij : i ≠ j)
    (hx : X.env.scope.names.lookup x = some .local) (hy : X.env.scope.names.lookup y = some .local) (ha : PA X [a, b] ta)
    (hw : swappedStores [.Tuple [.Name x px, .Name y py] kt pt] (.Tuple [a, b] k2 pt2) X.env = pure (some [x, y]))
    (hs : swapsWithSole [.Tuple [.Name x px, .Name y py] kt pt] (.Tuple [a, b] k2 pt2) pos.line X.env = pure false := by rfl) :
    PS X (.Assign [.Tuple [.Name x px, .Name y py] kt pt] (.Tuple [a, b] k2 pt2) pos) (tPar i j ta) := by
  refine ⟨fun pins s σ H D I h => ?_⟩
  rw [exec_Assign_arm]
  refine wpAny_bind (wpAny_standAt ?_)
  rw [hs]
  refine wpAny_bind (wpAny_pure ?_)
  rw [if_neg (by decide)]
  refine wpAny_bind (Tuple_ (thn (ha.run _ pins s σ H _ I h) fun us s1 ⟨vs, H1, I1, r1, q1⟩ => ?_))
  obtain ⟨v, w, e1, q1⟩ := q1
  subst e1
  obtain ⟨u1, u2, rfl, rv, rw'⟩ : ∃ u1 u2, us = [u1, u2] ∧ RelV v u1 ∧ RelV w u2 := by
    cases r1 with
    | cons p q =>
      cases q with
      | cons p' q' =>
        cases q'
        exact ⟨_, _, rfl, p, p'⟩
  refine wpAny_newObj_type ?_ (by show 2 ≤ sizeLine; decide)
  have I2 : Inv X pins σ H1 { s1 with heap := s1.heap.push { cls := .type "tuple", data := .seq [u1, u2].toArray } } := I1.kept (t' := s1.toks) fun b o e => Heap.get?_push_of_some _ e
  rw [hw]
  refine wpAny_bind (wpAny_pure ?_)
  obtain ⟨x1, hot⟩ := hc.at I2
  show wpAny (model X.prog X.w) X.A (do rule "assign.swapped-stores"; let items ← unpackItems (.ref s1.heap.objs.size) 2 none; assignInOrder [fun v => bindName X.env y v, fun v => bindName X.env x v] items.reverse; pure Flow.next) _ _ _
  refine wpAny_bind (wpAny_rule (wpAny_bind (unpackItems_tupleH (items := #[u1, u2]) hot (IsTup.new s1.heap _) fun h' hx' => ?_)))
  have I3 := I2.kept (h' := h') (t' := s1.toks) fun b o e => hx' b o (Nat.ne_of_lt (Heap.lt_size e)) e
  show wpAny _ _ (assignInOrder [fun v => bindName X.env y v, fun v => bindName X.env x v] [u2, u1] >>= fun _ => pure Flow.next) _ _ _
  refine wpAny_bind (assignInOrder_cons (wpAny_bindName (store_ok I3 hN hj (.inl hy) rw' (fun s2 I4 => ?_) (.inr hy))))
  refine assignInOrder_cons (wpAny_bindName (store_ok I4 hN hi (.inl hx) rv (fun s3 I5 => assignInOrder_nil (wpAny_pure ?_)) (.inr hx)))
  rw [List.set_comm _ _ (Ne.symm hij)] at I5
  exact ⟨_, H1, I5, q1⟩
end
end Hk

/-! Own exceptions made where nothing is handled, with their context known to be None; defs that raise such ones. -/
namespace Hk
open PySem PySem.Spec PyProof.Rows L2
theorem pmk_oexN {X : Cx} {CX : CXT} {x : Str} {e : Expr} {es : List Expr} {ta : TA} {p pos : Pos} {C fI : Addr} {k : Nat} {fd : FuncData} {ps : List Str} {sp : Sp} (T : OexC X.K C) (iC : PySem.W.findIn X.K (.ref C) "__init__" = some (some (.ref fI))) (tI : PySem.W.typeIn X.K (.ref fI) = some (.type "function"))
    (F1 : FnOk X.prog X.w X.K X.mg X.base CX k fI fd ps sp) (hr : Room (k + 1) X.A) (hb : Binds X.K fd ps []) (hx : Passes CX X (fun _ _ _ => False)) (hg : Gl X x) (hm : X.mg x = some (.ref C)) (ha : PA X (e :: es) ta)
    (hdb : (x == ("__debug__" : Str)) = false := by decide) (he : starEach (e :: es) X.env = (false, eval e X.env) :: starEach es X.env := by rfl) (hpl : (backTo pos (starEach es X.env)).any (·.1) = false := by rfl) :
    L2N.PMk X (.Call (.Name x p) (e :: es) [] pos) (tMkO C sp [] ta) := by
  intro pins s σ H Q I h
  obtain ⟨nm, q, N, bs, bm, sn, sub, ab, col, dd, k0, k1, k2, k3, k5, hC, hbm⟩ := T.cls
  refine wpAny_Call_Name_kw (ld_glob I hg hm ?_ hdb)
  refine PySem.W.callWith_K (h₀ := X.base) I.ok.mod.kin T.kC (thn (ha.run pos pins s σ H _ I h) fun us s1 ⟨vs, H1, I1, r1, hz, q1⟩ => ⟨I1.kIn, ?_⟩) he hpl
  show wpAny _ _ (call (.ref C) us) _ _ _
  obtain ⟨hp, g, dr, tk, os⟩ := s1
  have hsz : hp.objs.size ≤ hp.objs.size + 1 := Nat.le_succ _
  have hq := q1 (hp.objs.size + 1) (I1.hok.fresh hsz)
  rw [List.append_nil] at hq
  have kk : ∀ b o, hp.get? b = some o → ((hp.push (PySem.W.kdv_tup us)).push (PySem.HandSPX.excO C hp.objs.size)).get? b = some o := fun b o e => Heap.get?_push_of_some _ (Heap.get?_push_of_some _ e)
  have hget : ((hp.push (PySem.W.kdv_tup us)).push (PySem.HandSPX.excO C hp.objs.size)).get? (hp.objs.size + 1) = some (PySem.HandSPX.excO C hp.objs.size) := by heap_get
  have I2 : Inv X pins σ (upd H1 (hp.objs.size + 1) (exo (hp.objs.size + 1) C none)) ⟨(hp.push (PySem.W.kdv_tup us)).push (PySem.HandSPX.excO C hp.objs.size), g, dr, tk, os⟩ :=
    I1.laid (t' := tk) (a := hp.objs.size + 1) (o := exo (hp.objs.size + 1) C none) kk hsz (exo_ok hget)
  have r2 : Vals (V.ref (hp.objs.size + 1) :: vs) (Value.ref (hp.objs.size + 1) :: us) := .cons rfl r1
  have hl : (Value.ref (hp.objs.size + 1) :: us ++ []).length = ps.length := by
    rw [List.append_nil, ← r2.length, F1.len _ _ _ _ hq]
  have hus : us.length ≤ sizeLine := by
    rw [← Paired.length r1, sizeLine_eq]
    omega
  have b2 := hb _ (Value.ref (hp.objs.size + 1) :: us) I2.kIn hl
  rw [List.append_nil] at b2
  refine wpAny_call (PySem.HandSPX.call_own F.excBase_ValueError (fun Y => PySem.HandSPX.refsVE_contains Y bm hbm) (I1.kIn _ _ hC) (PySem.W.looks_findIn I1.kIn iC) (fun self => PySem.W.bind_fn I1.kIn self tI) hus
    (codeAny_mono (F1.run _ X.stack _ _ ⟨Value.ref (hp.objs.size + 1) :: us, []⟩ (Value.ref (hp.objs.size + 1) :: us) _ _ (fun _ _ _ => False) (hr.make C us []) (I2.env0.make C us []) b2 r2 hq) fun r s' hq' => ?_))
  cases r with
  | error er => exact hx pins σ _ _ er s' I2 hq'
  | ok fl =>
    cases fl with
    | ret u =>
      obtain ⟨v, H2, os2, bare2, un2, hok2, rv, ev, d, fs, ea, ed, hd1, q2⟩ := hq'
      subst ev
      obtain ⟨h2, g2, d2, t2, os'⟩ := s'
      obtain ⟨t0, G, J, kG, ge, hoe, na⟩ := mk_end0 (d2 := d2) (t2 := t2) I1 hsz kk un2 hok2 os2 bare2 ea ed hd1
      refine ⟨rv, ⟨hp.objs.size + 1, _, _, ⟨G, g2, d2, t2, os'⟩, _, .ref C, some d, rfl, J, kG, ge, hoe, ⟨rfl, rfl, fun vs hv => ?_⟩, rfl, rfl, na, rfl, bare2, raises_own T.exC T.tyC, q2⟩⟩
      cases hv
      rfl
    | next => exact False.elim hq'
    | brk => exact False.elim hq'
    | cont => exact False.elim hq'
/-! ### defs that raise (context None) -/
section
variable {P : Program} {w : World} {K : Fr} {mg : Str → Option Value} {base : Heap}
def CalN (P : Program) (w : World) (K : Fr) (mg : Str → Option Value) (base : Heap) (k : Nat) (x : Str) (ad : Addr) (ps : List Str) (sp : Sp) : Prop :=
  ∃ fd : FuncData, FnOk P w K mg base (L2N.CX P w) k ad fd ps sp ∧ Binds K fd ps [] ∧ PySem.W.keepIn K (.ref ad) = true ∧ mg x = some (.ref ad)
theorem pe_cn {X : Cx} {k : Nat} {x : Str} {ad : Addr} {ps : List Str} {sp : Sp} {W : WX} {e : Expr} {es : List Expr} {t : TA} {p pos : Pos} (c : CalN X.prog X.w X.K X.mg X.base k x ad ps sp) (tk : L2N.Takes X W) (hr : Room k X.A) (ha : PA X (e :: es) t) (hg : Gl X x := by rfl)
    (hdb : (x == ("__debug__" : Str)) = false := by decide) (he : starEach (e :: es) X.env = (false, eval e X.env) :: starEach es X.env := by rfl) (hpl : (backTo pos (starEach es X.env)).any (·.1) = false := by rfl) :
    PE X (.Call (.Name x p) (e :: es) [] pos) (tCallS sp (WE W) t) := by
  obtain ⟨fd, F, b, kp, m⟩ := c
  exact pe_callS F hr hg m kp b (fun σ => L2N.passAt tk σ) ha hdb he hpl
abbrev BodyN (P : Program) (w : World) (K : Fr) (mg : Str → Option Value) (base : Heap) (k : Nat) (d : Dx) (N ps : List Str) (sp : Sp) : Prop :=
  ∀ (cdv : Value) (A : Around) (outer : List Env) (s : Shared) (H : Hp) (vs : List V) (Q : VK) (E : XK), Room k (A.deeper (envOfC d.ql (defScope d.st) s.heap.objs.size (d.ad K) cdv)) → sp vs H Q E →
      ∃ t, PSs (cxOf (L2N.CX P w) P w K mg base N d.ql (defScope d.st) (d.ad K) cdv A outer s H E) (defBody d.st) t ∧ t { nx := fun _ H' => Q .non H', rt := Q } (start N vs) H
theorem okn_of {k : Nat} {d : Dx} {N ps : List Str} {sp : Sp} {fd : FuncData} (D : DAt K d fd) (S : FnScope N ps (defScope d.st)) (len : ∀ vs H Q E, sp vs H Q E → vs.length = ps.length) (hb : BodyN P w K mg base k d N ps sp) :
    FnOk P w K mg base (L2N.CX P w) (k + 1) (d.ad K) fd ps sp := FunD.ok D S len hb
end
end Hk

/-! A static method that may raise, called off its class by keyword or by position. -/
namespace Hk
open PySem PySem.Spec PyProof.Rows L2
def tStatKX (C : Addr) (sp : Sp) (E : L2.St → XK) (ta : TE) (tk : TA) : TE := fun σ H Q => ta σ H fun x H1 => x = .ref C ∧ tk σ H1 fun vs H2 => sp vs H2 Q (E σ)
section
variable {X : Cx} {CX : CXT} {E : L2.St → XK} {k : Nat} {C p g : Addr} {mc : Value} {m : Str} {fd : FuncData} {ps : List Str} {sp : Sp} {o : Expr} {kws : List Keyword} {e : Expr} {es : List Expr} {ta : TE} {tk : TA} {pos apos : Pos} {pl : Sem Bool}
theorem pe_statKX (he : PE X o ta) (S : Stat X.K C mc m p g) (F : FnOk X.prog X.w X.K X.mg X.base CX k g fd ps sp) (hr : Room k X.A) (hx : ∀ σ, PassesAt CX X σ (E σ))
    (hbk : ∀ (s : Shared) (ws : List Value), X.K.In s.heap → ws.length = ps.length → BindsTo s fd ⟨[], ps.zip ws⟩ (ps.zip ws)) (hk : PK X kws tk)
    (hall : (backToKw pos (keywordEach kws X.env)).all (·.1.isSome) = true := by rfl) (hks : (backToKw pos (keywordEach kws X.env)).filterMap (·.1) = ps := by rfl)
    (hpl : ((backTo pos (starEach [] X.env)).any (·.1) || (backToKw pos (keywordEach kws X.env)).any (·.1.isNone)) = false := by rfl)
    (ht : eval (.Call (.Attribute o m apos) [] kws pos) X.env = (do
      let ov ← eval o X.env
      standAt apos.atName
      let (f, first) ← holding [ov] (getMethod ov m pl)
      callWith pos f first (backTo pos (starEach [] X.env)) (backToKw pos (keywordEach kws X.env))) := by rfl) :
    PE X (.Call (.Attribute o m apos) [] kws pos) (tStatKX C sp E ta tk) := by
  refine ⟨fun pins s σ H Q I h => PySem.W.methodCall_KW (pl := pl) (thn (he.run pins s σ H _ I h) fun u s1 hu => ?_) ht⟩
  obtain ⟨x, H1, I1, rx, ex, q⟩ := hu
  subst ex
  obtain rfl : u = Value.ref C := rx
  obtain ⟨rest, hp⟩ := S.rc
  refine PySem.W.method_cls I1.kIn S.rd.ga (PySem.W.cls_bind I1.kIn S.rd.rd S.at_ (wpAny_call (PySem.W.sm_get (s := { s1 with toks := s1.toks + 1 }) I1.kIn hp (PySem.W.handed_on rfl ?_))))
  refine PySem.W.callWith_KW0 (h₀ := X.base) I1.ok.mod.kin S.kp hall (thn (hk.run pos pins _ σ H1 _ (I1.tok _) q) fun ws s2 hw => ?_) hpl
  obtain ⟨vs, H2, I2, rv, q2⟩ := hw
  have ln : ws.length = ps.length := rv.length.symm.trans (F.len _ _ _ _ q2)
  refine ⟨I2.kIn, ?_⟩
  rw [hks]
  refine wpAny_call (codeAny_mono (F.run X.A X.stack s2 H2 ⟨[], ps.zip ws⟩ ws vs Q (E σ) hr I2.env0 (hbk s2 ws I2.kIn ln) rv q2) fun z s' hq => ?_)
  rcases z with er | fl
  · exact hx σ pins H2 s2 er s' I2 hq
  · cases fl with
    | ret u => exact I2.after hq
    | _ => exact (show False from hq).elim
theorem pe_statP (he : PE X o ta) (S : Stat X.K C mc m p g) (F : FnOk X.prog X.w X.K X.mg X.base CX k g fd ps sp) (hr : Room k X.A) (hx : ∀ σ, PassesAt CX X σ (E σ))
    (hb : Binds X.K fd ps []) (ha : PA X (e :: es) tk)
    (hst : starEach (e :: es) X.env = (false, eval e X.env) :: starEach es X.env := by rfl) (hpl : (backTo pos (starEach es X.env)).any (·.1) = false := by rfl)
    (ht : eval (.Call (.Attribute o m apos) (e :: es) [] pos) X.env = (do
      let ov ← eval o X.env
      standAt apos.atName
      let (f, first) ← holding [ov] (getMethod ov m pl)
      callWith pos f first (backTo pos (starEach (e :: es) X.env)) (backToKw pos (keywordEach [] X.env))) := by rfl) :
    PE X (.Call (.Attribute o m apos) (e :: es) [] pos) (tStatKX C sp E ta tk) := by
  refine ⟨fun pins s σ H Q I h => PySem.W.methodCall_KW (pl := pl) (thn (he.run pins s σ H _ I h) fun u s1 hu => ?_) ht⟩
  obtain ⟨x, H1, I1, rx, ex, q⟩ := hu
  subst ex
  obtain rfl : u = Value.ref C := rx
  obtain ⟨rest, hp⟩ := S.rc
  refine PySem.W.method_cls I1.kIn S.rd.ga (PySem.W.cls_bind I1.kIn S.rd.rd S.at_ (wpAny_call (PySem.W.sm_get (s := { s1 with toks := s1.toks + 1 }) I1.kIn hp (PySem.W.handed_on rfl ?_))))
  refine PySem.W.callWith_K (h₀ := X.base) I1.ok.mod.kin S.kp (thn (ha.run pos pins _ σ H1 _ (I1.tok _) q) fun us s2 ⟨vs, H2, I2, r, q2⟩ => ⟨I2.kIn, ?_⟩) hst hpl
  exact run_fnS F hr hb (hx σ) I2 r q2
end
end Hk

/-! Own exceptions with one field: their __init__, raised where nothing is handled. -/
namespace Hk
open PySem PySem.Spec PyProof.Rows L2
theorem iteNSn {c A B : Prop} [Decidable c] (hc : ¬ c) (h : A) : if (!decide c) = true then A else B := by
  rw [decide_eq_false hc]
  exact iteT h
/-- __init__(self, f): self.f = f -/
def spXin (C : Addr) (f : Str) : Sp := fun vs H Q _ => ∃ (a : Addr) (y : V), vs = [.ref a, y] ∧ H a = some (exo a C none) ∧ ∀ dx, H dx = none → dx ≠ a → Q .non (upd (upd H dx (exd dx [(f, y)])) a (exo a C (some dx)))
theorem xin_mk {C : Addr} {f : Str} {H1 : Hp} {y : V} {Q : XK} (k : ∀ d, H1 d = none → Q (.ref C) (some d) (upd H1 d (.xd [(f, y)]))) : [y].length ≤ 1000 ∧ ∀ a, H1 a = none → spXin C f (.ref a :: ([y] ++ [])) (upd H1 a (exo a C none))
    (fun v H2 => v = .non ∧ ∃ (d : Addr) (fs : List (Str × V)), H2 a = some (exo a C (some d)) ∧ H2 d = some (exd d fs) ∧ H1 d = none ∧ Q (.ref C) (some d) (upd (del H2 a) d (.xd fs))) (fun _ _ _ => False) := by
  refine ⟨by show 1 ≤ 1000; decide, fun a na => ⟨a, y, rfl, upd_same, fun dx nd ne => ⟨rfl, dx, [(f, y)], upd_same, ?_, ?_, ?_⟩⟩⟩
  · rw [upd_ne ne, upd_same]
  · rw [upd_ne ne] at nd
    exact nd
  · have n1 : H1 dx = none := by
      rw [upd_ne ne] at nd
      exact nd
    have e : upd (del (upd (upd (upd H1 a (exo a C none)) dx (exd dx [(f, y)])) a (exo a C (some dx))) a) dx (.xd [(f, y)]) = upd H1 dx (.xd [(f, y)]) := by
      funext b
      by_cases h1 : b = dx
      · rw [h1, upd_same, upd_same]
      · rw [upd_ne h1, upd_ne h1]
        by_cases h2 : b = a
        · rw [h2, del_same, na]
        · rw [del_ne h2, upd_ne h2, upd_ne h1, upd_ne h2]
    rw [e]
    exact k dx n1
section
variable {P : Program} {w : World} {K : Fr} {mg : Str → Option Value} {base : Heap}
/-- a class over ValueError with one field -/
structure XrC (P : Program) (w : World) (K : Fr) (mg : Str → Option Value) (base : Heap) (x f : Str) : Prop where
  c : OexC K (He.ga K x)
  iC : PySem.W.findIn K (.ref (He.ga K x)) "__init__" = some (some (.ref (mAd x "__init__" K)))
  tI : PySem.W.typeIn K (.ref (mAd x "__init__" K)) = some (.type "function")
  m : mg x = some (.ref (He.ga K x))
  fn : ∃ fd, FnOk P w K mg base CX0 1 (mAd x "__init__" K) fd [("self" : Str), f] (spXin (He.ga K x) f) ∧ Binds K fd [("self" : Str), f] []
theorem xin_ok {d : Dx} {x f : Str} {fd : FuncData} (D : DAt K d fd) (S : FnScope [("self" : Str), f] [("self" : Str), f] (defScope d.st)) (T : OexC K (He.ga K x)) (hn : PySem.W.findIn K (.ref (He.ga K x)) f = some none)
    (hb : ∀ (cdv : Value) (A : Around) (outer : List Env) (s : Shared) (H : Hp) (E : XK), PSs (cxOf CX0 P w K mg base [("self" : Str), f] d.ql (defScope d.st) (d.ad K) cdv A outer s H E).nox (defBody d.st) (tSeq (tOst K f (tVar 0) (tVar 1)) tNext)) :
    FnOk P w K mg base CX0 1 (d.ad K) fd [("self" : Str), f] (spXin (He.ga K x) f) := by
  refine ok_of (N := [("self" : Str), f]) D S (fun vs H Q E h => ?_) (fun cdv A outer s H vs Q E hr h => ?_)
  · obtain ⟨a, y, rfl, _⟩ := h
    rfl
  · obtain ⟨a, y, rfl, ha, k⟩ := h
    exact ⟨_, hb cdv A outer s H E, y, rfl, .ref a, rfl, a, _, rfl, T, hn, .inl ⟨ha, fun dx n ne => k dx n ne⟩⟩
end
/-- raise C(e); at the end: xin_mk -/
def tRz (C : Addr) (f : Str) (W : WX) (ta : TA) : TS := fun _ σ H => tMkO C (spXin C f) [] ta σ H fun cls d H' => W cls d σ H'
section
variable {X : Cx} {x f : Str} {e : Expr} {es : List Expr} {ta : TA} {p pos pos' : Pos} {W : WX}
theorem ps_rz (c : XrC X.prog X.w X.K X.mg X.base x f) (hr : Room 2 X.A) (hg : Gl X x) (tk : L2N.Takes X W) (ha : PA X (e :: es) ta) (hc : X.calm = true := by rfl)
    (hdb : (x == ("__debug__" : Str)) = false := by decide) (he : starEach (e :: es) X.env = (false, eval e X.env) :: starEach es X.env := by rfl) (hpl : (backTo pos (starEach es X.env)).any (·.1) = false := by rfl) :
    PS X (.Raise (some (.Call (.Name x p) (e :: es) [] pos)) none pos') (tRz (He.ga X.K x) f W ta) := by
  obtain ⟨fd, F, b⟩ := c.fn
  exact L2N.ps_raise hc tk (pmk_oexN c.c c.iC c.tI F hr b pass0 hg c.m ha hdb he hpl)
end
end Hk

/-! repr of data wherever there is room; one of two rules. -/
namespace Hk
open PySem PySem.Spec PyProof.Rows L2 HotX L2H
section
variable {X : Cx}
theorem callr_or {f : Value} {r1 r2 : List V → Hp → VK → Prop} (h1 : CallR X f r1) (h2 : CallR X f r2) : CallR X f (fun xs H Q => r1 xs H Q ∨ r2 xs H Q) := by
  intro pins s σ H xs us Q I r h
  rcases h with h | h
  · exact h1 pins s σ H xs us Q I r h
  · exact h2 pins s σ H xs us Q I r h
theorem call_reprDU (hc : Calm X.A) (hu : X.A.units + 200 < cLine) : CallR X (.builtin "repr") (rRepr X.K) := by
  intro pins s σ H xs us Q I r h
  obtain ⟨x, d, rfl, hd, hs, hdp, hz, q⟩ := h
  obtain ⟨u, rfl, ru⟩ := r.one
  cases hd with
  | non =>
    cases ru
    rw [PyData.shown_none] at q
    exact PySem.P.repr_of_none ⟨.str _, H, I.tok _, ⟨_, rfl⟩, q⟩
  | bl b =>
    cases ru
    rw [PyData.shown_bool] at q
    refine PySem.P.repr_of_bool ⟨.str _, H, I.tok _, ⟨_, rfl⟩, ?_⟩
    cases b <;> exact q
  | int i =>
    obtain ⟨t, rfl⟩ := ru
    rw [PyData.shown_int] at q
    refine PySem.P.repr_of_int ?_ ⟨.str _, H, I.tok _, ⟨_, rfl⟩, q⟩
    simpa [PyData.showable] using hs
  | str y =>
    obtain ⟨t, rfl⟩ := ru
    rw [PyData.shown_str] at q hz
    exact PySem.P.repr_of_str ⟨.str _, H, I.tok _, ⟨_, rfl⟩, q⟩ hz
  | @lst a ys ds h1 h2 =>
    have e : u = Value.ref a := ru
    subst e
    have nd := Dp.noDict _ _ (Dp.lst h1 h2)
    obtain ⟨as, hr'⟩ := Dp.reads I (.list ds) _ _ (Dp.lst h1 h2) rfl
    refine PySem.repr_of_reads' hr' hs (fun z => by rw [nd] at z; exact nomatch z) hc ?_ (fun b o z => z) (fun h' u tk kp => ⟨.str _, H, I.kept kp, ⟨_, rfl⟩, q⟩) hz
    omega
  | @tup a ys ds h1 h2 =>
    have e : u = Value.ref a := ru
    subst e
    have nd := Dp.noDict _ _ (Dp.tup h1 h2)
    obtain ⟨as, hr'⟩ := Dp.reads I (.tuple ds) _ _ (Dp.tup h1 h2) rfl
    refine PySem.repr_of_reads' hr' hs (fun z => by rw [nd] at z; exact nomatch z) hc ?_ (fun b o z => z) (fun h' u tk kp => ⟨.str _, H, I.kept kp, ⟨_, rfl⟩, q⟩) hz
    omega
/-- repr of data or of an own instance -/
def rRp (K : Fr) (C : Addr) (sp : Sp) : List V → Hp → VK → Prop := fun xs H Q => rRepr K xs H Q ∨ rText C sp xs H Q
theorem takesN0 (X : Cx) : L2N.Takes X (fun _ _ _ _ => False) := fun _ _ ⟨_, _, _, _, _, _, _, _, _, _, _, _, _, _, _, _, w⟩ => w.elim
theorem hotC_suite {a : Addr} {oe : Obj} {cls : Value} {d : Option Addr} {pn : List (Addr × Obj)} (hz : L2N.Zn cls d oe) (hf : ∃ vs, oe.data = .fields vs) : HotC (X.suite a ((a, oe) :: pn)) := by
  obtain ⟨vs, hv⟩ := hf
  exact hotC_n (p := (a, oe)) ⟨rfl, vs, hv, hz.2.2 vs hv⟩ List.mem_cons_self
end
end Hk

/-! A try with clauses `except HEAD as n`, HEAD a class or a tuple of classes; contexts None. -/
namespace Hk
open PySem PySem.Spec PyProof.Rows L2 HotX L2H
theorem flying_keep {B h h' : Heap} {l : List Env} {e : Addr} {Z : Obj → Prop} (x : PySem.HandSPX.FlyingZ B l e Z h) (k : ∀ b o, h.get? b = some o → h'.get? b = some o) : PySem.HandSPX.FlyingZ B l e Z h' := by
  obtain ⟨x1, x2, x3, oe, vs, T, oT, ts, he, hz, hd, h1, hnT, hTe, hT, hdT, h3⟩ := x
  exact ⟨fun b o q => k b o (x1 b o q), x2, Heap.FunFrames.of_keeps (fun b o q _ => ⟨o, k b o q, rfl⟩) x3, oe, vs, T, oT, ts, k _ _ he, hz, hd, h1, hnT, hTe, k _ _ hT, hdT, h3⟩
/-- what a head answers of the class of what flies -/
def HeadIs (X : Cx) (te : Expr) (m : Value → Option Bool) : Prop :=
  ∀ (a : Addr) (oe : Obj) (pn : List (Addr × Obj)) (σ : L2.St) (H : Hp) (s : Shared) (b : Bool) (Q : Bool → Shared → Prop) (E : Value → Shared → Prop), Inv (X.suite a ((a, oe) :: pn)) [] σ H s → s.heap.get? a = some oe → m oe.cls = some b →
    (∀ (h' : Heap) (t' : Nat), (∀ b o, s.heap.get? b = some o → h'.get? b = some o) → Q b { s with heap := h', toks := t' }) →
    wpAny (model X.prog X.w) (X.A.mark (some (.ref a))) (eval te X.env) (fun c s1 => wpAny (model X.prog X.w) (X.A.mark (some (.ref a))) (excMatches (.ref a) c) Q E s1) E s
section
variable {X : Cx}
theorem head_name {x : Str} {c : Value} {np : Pos} (hc : Names X x c) : HeadIs X (.Name x np) (fun cls => PySem.W.exmOne X.K cls c) := by
  intro a oe pn σ H s b Q E I he hm q
  have LT : PySem.W.Looks (model X.prog X.w) s.heap (typeOf (.ref a)) oe.cls := fun A Q E s k q => wpAny_typeOf_ref (k _ _ he) q
  have LM := PySem.W.exm_one (M := model X.prog X.w) I.kIn LT hm
  have go : wpAny (model X.prog X.w) (X.A.mark (some (.ref a))) (excMatches (.ref a) c) Q E s := LM.here (q s.heap s.toks fun _ _ z => z)
  obtain ⟨hg, hdbg, hm' | ⟨hm', hv, hnn⟩⟩ := hc
  · exact ld_glob (X := X.suite a ((a, oe) :: pn)) I hg hm' go hdbg
  · exact ld_blt (X := X.suite a ((a, oe) :: pn)) I hg hm' hv go hnn hdbg
inductive HdsA (X : Cx) : List ExceptHandler → List ((Value → Option Bool) × Nat × (Addr → Value → Option Addr → TS)) → Prop
  | nil : HdsA X [] []
  | cons {te : Expr} {m : Value → Option Bool} {n : Str} {i : Nat} {ts : Addr → Value → Option Addr → TS} {b₀ : Stmt} {suite : List Stmt} {pos' : Pos} {hds : List ExceptHandler} {l : List ((Value → Option Bool) × Nat × (Addr → Value → Option Addr → TS))}
      (hd : HeadIs X te m) (hi : X.N[i]? = some n) (hln : X.env.kindOf n = some .local)
      (hsu : ∀ (a : Addr) (oe : Obj) (cls : Value) (d : Option Addr) (pn : List (Addr × Obj)), L2N.Zn cls d oe → (∃ vs, oe.data = .fields vs) → PSs (X.suite a ((a, oe) :: pn)) (b₀ :: suite) (ts a cls d)) (r : HdsA X hds l) :
      HdsA X (.ExceptHandler (some te) (some n) (b₀ :: suite) pos' :: hds) ((m, i, ts) :: l)
/-- what the clauses wish of an exception of the body -/
def wManyA (Wout : WX) (D : Ends) : List ((Value → Option Bool) × Nat × (Addr → Value → Option Addr → TS)) → WX
  | [] => Wout
  | (m, i, ts) :: r => fun cls d σ H => ∃ b, m cls = some b ∧ (b = true → ∀ a, H a = none → ts a cls d { nx := fun σ' H' => D.nx (σ'.set i none) H', rt := D.rt, bk := fun σ' H' => D.bk (σ'.set i none) H', ct := fun σ' H' => D.ct (σ'.set i none) H' } (σ.set i (some (.ref a))) H) ∧
      (b = false → wManyA Wout D r cls d σ H)
end
section
variable {X : Cx} {body : List Stmt} {h₀ : ExceptHandler} {hds : List ExceptHandler} {l : List ((Value → Option Bool) × Nat × (Addr → Value → Option Addr → TS))} {pos : Pos} {tb : WX → TS} {Wout : WX}
theorem ps_try_A (hs : X.stack = X.env :: X.outer) (hf : X.env.frame = some X.env.locals) (hN : X.N.Nodup) (tk : L2N.Takes X Wout)
    (hb : ∀ (W : WX) (pn : List (Addr × Obj)) (xe : Value → Shared → Prop), L2N.Takes (X.tr pn xe) W → PassesOwn (model X.prog X.w) X.A X.env xe → PSs (X.tr pn xe) body (tb W))
    (hh : HdsA X (h₀ :: hds) l) : PS X (.Try body (h₀ :: hds) [] [] pos) (fun D σ H => tb (wManyA Wout D l) D σ H) := by
  refine ⟨fun pins s σ H D I h => ?_⟩
  have ok := I.ok
  have hfr : X.A.frames = some (X.env :: X.outer) := by rw [ok.frames, hs]
  refine wpAny_Try_except ?_
  refine wpAny_mono ((hb (wManyA Wout D l) (X.pn ++ pins) (fun e s₁ => wpAny (model X.prog X.w) X.A (noteFrame e X.env) (fun _ s₂ => wpAny (model X.prog X.w) X.A (setFlight e none) (fun _ s₃ =>
    wpAny (model X.prog X.w) X.A (handleBy e X.env (h₀ :: hds)) (SP X pins D) X.xe s₃) X.xe s₂) X.xe s₁) (fun u s' xx => ?_) PassesOwn.looking).run [] s σ H D (I.toTry _) h) (fun f s1 hsp => ?_) (fun e s1 he => he)
  · obtain ⟨a, B, sI, pins', σ', H', cls, d, rfl, J', nb, up, sky, na, os, ag, w⟩ := xx
    have J : Inv X pins σ' H' sI := J'.ofTry ok
    have sky' : L2.Sky B (X.env :: X.outer) a (L2N.Zn cls d) X.env.locals s'.heap := by rw [← hs]; exact sky
    show wpAny (model X.prog X.w) X.A (noteFrame (.ref a) X.env) _ _ _
    refine L2N.Sky.land L2N.Zn.steady hfr hf sky' fun h3 fl3 up3 => ?_
    have notFr : ∀ {h : Heap} {o : Obj} {vs : Array Value}, h.FunFrames B (X.env :: X.outer) → h.get? a = some o → o.data = .fields vs → a ∉ frs (X.env :: X.outer) := fun {h o vs} ff e dd hm => by
      obtain ⟨_, o', e', hnf⟩ := ff.mem hm
      rw [e] at e'; cases e'
      exact hnf _ dd
    obtain ⟨oe3, vs3, he3, hz3, hd3⟩ := fl3.there
    have nfr := notFr fl3.2.2.1 he3 hd3
    have nL : a ≠ X.env.locals := fun z => nfr (List.mem_filterMap.mpr ⟨X.env, List.mem_cons_self, by rw [hf, z]⟩)
    have nF : a ∉ X.fs := fun hm => by
      obtain ⟨e, he, q⟩ := List.mem_filterMap.mp hm
      exact nfr (List.mem_filterMap.mpr ⟨e, List.mem_cons_of_mem _ he, q⟩)
    have go : ∀ {hds' : List ExceptHandler} {l' : List ((Value → Option Bool) × Nat × (Addr → Value → Option Addr → TS))}, HdsA X hds' l' → ∀ (hp : Heap) (tk' : Nat), PySem.HandSPX.FlyingZ B (X.env :: X.outer) a (L2N.Zn cls d) hp → s'.heap.UpToSlots hp → wManyA Wout D l' cls d σ' H' →
        wpAny (model X.prog X.w) X.A (handleBy (.ref a) X.env hds') (SP X pins D) X.xe { s' with heap := hp, toks := tk' } := by
      intro hds' l' hk
      induction hk with
      | nil =>
        intro hp tk' fl uph w
        refine wpAny_handleBy_nil ?_
        obtain ⟨k1, k2, k3, oe, vs, T, oT, ts', he, hz, hd, h1, hr⟩ := id fl
        unfold PySem.passOn
        refine wpAny_bind (wpAny_field he hd h1 ?_)
        rw [if_neg (show ¬ ((Value.ref T == Value.none) = true) from by simp)]
        have fin : wpAny (model X.prog X.w) X.A (setFlight (.ref a) X.env.frame) (fun _ s4 => wpAny (model X.prog X.w) X.A (throw (.ref a) : Sem Flow) (SP X pins D) X.xe s4) X.xe { s' with heap := hp, toks := tk' } := by
          rw [hf]
          refine HandSPX.setFlight_upZ (s := { s' with heap := hp, toks := tk' }) fl fun h4 hh4 up4 => wpAny_throw (tk _ _ ?_)
          exact ⟨a, B, sI, pins, σ', H', cls, d, rfl, J, nb, (up.trans uph).trans up4, .inr (.inr (by rw [hs]; exact hh4)), na, os, ag, w⟩
        first
          | exact wpAny_bind (wpAny_pure (wpAny_bind fin))
          | exact wpAny_bind fin
      | @cons te m n i ts b₀ suite pos' hds2 l2 hd hi hln hsu r ih =>
        intro hp tk' fl uph w
        obtain ⟨b, hb1, hyes, hno⟩ := w
        obtain ⟨oe5, vs5, he5, hz5, hd5⟩ := fl.there
        have J5 : Inv X pins σ' H' { s' with heap := hp, toks := tk' } := J.landed nb fl.1 (up.trans uph) os ag
        have S5 := J5.suite he5 hd5 na nL nF
        have hloc : Loc X.env.scope n := .inl hln
        refine wpAny_handleBy_cons (codeAny_handlers_test ?_) (by intro q; cases q)
        refine hd a oe5 (X.pn ++ pins) σ' H' _ b _ _ S5 he5 (by rw [hz5.1]; exact hb1) fun h6 t6 k6 => ?_
        have fl6 := flying_keep fl k6
        have up6 : s'.heap.UpToSlots h6 := uph.trans (Heap.UpToSlots.of_keeps k6)
        cases b with
        | true =>
          refine codeAny_handlers_suite_as ?_
          refine HandSPX.lands_againZ (s := { s' with heap := h6, toks := t6 }) fl6 fun h4 fl4 up4 => ?_
          have J4 : Inv X pins σ' H' { s' with heap := h4, toks := t6 } := J.landed nb fl4.1 ((up.trans up6).trans up4) os ag
          obtain ⟨oe4, vs4, he4, hz4, hd4⟩ := fl4.there
          have S4 := J4.suite he4 hd4 na nL nF
          refine store_ok (X := X.suite a ((a, oe4) :: (X.pn ++ pins))) (v := .ref a) S4 hN hi hloc rfl (fun s5 S5 => ?_) (.inr hln)
          refine wpAny_mono ((hsu a oe4 cls d (X.pn ++ pins) hz4 ⟨_, hd4⟩).run [] s5 _ H' _ S5 (hyes rfl a na)) (fun f s6 hsp => ?_) (fun _ _ z => False.elim z)
          have end_ : ∀ {σ6 : L2.St} {H6 : Hp} {Q : Shared → Prop}, Inv (X.suite a ((a, oe4) :: (X.pn ++ pins))) [] σ6 H6 s6 → (∀ s7, Inv X pins (σ6.set i none) H6 s7 → Q s7) →
              wpAny (model X.prog X.w) X.A (do bindName X.env n .none; unbindBehindTheSuite X.env n pos') (fun _ s7 => Q s7) X.xe s6 := fun {σ6 H6 Q} S6 hq => gone_ok (S6.unsuite ok) hN hi hln hq
          cases f with
          | next =>
            obtain ⟨σ6, H6, S6, q6⟩ := hsp
            exact end_ S6 fun s7 J7 => ⟨_, _, J7, q6⟩
          | brk =>
            obtain ⟨σ6, H6, S6, q6⟩ := hsp
            exact end_ S6 fun s7 J7 => ⟨_, _, J7, q6⟩
          | cont =>
            obtain ⟨σ6, H6, S6, q6⟩ := hsp
            exact end_ S6 fun s7 J7 => ⟨_, _, J7, q6⟩
          | ret u =>
            obtain ⟨v6, σ6, H6, S6, r6, q6⟩ := hsp
            exact end_ S6 fun s7 J7 => ⟨_, _, _, J7, r6, q6⟩
        | false =>
          show wpAny _ X.A (handleBy (.ref a) X.env hds2) _ _ _
          exact ih h6 t6 fl6 up6 (hno rfl)
    exact go hh h3 s'.toks fl3 up3 w
  · cases f with
    | next =>
      obtain ⟨σ', H', J', q⟩ := hsp
      exact wpAny_execs_nil ⟨σ', H', J'.ofTry ok, q⟩
    | brk =>
      obtain ⟨σ', H', J', q⟩ := hsp
      exact ⟨σ', H', J'.ofTry ok, q⟩
    | cont =>
      obtain ⟨σ', H', J', q⟩ := hsp
      exact ⟨σ', H', J'.ofTry ok, q⟩
    | ret u =>
      obtain ⟨v, σ', H', J', r, q⟩ := hsp
      exact ⟨v, σ', H', J'.ofTry ok, r, q⟩
end
end Hk

/-! A lambda without parameters given to a def of the law; what it lets out has the context None. Built on HandS.Lambda's readings. -/
namespace Hk
open PySem PySem.Spec PyProof.Rows L2 LamX
/-- the context of the lambda's body, its exceptions told by L2N -/
def lamCxN (X : Cx) (A : Around) (outer : List Env) (s : Shared) (H : Hp) (E : XK) (scope : Scope) (f c' : Addr) : Cx :=
  (lamCx X A outer s H E scope f c').wish fun e s' => wpAny (model X.prog X.w) (A.deeper (lamEnv X scope s.heap.objs.size f c')) (leaving (lamEnv X scope s.heap.objs.size f c') e) (fun _ s'' => L2N.CX X.prog X.w outer H s E e s'') (fun e' s'' => L2N.CX X.prog X.w outer H s E e' s'') s'
theorem takes_lam {X : Cx} {A : Around} {outer : List Env} {s : Shared} {H : Hp} {E : XK} {scope : Scope} {f c' : Addr} : L2N.Takes (lamCxN X A outer s H E scope f c') (fun cls d _ H => E cls d H) := L2N.takes_of rfl rfl rfl rfl
section
variable {X : Cx} {pins : List (Addr × Obj)} {σ : L2.St} {H : Hp} {s : Shared}
theorem pe_actN {CXg : CXT} {Eg : XK} {Ng : List Str} {qg : Str} {sg : Scope} {g f c' : Addr} {cdg pm ctv : Value} {params : Arguments} {body : Expr} {scope : Scope} {k i : Nat} {a : Str} {pn : List (Addr × Obj)} {xe : Value → Shared → Prop} {W : WX} {E : XK} {tb : TE} {p1 p2 : Pos}
    (I : Inv X pins σ H s) (L : LamS X.env.scope scope) (hf : s.heap.get? f = some (PySem.W.kla_obj "<lambda>" (X.env.qual ++ "<lambda>") params body scope (cloFrom X.env.cells scope.names []) pm c' ctv)) (hfn : H f = none) (hfr : f ∉ frs X.stack)
    (hbind : bindArgs (PySem.W.kla_fn "<lambda>" (X.env.qual ++ "<lambda>") params body scope (cloFrom X.env.cells scope.names []) pm (.ref c') ctv) ⟨[], []⟩ = pure [])
    (tk : L2N.Takes ((cxOf CXg X.prog X.w X.K X.mg X.base Ng qg sg g cdg X.A X.stack s H Eg).tr pn xe) W) (hW : ∀ cls d (σ' : L2.St) H', σ'.length = Ng.length → E cls d H' → W cls d σ' H') (hr : Room (k + 1) (X.A.deeper (envOfC qg sg s.heap.objs.size g cdg)))
    (hbody : ∀ (A : Around) (outer : List Env) (s : Shared) (H : Hp), Room k (A.deeper (lamEnv X scope s.heap.objs.size f c')) → PE (lamCxN X A outer s H E scope f c') body tb)
    (hN : Ng[i]? = some a) (hv : Vis sg a) (hd : (a == ("__debug__" : Str)) = false := by decide) (hcd : (a == ("__classdict__" : Str)) = false := by decide) :
    PE ((cxOf CXg X.prog X.w X.K X.mg X.base Ng qg sg g cdg X.A X.stack s H Eg).tr pn xe) (.Call (.Name a p1) [] [] p2)
      (fun σZ HZ Q => σZ[i]? = some (some (.ref f)) ∧ HZ c' = some (CodeO c' (X.env.qual ++ "<lambda>")) ∧ tb σ HZ Q) := by
  refine ⟨fun pinsZ sZ σZ HZ Q IZ h => ?_⟩
  obtain ⟨hs, hc, ht⟩ := h
  refine wpAny_Call_Name_kw (thn ((pe_var (pos := p1) (i := i) hN hv hd hcd).run pinsZ sZ σZ HZ (fun v H1 => v = .ref f ∧ H1 = HZ) IZ ⟨.ref f, hs, rfl, rfl⟩) fun u s1 ⟨v, H1, I1, r1, q1⟩ => ?_)
  obtain ⟨ev, eH⟩ := q1
  subst ev
  rw [eH] at I1
  obtain rfl : u = Value.ref f := r1
  have of1 := I1.base.keep f _ hf hfn hfr (fun z => nomatch (show f ∈ ([] : List Addr) from z))
  refine PySem.W.callWith_F0 ⟨_, _, _, _, of1⟩ ?_
  have un : Un (frs X.stack) [] H HZ s.heap s1.heap := I1.base
  obtain ⟨⟨oc, vs, t, hoc, hdc, hvc⟩, _, _⟩ := I1.hok c' _ hc
  have rc : codeAny (model X.prog X.w) (X.A.deeper (envOfC qg sg s.heap.objs.size g cdg)) (.call (.ref f) ⟨[], []⟩) (CR (L2N.CX X.prog X.w) (envOfC qg sg s.heap.objs.size g cdg :: X.stack) X.prog X.w HZ s1 Q E) s1 := by
    refine PySem.W.kla_callFunE hr.depth of1 rfl L.co L.gen rfl ⟨c', oc, vs, t, rfl, hoc, hdc, hvc⟩ ?_
    rw [hbind]
    refine wpAny_pure (wpAny_newFunctionEnv (fun y hy => (L.own y hy).2) (fun y hy => absurd hy (by simp)) (fun h₁ hns hsb => ⟨I1.nolimit.fresh _ hsb, ?_⟩) L.kind)
    show codeAny _ _ (.expr body (lamEnv X scope s1.heap.objs.size f c')) _ _
    have kp : ∀ b o, s1.heap.get? b = some o → h₁.get? b = some o := fun b o e => hsb.extBut b o (Nat.ne_of_lt (Heap.lt_size e)) (Heap.get?_push_of_some _ e)
    have J := (lam_start2 (E := E) (c' := c') (f := f) (tk := s1.toks + ([] : List (Str × Value)).length) I L I1.env0 hr.hd un hns kp).wish (fun e s' => wpAny (model X.prog X.w) ((X.A.deeper (envOfC qg sg s.heap.objs.size g cdg)).deeper (lamEnv X scope s1.heap.objs.size f c')) (leaving (lamEnv X scope s1.heap.objs.size f c') e) (fun _ s'' => L2N.CX X.prog X.w (envOfC qg sg s.heap.objs.size g cdg :: X.stack) HZ s1 E e s'') (fun e' s'' => L2N.CX X.prog X.w (envOfC qg sg s.heap.objs.size g cdg :: X.stack) HZ s1 E e' s'') s')
    refine PySem.W.kla_codeExpr (wpAny_mono ((hbody _ _ s1 HZ (hr.deeper _)).run [] _ _ HZ Q J ht) (fun v s' hq => ?_) fun e s' hq => hq)
    obtain ⟨w', H', J', rv, q⟩ := hq
    exact ⟨w', H', J'.os, J'.bare, J'.base, J'.hok, rv, q⟩
  have hx : ∀ (e : Value) (s' : Shared), L2N.CX X.prog X.w (envOfC qg sg s.heap.objs.size g cdg :: X.stack) HZ s1 E e s' → ((cxOf CXg X.prog X.w X.K X.mg X.base Ng qg sg g cdg X.A X.stack s H Eg).tr pn xe).xe e s' :=
    fun e s' c => tk e s' (L2N.XE.of_call I1 (fun cls d H' h => hW cls d σZ H' I1.len h) c)
  refine wpAny_call (codeAny_mono rc fun r s' hq => ?_)
  cases r with
  | error e => exact hx e s' hq
  | ok fl =>
    cases fl with
    | ret u => exact I1.after hq
    | next => exact False.elim hq
    | brk => exact False.elim hq
    | cont => exact False.elim hq
/-- the def that calls what it got, nothing let out -/
def GivesN (k : Nat) (X : Cx) (Ng : List Str) (x : Str) (sg : Scope) (g : Addr) (cdg : Value) (bg : List Stmt) (a : Str) (q : Str) (TT : (XK → Hp → VK → Prop) → Hp → VK → Prop) : Prop :=
  ∀ (f c' : Addr) (s : Shared) (H : Hp) (Q : VK) (tl : XK → Hp → VK → Prop),
    (∀ (W : WX) (pn : List (Addr × Obj)) (xe : Value → Shared → Prop) (E : XK) (p1 p2 : Pos), L2N.Takes ((cxOf CX0 X.prog X.w X.K X.mg X.base Ng x sg g cdg X.A X.stack s H E0).tr pn xe) W → (∀ cls d (σ' : L2.St) H', σ'.length = Ng.length → E cls d H' → W cls d σ' H') →
      PE ((cxOf CX0 X.prog X.w X.K X.mg X.base Ng x sg g cdg X.A X.stack s H E0).tr pn xe) (.Call (.Name a p1) [] [] p2) (fun σZ HZ Q => σZ[0]? = some (some (.ref f)) ∧ HZ c' = some (CodeO c' q) ∧ tl E HZ Q)) →
    Room (k + 1) (X.A.deeper (envOfC x sg s.heap.objs.size g cdg)) → H c' = some (CodeO c' q) → TT tl H Q →
    ∃ t, PSs (cxOf CX0 X.prog X.w X.K X.mg X.base Ng x sg g cdg X.A X.stack s H E0).nox bg t ∧ t { nx := fun _ H' => Q .non H', rt := Q } (L2.start Ng [.ref f]) H
/-- x(lambda: body) -/
theorem pe_lamN {T : List (Addr × Str)} {TT : (XK → Hp → VK → Prop) → Hp → VK → Prop} {x a : Str} {d : Dx} {fd : FuncData} {c P : Addr} {k : Nat} {Ng : List Str}
    {params : Arguments} {body : Expr} {scope : Scope} {t : XK → TE} {p lpos pos : Pos} (hg : Gl X x) (hm : X.mg x = some (.ref (d.ad X.K))) (D : DAt X.K d fd) (hv : d.df = []) (hq : d.ql = x) (hb : Binds X.K fd [a] []) (Sg : FnScope Ng [a] (defScope d.st)) (hNg : Ng[0]? = some a) (hva : Vis (defScope d.st) a)
    (hG : ∀ cdv : Value, GivesN k X Ng d.ql (defScope d.st) (d.ad X.K) cdv (defBody d.st) a (X.env.qual ++ "<lambda>") TT)
    (TB : TabB X.base X.mg c P) (hcode : X.env.code = .ref c) (hmT : (P, X.env.qual ++ "<lambda>") ∈ T) (hu : ∀ p ∈ T, p.1 = P → p.2 = X.env.qual ++ "<lambda>") (hr : Room (k + 2) X.A) (L : LamS X.env.scope scope) (hdef : defaultsOf params X.env = ([], []))
    (hbind : ∀ (q : Str) (cl : List (Str × Addr)) (pm cv ctv : Value), bindArgs (PySem.W.kla_fn "<lambda>" q params body scope cl pm cv ctv) ⟨[], []⟩ = pure [])
    (hbody : ∀ (A : Around) (outer : List Env) (s : Shared) (H : Hp) (E : XK) (f c' : Addr), Room k (A.deeper (lamEnv X scope s.heap.objs.size f c')) → PE (lamCxN X A outer s H E scope f c') body (t E))
    (hdb : (x == ("__debug__" : Str)) = false := by decide) (hd : (a == ("__debug__" : Str)) = false := by decide) (hcd : (a == ("__classdict__" : Str)) = false := by decide) :
    PE X (.Call (.Name x p) [.Lambda params body scope lpos] [] pos) (tLam T TT t) := by
  refine ⟨fun pins s σ H Q I h => ?_⟩
  obtain ⟨hT, h⟩ := h
  refine wpAny_Call_Name_kw (ld_glob I hg hm ?_ hdb)
  refine PySem.W.callWith_K (h₀ := X.base) I.ok.mod.kin D.kp ?_ (by rfl) (by rfl)
  show wpAny _ _ (spliced ((false, eval (.Lambda params body scope lpos) X.env) :: backTo pos (starEach [] X.env))) _ _ s
  refine Calls.spliced_cons (lam_make2 I TB hcode hmT hu hT hdef (L.has I.ok) fun f c' pm' ctv H1 s' I1 eN T1 hf hfn hfr hco => ?_)
  refine Calls.spliced_nil ⟨I1.kIn, ?_⟩
  obtain ⟨oc, od, dV, kV, doc, pm, an, cdv, ct, osl, rfl, lk, hcd', _, _⟩ := D.ex
  have rc : codeAny (model X.prog X.w) X.A (.call (.ref (d.ad X.K)) ⟨[.ref f], []⟩) (CR CX0 X.stack X.prog X.w H1 s' Q E0) s' := by
    refine run_ofS (N := Ng) (ps := [a]) (us := [.ref f]) (vs := [.ref f]) lk hcd' Sg hr I1.env0 (hb s' [.ref f] I1.kIn rfl) (.cons rfl .nil) rfl fun hr' => ?_
    obtain ⟨t', ht', hq'⟩ := hG cdv f c' s' H1 Q (fun E H' Q' => t E σ H' Q') (fun W pn xe E p1 p2 tk hW => pe_actN (i := 0) I1 L hf hfn hfr (hbind _ _ _ _ _) tk hW hr' (fun A outer s H hr2 => hbody A outer s H E f c' hr2) hNg hva hd hcd) hr' hco (h H1 eN T1)
    exact ⟨t', ht'.nox, hq'⟩
  refine wpAny_call (codeAny_mono rc fun r s2 hq => ?_)
  cases r with
  | error e => exact (show False from hq).elim
  | ok fl =>
    cases fl with
    | ret u => exact I1.after hq
    | next => exact False.elim hq
    | brk => exact False.elim hq
    | cont => exact False.elim hq
end
end Hk

/-! The law's end as in Hg, where the law makes lambdas: the tables of its code objects are tracked, too. -/
namespace Hk
open PySem PySem.Spec PyProof.Rows L2 LamX
section
variable {P : Program} {w : World} {K : Fr} {s : Shared} {a : Addr} {vs : List Value} {xs : List V}
/-- the script alone -/
theorem script_heap (KX : K.In s.heap) (hobj : s.heap.get? a = some { cls := .type "list", data := .seq vs.toArray }) (rv : Vals xs vs) (sz : vs.length ≤ sizeLine) (szn : xs.length ≤ sizeLine) :
    ∃ H : Hp, Only H ∧ SqL K H a xs ∧ HOk P w H s.heap ∧ (∀ b, H b ≠ none → b = a) ∧ (H a ≠ none → K.lookup a = none) := by
  cases hk : K.lookup a with
  | some ob =>
    have e := KX a ob hk
    rw [hobj] at e
    cases e
    refine ⟨fun _ => none, fun _ => .inl rfl, .inr ⟨_, vs.toArray, _, hk, rfl, rfl, rfl, ?_, ?_⟩, fun b u z => (nomatch z), fun b z => absurd rfl z, fun z => absurd rfl z⟩
    · rw [List.size_toArray]
      exact sz
    · simpa using rv
  | none =>
    have at_ : ∀ {b : Addr} {u : HO}, (if b = a then some (HO.frz { cls := .type "list", data := .seq vs.toArray } (.lst xs)) else none) = some u → b = a ∧ u = HO.frz { cls := .type "list", data := .seq vs.toArray } (.lst xs) := fun {b u} z => by
      by_cases hb : b = a
      · rw [if_pos hb] at z
        exact ⟨hb, (Option.some.inj z).symm⟩
      · rw [if_neg hb] at z
        exact nomatch z
    refine ⟨fun b => if b = a then some (.frz { cls := .type "list", data := .seq vs.toArray } (.lst xs)) else none, fun b => ?_, .inl (.inr ⟨_, if_pos rfl⟩), fun b u z => ?_, fun b z => ?_, fun _ => rfl⟩
    · by_cases hb : b = a
      · exact .inr ⟨_, _, if_pos hb⟩
      · exact .inl (if_neg hb)
    · obtain ⟨e1, e2⟩ := at_ z
      subst e1 e2
      exact ⟨hobj, szn, vs, _, rv, hobj⟩
    · by_cases hb : b = a
      · exact hb
      · exact absurd (if_neg hb) z
end
/-- H0, and an empty table at each of ts -/
def withTabs (H0 : Hp) (ts : List Addr) : Hp := fun b => if b ∈ ts then some (.tbl #[]) else H0 b
theorem wt_in {H0 : Hp} {ts : List Addr} {b : Addr} (h : b ∈ ts) : withTabs H0 ts b = some (.tbl #[]) := if_pos h
theorem wt_out {H0 : Hp} {ts : List Addr} {b : Addr} (h : b ∉ ts) : withTabs H0 ts b = H0 b := if_neg h
abbrev tab0 : Obj := { cls := .none, data := .fields #[] }
theorem end_gT {l : PySem.W.OpenLaw} {q : Program} {loose : List Str} {XP : (Str → Option Value) → Heap → Prop} {YP : World → Heap → Prop} {d : DefRec} {k : Nat} {x : Str} (hn : l.most = some 63) (hdf : d.params.defaults = []) (hr : Room k callerA)
    (F : ∀ (w : World) (mg : Str → Option Value) (fa : Addr) (h : Heap), YP w h → h.Ns mainGlobals mg → mg d.name = some (.ref fa) →
      ∃ (K : Fr) (fd : FuncData) (cs : List (Addr × Addr)) (sp : Sp), K.In h ∧ (∀ p ∈ cs, h.get? p.2 = some tab0) ∧ (∀ p ∈ cs, K.lookup p.2 = none) ∧ (∀ p ∈ cs, PySem.W.CodeHd h p.1 p.2) ∧
        (∀ (s : Shared) (u : Value), BindsTo s fd ⟨[u], []⟩ [(x, u)]) ∧
        (∀ (H : Hp) (a : Addr) (ns : List Int), ns.length ≤ 63 → (∀ n ∈ ns, Builtin.Int.intBits n ≤ 1048576) → (∀ p ∈ cs, H p.2 = some (.tbl #[])) → SqL K H a (ns.map V.int) → sp [.ref a] H (fun v _ => v = .bl true) E0) ∧
        ∀ base : Heap, K.In base → base.Ns mainGlobals mg → (∀ p ∈ cs, TabB base mg p.1 p.2) → FnG l.prog w K mg base k fa fd [x] sp) :
    PySem.W.WalkO q loose XP YP l.row.toRowW d [] (fun f vs => PySem.call f vs) := by
  refine Att.attach_callB hn hdf fun w s₀ s₁ mg mb fa o pm cd doc a vs ns G Y ho hd hcd hmg hobj hints hlen hbits hg => ?_
  obtain ⟨K, fd, cs, sp, KX, hT, nT, C, hbi, hsp, hF⟩ := F w mg fa _ Y G.T.g hmg
  have rv := vals_ints hints
  have sz : vs.length ≤ sizeLine := by
    have := hints.length
    have e : 63 ≤ sizeLine := by decide
    omega
  have szn : (ns.map V.int).length ≤ sizeLine := by
    rw [rv.length]
    exact sz
  obtain ⟨H0, hO, hS0, hok0, hA0, hK0⟩ := script_heap (P := l.prog) (w := w) KX hobj rv sz szn
  obtain ⟨ts, hts⟩ : ∃ ts, ts = cs.map (·.2) := ⟨_, rfl⟩
  have tIn : ∀ {p : Addr × Addr}, p ∈ cs → p.2 ∈ ts := fun {p} hp => by
    rw [hts]
    exact List.mem_map_of_mem hp
  have tOf : ∀ {b : Addr}, b ∈ ts → ∃ p ∈ cs, p.2 = b := fun {b} hb => by
    rw [hts] at hb
    exact List.mem_map.mp hb
  have tGet : ∀ {b : Addr}, b ∈ ts → s₁.heap.get? b = some tab0 := fun {b} hb => by
    obtain ⟨p, hp, rfl⟩ := tOf hb
    exact hT p hp
  have aOut : a ∉ ts := fun z => by
    have e := tGet z
    rw [hobj] at e
    exact nomatch congrArg Obj.data (Option.some.inj e)
  have hS : SqL K (withTabs H0 ts) a (ns.map V.int) := by
    have e := wt_out (H0 := H0) aOut
    rcases hS0 with (z | ⟨o1, z⟩) | z
    · exact .inl (.inl (e.trans z))
    · exact .inl (.inr ⟨o1, e.trans z⟩)
    · exact .inr z
  have hok : HOk l.prog w (withTabs H0 ts) s₁.heap := fun b u z => by
    by_cases hb : b ∈ ts
    · rw [wt_in hb] at z
      cases z
      exact tGet hb
    · rw [wt_out hb] at z
      rcases hO b with n | ⟨o1, ys, n⟩
      · rw [n] at z
        cases z
      · rw [n] at z
        cases z
        exact hok0 b _ n
  -- what is neither the script nor a table is not tracked
  have free : ∀ {b : Addr} {ob : Obj}, s₁.heap.get? b = some ob → ob ≠ { cls := .type "list", data := .seq vs.toArray } → ob ≠ tab0 → withTabs H0 ts b = none := fun {b ob} e n1 n2 => by
    by_cases hb : b ∈ ts
    · rw [tGet hb] at e
      exact absurd (Option.some.inj e).symm n2
    · rw [wt_out hb]
      cases z : H0 b with
      | none => rfl
      | some u =>
        have eb := hA0 b (by rw [z]; exact fun y => nomatch y)
        rw [eb, hobj] at e
        exact absurd (Option.some.inj e).symm n1
  have seen : ∀ {b : Addr} {ob : Obj}, s₁.heap.get? b = some ob → withTabs H0 ts b = none → (hidT s₁.heap (withTabs H0 ts)).get? b = some ob := fun e n => hidT_get e n
  have byData : ∀ {b : Addr} {ob : Obj}, s₁.heap.get? b = some ob → (∀ (v : Array Value) n, ob.data ≠ .seq v n) → ob.data ≠ .fields #[] → (hidT s₁.heap (withTabs H0 ts)).get? b = some ob := fun {b ob} e n1 n2 =>
    seen e (free e (fun z => n1 _ _ (congrArg Obj.data z)) fun z => n2 (congrArg Obj.data z))
  have ns_ : ∀ {b : Addr} {m : Str → Option Value}, s₁.heap.Ns b m → (hidT s₁.heap (withTabs H0 ts)).Ns b m := fun {b m} ⟨ob, es, ep, e, dd, r⟩ =>
    ⟨ob, es, ep, byData e (fun v n z => by rw [dd] at z; exact nomatch z) (fun z => by rw [dd] at z; exact nomatch z), dd, r⟩
  have K_ : K.In (hidT s₁.heap (withTabs H0 ts)) := fun b ob e => seen (KX b ob e) (by
    by_cases hb : b ∈ ts
    · obtain ⟨p, hp, rfl⟩ := tOf hb
      rw [nT p hp] at e
      cases e
    · rw [wt_out hb]
      cases z : H0 b with
      | none => rfl
      | some u =>
        have eb := hA0 b (by rw [z]; exact fun y => nomatch y)
        subst eb
        have := hK0 (by rw [z]; exact fun y => nomatch y)
        rw [this] at e
        cases e)
  have TB : ∀ p ∈ cs, TabB (hidT s₁.heap (withTabs H0 ts)) mg p.1 p.2 := fun p hp => by
    refine ⟨?_, ?_, fun z => ?_⟩
    · obtain ⟨oc, us, file, tf, flags, tg, inF, text, tt, e1, r1, r2, r3, rest⟩ := C p hp
      refine ⟨oc, us, file, tf, flags, tg, inF, text, tt, byData e1 (fun v n z => by rw [r2] at z; exact nomatch z) (fun z => ?_), r1, r2, r3, rest⟩
      rw [r2] at z
      cases z
      exact nomatch (show (none : Option Value) = _ from r3)
    · obtain ⟨bm, ob, b1, b2, b3, b4, b5, b6⟩ := G.T.bmain
      have other : ∀ {c : Addr} {oc : Obj}, s₁.heap.get? c = some oc → oc.data ≠ .plain → bm ≠ c := fun {c oc} e n z => by
        rw [z, e] at b3
        cases b3
        exact n b6
      obtain ⟨og, es, ep, eg, dg, _⟩ := G.T.g
      exact ⟨bm, ob, b1, b2, other eg (by rw [dg]; exact fun z => nomatch z), other (hT p hp) (fun z => nomatch z), byData b3 (fun v n z => by rw [b6] at z; exact nomatch z) (fun z => by rw [b6] at z; exact nomatch z), b4, b5, b6⟩
    · obtain ⟨og, es, ep, eg, dg, _⟩ := G.T.g
      have e := hT p hp
      rw [← z, eg] at e
      cases e
      exact nomatch dg
  obtain ⟨mc, l1, l2⟩ := G.T.nolimit
  have e0 : Env0 l.prog w K mg (hidT s₁.heap (withTabs H0 ts)) callerA [] s₁ (withTabs H0 ts) :=
    { frames := rfl, mod := ⟨K_, ns_ G.T.g, ⟨mb, ns_ G.T.b, G.T.builtins⟩, ⟨mc, ns_ l1, l2⟩⟩, bs := fun b ob e => of_hidT e, bsz := Nat.le_of_eq (hidT_size _ _), funs := trivial, frf := fun b hb => absurd hb (List.not_mem_nil), hok := hok, bare := .of_eq hg }
  refine codeAny_mono ((hF _ K_ (ns_ G.T.g) TB).run callerA [] s₁ (withTabs H0 ts) ⟨[.ref a], []⟩ [.ref a] [.ref a] (fun v _ => v = .bl true) hr rfl e0 (hbi s₁ (.ref a)) (.cons rfl .nil) (hsp _ a ns hlen hbits (fun p hp => wt_in (tIn hp)) hS)) fun r s' h => ?_
  cases r with
  | error e => exact (show False from h).elim
  | ok fl =>
    cases fl with
    | ret u =>
      obtain ⟨v, H', os, bare, un, hok', r', ev⟩ := h
      have ev' : v = .bl true := ev
      subst ev'
      cases r'
      have tab' : ∀ {b : Addr}, b ∈ ts → ∃ more : Array Value, s'.heap.get? b = some { cls := .none, data := .fields more } := fun {b} hb => by
        obtain ⟨more, z⟩ := un.tbls b #[] (wt_in hb)
        exact ⟨_, hok' b _ z⟩
      have keep : ∀ {b : Addr} {ob : Obj}, b ∉ ts → s₁.heap.get? b = some ob → s'.heap.get? b = some ob := fun {b ob} nb e => by
        rcases hO b with z | ⟨o1, ys, z⟩
        · exact un.keep b ob e (by rw [wt_out nb]; exact z) (List.not_mem_nil) (List.not_mem_nil)
        · have z1 : withTabs H0 ts b = some (.frz o1 (.lst ys)) := by rw [wt_out nb]; exact z
          obtain ⟨e1, _⟩ := hok b _ z1
          obtain ⟨e2, _⟩ := hok' b _ (un.frzs b o1 _ z1)
          rw [e] at e1
          cases e1
          exact e2
      refine ⟨rfl, ⟨fun b ob e => ?_, fun b ob e => ?_⟩, os, bare⟩
      · by_cases hb : b ∈ ts
        · obtain ⟨more, hm⟩ := tab' hb
          obtain ⟨p, hp, rfl⟩ := tOf hb
          rw [hT p hp] at e
          cases e
          exact .inr (.inl ⟨((C p hp).tab (hT p hp)).isCodeTable, rfl, #[], more, rfl, by rw [Array.empty_append]; exact hm⟩)
        · exact .inl (keep hb e)
      · by_cases hb : b ∈ ts
        · obtain ⟨more, hm⟩ := tab' hb
          exact ⟨_, hm⟩
        · exact ⟨ob, keep hb e⟩
    | _ => exact (show False from h).elim
end Hk

/-! A head that tells the tables of defs that make lambdas; the bodies of such defs. -/
namespace Hk
open PySem PySem.Spec PyProof.Rows L2 LamX
/-- a def's code object and its table -/
def cOf (d : Dx) (K : Fr) : Addr := match K.lookup (d.ad K) with
  | some ⟨_, _, .func g, _⟩ => (match g.code with | .ref c => c | _ => 0)
  | _ => 0
def pOf (d : Dx) (K : Fr) : Addr := He.tabOf K (cOf d K)
def tabOk (g : Addr → Option Obj) (K : Fr) (d : Dx) : Bool := PySem.W.codeHdIn K (cOf d K) (pOf d K) && (match g (pOf d K) with | some o => He.emptyTab o | none => false)
abbrev Al3 : Type := Al2 × Bool
def lookT0 (fa : List Tst) (fn ts : List Dx) (g : Addr → Option Obj) (K : Fr) : Al3 := (look fa fn K, ts.all fun d => tabOk g K d)
def lookT (n : Nat) (fa : List Tst) (fn ts : List Dx) (g : Addr → Option Obj) : Al3 := lookT0 fa fn ts g (He.frT g (cStatics :: He.asD g n))
/-- what such a head tells -/
structure SaysT (fa : List Tst) (fn ts : List Dx) (h : Heap) (K : Fr) : Prop where
  s : Says fa fn K
  hd : ∀ d ∈ ts, PySem.W.codeHdIn K (cOf d K) (pOf d K) = true
  out : ∀ d ∈ ts, K.lookup (pOf d K) = none
  empty : ∀ d ∈ ts, h.get? (pOf d K) = some tab0
theorem saysT_of {fa : List Tst} {fn ts : List Dx} {h : Heap} {n : Nat} (e : lookT n fa fn ts h.get? = (due fn, true)) : SaysT fa fn ts h (He.frT h.get? (cStatics :: He.asD h.get? n)) := by
  have e1 : look fa fn (He.frT h.get? (cStatics :: He.asD h.get? n)) = due fn := congrArg Prod.fst e
  have e2 : (ts.all fun d => tabOk h.get? (He.frT h.get? (cStatics :: He.asD h.get? n)) d) = true := congrArg Prod.snd e
  generalize hK : He.frT h.get? (cStatics :: He.asD h.get? n) = K at e1 e2 ⊢
  have key : ∀ d ∈ ts, PySem.W.codeHdIn K (cOf d K) (pOf d K) = true ∧ ∃ o, h.get? (pOf d K) = some o ∧ He.emptyTab o = true := fun d hd => by
    obtain ⟨h1, h2⟩ := He.ba (List.all_eq_true.mp e2 d hd)
    refine ⟨h1, ?_⟩
    cases q : h.get? (pOf d K) with
    | none =>
      rw [q] at h2
      exact nomatch h2
    | some o =>
      rw [q] at h2
      exact ⟨o, rfl, h2⟩
  refine ⟨e1, fun d hd => (key d hd).1, fun d hd => ?_, fun d hd => ?_⟩
  · obtain ⟨_, o, q, z⟩ := key d hd
    rw [← hK] at q ⊢
    exact He.frT_none q z
  · obtain ⟨_, o, q, z⟩ := key d hd
    rw [q, He.emptyTab_eq z]
def hookT (n : Nat) (fa : List Tst) (fn ts : List Dx) : PySem.W.Hook where
  α := Al3
  obs := fun s => lookT n fa fn ts s.heap.get?
  val := fun _ => (due fn, true)
  says := fun _ h => ∃ K : Fr, K.In h ∧ SaysT fa fn ts h K
  of := fun _ _ e => ⟨_, He.frT_in, saysT_of e⟩
  keeps := fun _ _ _ ⟨K, hK, c⟩ k => ⟨K, PySem.W.Frag.In.keeps hK k, ⟨c.s, c.hd, c.out, fun d hd => k _ _ (c.empty d hd)⟩⟩
theorem lookT_eq {n : Nat} {fa : List Tst} {fn ts : List Dx} {g : Addr → Option Obj} {s : Shared} (h : ∀ a, g a = s.heap.get? a) : lookT n fa fn ts g = (hookT n fa fn ts).obs s := by
  have e : g = s.heap.get? := funext h
  subst e
  rfl
/-- an exception's class without a def of its own -/
def tEx0 (x : Str) (bm : List Value) (n : String) : Tst := fun K => PySem.W.excIn K (He.ga K x) bm n && (PySem.W.keepIn K (.ref (He.ga K x)) && decide (PySem.W.typeIn K (.ref (He.ga K x)) = some (.type "type")))
/-! ### defs whose code object is known -/
section
variable {P : Program} {w : World} {K : Fr} {mg : Str → Option Value} {base : Heap}
theorem cOf_eq {d : Dx} {oc : Value} {od : Option Addr} {osl : Array (Option Value)} {g : FuncData} {q : Str} (lk : K.lookup (d.ad K) = some ⟨oc, od, .func g, osl⟩) (hc : PySem.W.codeIn K g.code q = true) : g.code = .ref (cOf d K) := by
  obtain ⟨c, e⟩ := He.codeIn_ref hc
  unfold cOf
  rw [lk]
  show g.code = .ref (match g.code with | .ref c => c | _ => 0)
  rw [e]
abbrev BodyGC (P : Program) (w : World) (K : Fr) (mg : Str → Option Value) (base : Heap) (k : Nat) (d : Dx) (N ps : List Str) (sp : Sp) : Prop :=
  ∀ (A : Around) (outer : List Env) (s : Shared) (H : Hp) (vs : List V) (Q : VK) (E : XK), Room k (A.deeper (envOfC d.ql (defScope d.st) s.heap.objs.size (d.ad K) (.ref (cOf d K)))) → Calm A → sp vs H Q E →
      ∃ t, PSs (cxOf CX0 P w K mg base N d.ql (defScope d.st) (d.ad K) (.ref (cOf d K)) A outer s H E).nox (defBody d.st) t ∧ t { nx := fun _ H' => Q .non H', rt := Q } (start N vs) H
theorem okg_c {k : Nat} {d : Dx} {N ps : List Str} {sp : Sp} {fd : FuncData} (D : DAt K d fd) (S : FnScope N ps (defScope d.st)) (len : ∀ vs H Q E, sp vs H Q E → vs.length = ps.length) (hb : BodyGC P w K mg base k d N ps sp) :
    FnG P w K mg base (k + 1) (d.ad K) fd ps sp := by
  obtain ⟨oc, od, dV, kV, doc, pm, an, cdv, ct, osl, rfl, lk, hcd, _, _⟩ := D.ex
  obtain rfl : cdv = .ref (cOf d K) := cOf_eq lk hcd
  refine ⟨len, fun A out s H args us vs Q hr hc e0 hbd r hsp => ?_⟩
  have old : ∀ b o, base.get? b = some o → s.heap.get? b = some o := fun b o z => (e0.bs b o z).1
  have KX : K.In s.heap := e0.mod.kin.keeps old
  have kd : ∀ y ∈ ps.zip us, (defScope d.st).names.lookup y.1 = some .local ∨ ((defScope d.st).names.lookup y.1 = some .cell ∧ ((cellsFrom (s.heap.objs.size + 1) (defScope d.st).names []).lookup y.1).isSome = true) := by
    rintro ⟨n, v⟩ hy
    have q := S.par n (List.of_mem_zip hy).1
    exact q.imp id fun q => ⟨q, PySem.W.cellsFrom_some _ _ _ (.inl q)⟩
  refine codeAny_call_function hr.depth (KX _ _ lk) rfl S.co S.gen rfl (PySem.W.codeRec_of KX hcd) (hbd _ _ _ _ ?_)
  refine wpAny_newFunctionEnv_cells S.kind kd fun env he s1 x => ?_
  subst he
  refine ⟨(e0.mod.nolimit.keeps old).keeps x.toInCall.keep, codeAny_func ?_⟩
  obtain ⟨t, ht, hq⟩ := hb A out s H vs Q E0 (hr.deeper _) hc hsp
  have I : Inv (cxOf CX0 P w K mg base N d.ql (defScope d.st) (d.ad K) (.ref (cOf d K)) A out s H E0) [] (start N vs) H s1 := inv_start S hr.hd e0 (len _ _ _ _ hsp) r x
  refine wpAny_mono (ht.nox.run [] s1 (start N vs) H _ I hq) (fun fl s' hs => ?_) fun e s' hs => hs
  cases fl with
  | next =>
    obtain ⟨σ', H', J, q⟩ := hs
    exact ⟨V.non, H', J.os, J.bare, J.base, J.hok, rfl, q⟩
  | ret u =>
    obtain ⟨v, σ', H', J, rv, q⟩ := hs
    exact ⟨v, H', J.os, J.bare, J.base, J.hok, rv, q⟩
  | brk =>
    obtain ⟨σ', H', J, q⟩ := hs
    exact False.elim q
  | cont =>
    obtain ⟨σ', H', J, q⟩ := hs
    exact False.elim q
theorem calg_c {k : Nat} {d : Dx} {N ps : List Str} {sp : Sp} {x : Str} (D : ∃ fd, DAt K d fd) (hv : d.df = []) (S : FnScope N ps (defScope d.st)) (hm : mg x = some (.ref (d.ad K)))
    (hbi : ∀ (kV doc pm : Value) (an : Option Addr) (cdv ct : Value) (us : List Value), us.length = ps.length → bindArgs (PySem.W.fnOf d.nm d.ql (defArgs d.st) (defBody d.st) (defScope d.st) .none kV doc pm an cdv ct) ⟨us, []⟩ = pure (ps.zip us))
    (len : ∀ vs H Q E, sp vs H Q E → vs.length = ps.length) (hb : BodyGC P w K mg base k d N ps sp) : CalG P w K mg base (k + 1) x (d.ad K) ps sp := by
  obtain ⟨fd, D⟩ := D
  have e : d.vs K = [] := by
    unfold Dx.vs
    rw [hv]
    rfl
  have D' : FunD K d.nm d.ql (defArgs d.st) (defBody d.st) (defScope d.st) [] [] (d.ad K) fd := by
    rw [← e]
    exact D
  exact ⟨fd, okg_c D S len hb, FunD.bindsN D' hbi, D.kp, hm⟩
end
end Hk

/-! Own classes above one another: a def of the class called off it, constants, properties, texts and comparisons of instances whatever their class is; max with a default. -/
namespace Hk
open PySem PySem.Spec PyProof.Rows L2
/-- m is a def of the class at C -/
structure Unb (K : Fr) (C : Addr) (mc : Value) (m : Str) (g : Addr) : Prop where
  rd : ClX.CRead K C mc
  at_ : PySem.W.findCls K (.ref C) mc m = some (.val (.ref g))
  kp : PySem.W.keepIn K (.ref g) = true
def tUnb (C : Addr) (sp : Sp) (ta : TE) (t : TA) : TE := fun σ H Q => ta σ H fun x H1 => x = .ref C ∧ t σ H1 fun vs H2 => sp (vs ++ []) H2 Q E0
section
variable {X : Cx} {k : Nat} {C g : Addr} {mc : Value} {m : Str} {fd : FuncData} {ps : List Str} {sp : Sp} {o e : Expr} {es : List Expr} {ta : TE} {t : TA} {pos apos : Pos} {pl : Sem Bool}
theorem pe_unb (he : PE X o ta) (U : Unb X.K C mc m g) (F : FnOk X.prog X.w X.K X.mg X.base CX0 k g fd ps sp) (hb : Binds X.K fd ps []) (hr : Room k X.A) (ha : PA X (e :: es) t)
    (hst : starEach (e :: es) X.env = (false, eval e X.env) :: starEach es X.env := by rfl) (hpl : (backTo pos (starEach es X.env)).any (·.1) = false := by rfl)
    (ht : eval (.Call (.Attribute o m apos) (e :: es) [] pos) X.env = (do
      let ov ← eval o X.env
      standAt apos.atName
      let (f, first) ← holding [ov] (getMethod ov m pl)
      callWith pos f first (backTo pos (starEach (e :: es) X.env)) (backToKw pos (keywordEach [] X.env))) := by rfl) :
    PE X (.Call (.Attribute o m apos) (e :: es) [] pos) (tUnb C sp ta t) := by
  refine ⟨fun pins s σ H Q I h => PySem.W.methodCall_KW (pl := pl) (thn (he.run pins s σ H _ I h) fun u s1 hu => ?_) ht⟩
  obtain ⟨x, H1, I1, rx, ex, q⟩ := hu
  subst ex
  obtain rfl : u = Value.ref C := rx
  refine PySem.W.method_cls I1.kIn U.rd.ga (PySem.W.cls_value I1.kIn U.rd.rd U.at_ rfl ?_)
  refine PySem.W.callWith_K (h₀ := X.base) I1.ok.mod.kin U.kp (thn (ha.run pos pins _ σ H1 _ (I1.tok _) q) fun us s2 ⟨vs, H2, I2, r, q2⟩ => ⟨I2.kIn, ?_⟩) hst hpl
  exact run_fn F hr hb .nil pass0 I2 r q2
end
/-! ### constants of the class read through an instance -/
structure ICon (K : Fr) (C : Addr) (f : Str) (v : V) : Prop where
  ex : ∃ u : Value, PySem.W.findIn K (.ref C) f = some (some u) ∧ PySem.W.specialIn K u "__get__" = some none ∧ RelV v u
  cp : PySem.W.copiedNames.contains f = false
def tICon (K : Fr) (ta : TE) (f : Str) : TE := fun σ H Q => ta σ H fun x H1 => ∃ (C a dx : Addr) (fs : List (Str × V)) (v : V), x = .ref a ∧ H1 a = some (.ins C dx fs) ∧ fs.lookup f = none ∧ Cls K C ∧ ICon K C f v ∧ Q v H1
/-- a property, whatever class the instance is of -/
def tPropA (K : Fr) (p g : Addr) (f : Str) (sp : Sp) (ta : TE) : TE := fun σ H Q => ta σ H fun x H1 => ∃ (C a dx : Addr) (fs : List (Str × V)), x = .ref a ∧ H1 a = some (.ins C dx fs) ∧ Cls K C ∧ PropOf K C f p g ∧ sp [.ref a] H1 Q E0
section
variable {X : Cx} {k : Nat} {p g : Addr} {f : Str} {fd : FuncData} {ps : List Str} {sp : Sp} {e : Expr} {ta : TE} {pos : Pos}
theorem pe_icon (he : PE X e ta) (hb : attributeBase e f X.env (eval e X.env) = eval e X.env := by rfl) : PE X (.Attribute e f pos) (tICon X.K ta f) := by
  refine ⟨fun pins s σ H Q I h => ?_⟩
  refine attr_of hb (thn (he.run pins s σ H _ I h) fun u s1 ⟨x, H1, I1, rx, C, a, dx, fs, v, ex, ea, l, c, k, q⟩ => ?_)
  subst ex
  obtain rfl : u = Value.ref a := rx
  obtain ⟨mA, O, r, _, _, _⟩ := ins_get I1.hok ea
  have hn : mA f = none := RelO.none_of (by rw [← l]; exact r f)
  obtain ⟨w, h1, h2, h3⟩ := k.ex
  exact get_const I1.kIn O (c.get f) c.hd h1 h2 k.cp hn (handed_of h3) ⟨v, H1, I1.tok _, h3, q⟩
theorem pe_propA (he : PE X e ta) (F : FnOk X.prog X.w X.K X.mg X.base CX0 k g fd ps sp) (hr : Room (k + 1) X.A) (hb : Binds X.K fd ps [])
    (hab : attributeBase e f X.env (eval e X.env) = eval e X.env := by rfl) : PE X (.Attribute e f pos) (tPropA X.K p g f sp ta) := by
  refine ⟨fun pins s σ H Q I h => ?_⟩
  refine attr_of hab (thn (he.run pins s σ H _ I h) fun u s1 ⟨x, H1, I1, rx, C, a, dx, fs, ex, ea, c, hp, q⟩ => ?_)
  subst ex
  obtain rfl : u = Value.ref a := rx
  exact getprop_ok I1 ea c hp F hr hb .nil pass0 q
end
/-! ### str, repr, ==, != of an instance by the defs of a class above -/
def rTextA (K : Fr) (m : Str) (f : Addr) (sp : Sp) : List V → Hp → VK → Prop := fun xs H Q => ∃ C, Own K C m f ∧ rText C sp xs H Q
def rEqA (K : Fr) (f : Addr) (sp : Sp) : R2 := fun x y H Q => ∃ C, Own K C "__eq__" f ∧ rEqO K C sp x y H Q
def rNeA (K : Fr) (f : Addr) (sp : Sp) : R2 := fun x y H Q => ∃ C, Own K C "__eq__" f ∧ NeOf K C ∧ rNeO K C sp x y H Q
section
variable {X : Cx} {k : Nat} {f : Addr} {fd : FuncData} {ps : List Str} {sp : Sp}
theorem call_strA (F : FnOk X.prog X.w X.K X.mg X.base CX0 k f fd ps sp) (hb : Binds X.K fd ps []) (hr : Room (k + 2) X.A) : CallR X (.type "str") (rTextA X.K "__str__" f sp) := by
  intro pins s σ H xs us Q I r h
  obtain ⟨C, O, h⟩ := h
  exact call_strO O F hb hr pins s σ H xs us Q I r h
theorem call_reprA (F : FnOk X.prog X.w X.K X.mg X.base CX0 k f fd ps sp) (hb : Binds X.K fd ps []) (hr : Room (k + 1) X.A) : CallR X (.builtin "repr") (rTextA X.K "__repr__" f sp) := by
  intro pins s σ H xs us Q I r h
  obtain ⟨C, O, h⟩ := h
  exact call_reprO O F hb hr pins s σ H xs us Q I r h
theorem op_eqA (F : FnOk X.prog X.w X.K X.mg X.base CX0 k f fd ps sp) (hb : Binds X.K fd ps []) (hr : Room k X.A) : OpR X (compareOp .Eq) (rEqA X.K f sp) := by
  intro pins s σ H x y v u Q I rx ry h
  obtain ⟨C, O, h⟩ := h
  exact op_eqO O F hb hr pins s σ H x y v u Q I rx ry h
theorem op_neA (F : FnOk X.prog X.w X.K X.mg X.base CX0 k f fd ps sp) (hb : Binds X.K fd ps []) (hr : Room (k + 1) X.A) : OpR X (compareOp .NotEq) (rNeA X.K f sp) := by
  intro pins s σ H x y v u Q I rx ry h
  obtain ⟨C, O, N, h⟩ := h
  exact op_neO O N F hb hr pins s σ H x y v u Q I rx ry h
end
/-! ### tests -/
def tAll (l : List Tst) : Tst := fun K => l.all fun f => f K
theorem tAll_at {l : List Tst} {K : Fr} (c : tAll l K = true) (i : Nat) {f : Tst} (h : l[i]? = some f := by rfl) : f K = true := List.all_eq_true.mp c f (List.mem_of_getElem? h)
def tUnbT (x m : Str) : Tst := fun K => PySem.W.readsIn K (He.ga K x) (.type "type") && (He.eqO (PySem.W.specialIn K (.ref (He.ga K x)) "__getattribute__") (some (some (.builtin "type.__getattribute__"))) &&
  ((match PySem.W.findCls K (.ref (He.ga K x)) (.type "type") m with | some (.val (.ref g)) => decide (g = mAd x m K) | _ => false) && PySem.W.keepIn K (.ref (mAd x m K))))
theorem unb_ok {K : Fr} {x m : Str} (c : tUnbT x m K = true) : Unb K (He.ga K x) (.type "type") m (mAd x m K) := by
  obtain ⟨c1, c⟩ := He.ba c
  obtain ⟨c2, c⟩ := He.ba c
  obtain ⟨c3, c4⟩ := He.ba c
  refine ⟨⟨c1, He.eqO_ok c2⟩, ?_, c4⟩
  split at c3
  · rename_i g e
    rw [e, of_decide_eq_true c3]
  · cases c3
def tIConT (x f z : Str) : Tst := fun K => (match PySem.W.findIn K (.ref (He.ga K x)) f with | some (some (.str y t)) => decide (y = z) && He.eqO (PySem.W.specialIn K (.str y t) "__get__") (some none) | _ => false) && !PySem.W.copiedNames.contains f
theorem icon_ok {K : Fr} {x f z : Str} (c : tIConT x f z K = true) : ICon K (He.ga K x) f (.str z) := by
  obtain ⟨c1, c2⟩ := He.ba c
  refine ⟨?_, Bool.not_eq_true' _ ▸ c2⟩
  split at c1
  · rename_i y t e
    obtain ⟨c3, c4⟩ := He.ba c1
    have ey := of_decide_eq_true c3
    subst ey
    exact ⟨_, e, He.eqO_ok c4, t, rfl⟩
  · cases c1
def tCConT (x f z : Str) : Tst := fun K => PySem.W.readsIn K (He.ga K x) (.type "type") && (He.eqO (PySem.W.specialIn K (.ref (He.ga K x)) "__getattribute__") (some (some (.builtin "type.__getattribute__"))) &&
  (match PySem.W.findCls K (.ref (He.ga K x)) (.type "type") f with | some (.val (.str y _)) => decide (y = z) | _ => false))
theorem ccon_ok {K : Fr} {x f z : Str} (c : tCConT x f z K = true) : ClX.CRead K (He.ga K x) (.type "type") ∧ ∃ u, ClX.CVal K (He.ga K x) (.type "type") f (.str z) u := by
  obtain ⟨c1, c⟩ := He.ba c
  obtain ⟨c2, c3⟩ := He.ba c
  refine ⟨⟨c1, He.eqO_ok c2⟩, ?_⟩
  split at c3
  · rename_i y t e
    have ey := of_decide_eq_true c3
    subst ey
    exact ⟨_, e, t, rfl⟩
  · cases c3
end Hk

/-! Tests for a class y below the class b. -/
namespace Hk
open PySem PySem.Spec PyProof.Rows L2
def tSame (y b f : Str) : Tst := fun K => decide (He.ma K (He.ga K y) f = He.ma K (He.ga K b) f)
def tSub (y b wd : Str) (fs ps ms : List Str) : Tst := tAll ([tCls y, tMkr y, tIns y, tNe y, tIConT y "WORD" wd, tCConT y "WORD" wd] ++ (fs.map (tNoat y) ++ (ps.map (tProp y) ++ (ps.map (tSame y b) ++ (ms.map (tMeth y) ++ ms.map (tSame y b))))))
def tKits (y : Str) (l : List (Str × Bool)) : Tst := tAll (l.map fun q => tKitO y q.1 q.2)
def tFsts (y : Str) (l : List Str) : Tst := tAll (l.map fun z => fun K => PySem.W.notFirst K (He.ga K y) (.ref (He.ga K z)))
def tFstT (y : Str) (l : List String) : Tst := tAll (l.map fun t => tFst y t)
theorem tAll_mem {l : List Tst} {K : Fr} (c : tAll l K = true) {f : Tst} (h : f ∈ l) : f K = true := List.all_eq_true.mp c f h
section
variable {y b wd : Str} {fs ps ms : List Str} {K : Fr} (c : tSub y b wd fs ps ms K = true)
include c
theorem sub_cls : Cls K (He.ga K y) := He.cls_ok (tAll_at c 0)
theorem sub_mkr : (He.Fa.mkr y).ok K = true := tAll_at c 1
theorem sub_ins : tIns y K = true := tAll_at c 2
theorem sub_ne : NeOf K (He.ga K y) := ne_ok (tAll_at c 3)
theorem sub_icon : ICon K (He.ga K y) "WORD" (.str wd) := icon_ok (tAll_at c 4)
theorem sub_ccon : ClX.CRead K (He.ga K y) (.type "type") ∧ ∃ u, ClX.CVal K (He.ga K y) (.type "type") "WORD" (.str wd) u := ccon_ok (tAll_at c 5)
theorem sub_noat {f : Str} (h : f ∈ fs) : NoAttr K (He.ga K y) f := He.noat_ok (tAll_mem c (List.mem_append_right _ (List.mem_append_left _ (List.mem_map.mpr ⟨f, h, rfl⟩))))
theorem sub_prop {f : Str} (h : f ∈ ps) : PropOf K (He.ga K y) f (He.ma K (He.ga K b) f) (getAd b f K) := by
  have c1 : tProp y f K = true := tAll_mem c (List.mem_append_right _ (List.mem_append_right _ (List.mem_append_left _ (List.mem_map.mpr ⟨f, h, rfl⟩))))
  have c2 : tSame y b f K = true := tAll_mem c (List.mem_append_right _ (List.mem_append_right _ (List.mem_append_right _ (List.mem_append_left _ (List.mem_map.mpr ⟨f, h, rfl⟩)))))
  have e := of_decide_eq_true c2
  have p := prop_ok c1
  unfold getAd at p ⊢
  rw [← e]
  exact p
theorem sub_own {m : Str} (h : m ∈ ms) : Own K (He.ga K y) m (mAd b m K) := by
  have c1 : tMeth y m K = true := tAll_mem c (List.mem_append_right _ (List.mem_append_right _ (List.mem_append_right _ (List.mem_append_right _ (List.mem_append_left _ (List.mem_map.mpr ⟨m, h, rfl⟩))))))
  have c2 : tSame y b m K = true := tAll_mem c (List.mem_append_right _ (List.mem_append_right _ (List.mem_append_right _ (List.mem_append_right _ (List.mem_append_right _ (List.mem_map.mpr ⟨m, h, rfl⟩))))))
  have e := of_decide_eq_true c2
  have p := own_ok c1
  unfold mAd at p ⊢
  rw [← e]
  exact p
end
theorem kitsO_ok {K : Fr} {y : Str} {l : List (Str × Bool)} (c : tKits y l K = true) {z : Str} {r : Bool} (h : (z, r) ∈ l) : PySem.W.kitOne K (.ref (He.ga K y)) (.ref (He.ga K z)) = some r :=
  of_decide_eq_true (show tKitO y z r K = true from tAll_mem c (List.mem_map.mpr ⟨(z, r), h, rfl⟩))
theorem fstsO_ok {K : Fr} {y : Str} {l : List Str} (c : tFsts y l K = true) {z : Str} (h : z ∈ l) : PySem.W.notFirst K (He.ga K y) (.ref (He.ga K z)) = true :=
  tAll_mem c (f := fun K => PySem.W.notFirst K (He.ga K y) (.ref (He.ga K z))) (List.mem_map.mpr ⟨z, h, rfl⟩)
theorem fstTO_ok {K : Fr} {y : Str} {l : List String} (c : tFstT y l K = true) {t : String} (h : t ∈ l) : PySem.W.notFirst K (He.ga K y) (.type t) = true :=
  tAll_mem c (f := tFst y t) (List.mem_map.mpr ⟨t, h, rfl⟩)
end Hk

/-! The hook with the written part's addresses given, and the whole run's equation out of several smaller ones. -/
namespace Hk
open PySem PySem.Spec PyProof.Rows L2
noncomputable abbrev kL (as : List Addr) (s : PySem.W.SharedT) : Fr := He.frG (HeadRun.getT s) (cStatics :: as)
def lookL (as : List Addr) (fa : List Tst) (fn : List Dx) (g : Addr → Option Obj) : Al2 := look fa fn (He.frG g (cStatics :: as))
def hookL (as : List Addr) (fa : List Tst) (fn : List Dx) : PySem.W.Hook where
  α := Al2
  obs := fun s => lookL as fa fn s.heap.get?
  val := fun _ => due fn
  says := fun _ h => ∃ K : Fr, K.In h ∧ Says fa fn K
  of := fun _ _ e => ⟨_, He.frG_in, e⟩
  keeps := fun _ _ _ ⟨K, hK, c⟩ k => ⟨K, PySem.W.Frag.In.keeps hK k, c⟩
theorem lookL_eq {as : List Addr} {fa : List Tst} {fn : List Dx} {g : Addr → Option Obj} {s : Shared} (h : ∀ a, g a = s.heap.get? a) : lookL as fa fn g = (hookL as fa fn).obs s := by
  have e : g = s.heap.get? := funext h
  subst e
  rfl
noncomputable abbrev runOf (M : Nat) (p : Program) (w : World) : Option (Shared × PySem.W.SharedT) := HeadRun.wholeF (fun p => HeadRun.stepQ (HeadRun.denQ HeadRun.tabQ) p w) HeadRun.fenceQ M p
noncomputable def partA (as : List Addr) (fa : List Tst) (s : PySem.W.SharedT) : Bool := (fun K => fa.all fun f => f K) (kL as s)
noncomputable def partF (as : List Addr) (fn : List Dx) (s : PySem.W.SharedT) : Al2 := look [] fn (kL as s)
theorem run_parts {r : PySem.W.OpenRow} {q : Program} {as : List Addr} {ob : PySem.W.SharedT → Al2} {M : Nat} {loose : List PySem.Str} {w : World} {fa : List Tst} {fn : List Dx} (fas : List (List Tst)) (fns : List (List Dx)) (hfa : fas.flatten = fa) (hfn : fns.flatten = fn) (ho : ∀ s, ob s = lookL as fa fn (HeadRun.getT s))
    (p1 : (runOf M r.prog w).map (fun x => (HeadRun.looksF r.prog x.1.heap x.2.abs, HeadRun.seenQ q loose (importedModules r.prog.main.body) (fun s => PySem.W.xlAt q [] s && PySem.W.recOk r.records s) x.2.abs)) = some (true, PySem.W.openGood q loose))
    (pA : ∀ l ∈ fas, (runOf M r.prog w).map (fun x => partA as l x.2) = some true)
    (pF : ∀ l ∈ fns, (runOf M r.prog w).map (fun x => partF as l x.2) = some (due l)) : HeadRun.RunEqI r q (hookL as fa fn) ob M loose w := by
  subst hfa hfn
  unfold HeadRun.RunEqI
  change Option.map _ (runOf M r.prog w) = _
  cases e : runOf M r.prog w with
  | none =>
    rw [e] at p1
    exact nomatch p1
  | some x =>
    rw [e] at p1 pA pF
    have q1 := Option.some.inj p1
    have qA : ∀ l ∈ fas, l.all (fun f => f (kL as x.2)) = true := fun l hl => Option.some.inj (pA l hl)
    have qF : ∀ l ∈ fns, partF as l x.2 = due l := fun l hl => Option.some.inj (pF l hl)
    have hall : fas.flatten.all (fun f => f (kL as x.2)) = true := by
      rw [List.all_eq_true]
      intro f hf
      obtain ⟨l, hl, hf⟩ := List.mem_flatten.mp hf
      exact List.all_eq_true.mp (qA l hl) f hf
    have hF : fns.flatten.all (fun d => d.okb (kL as x.2)) = true ∧ fns.flatten.map (fun d => seenAt (kL as x.2) (d.ad (kL as x.2))) = fns.flatten.map Dx.due := by
      clear pF ho
      induction fns with
      | nil => exact ⟨rfl, rfl⟩
      | cons l r ih =>
        have i := ih fun y hy => qF y (List.mem_cons_of_mem _ hy)
        have z := qF l List.mem_cons_self
        have o4 : (l.all fun d => d.okb (kL as x.2)) = true := (Prod.mk.inj z).1
        have s4 : l.map (fun d => seenAt (kL as x.2) (d.ad (kL as x.2))) = l.map Dx.due := (Prod.mk.inj z).2
        rw [List.flatten_cons, List.all_append, List.map_append, List.map_append, o4, s4, i.1, i.2]
        exact ⟨rfl, rfl⟩
    have a1 := (Prod.mk.inj q1).1
    have a2 := (Prod.mk.inj q1).2
    have h4 : ob x.2 = due fns.flatten := by
      rw [ho]
      show look fas.flatten fns.flatten (kL as x.2) = due fns.flatten
      unfold look due
      rw [hall, hF.1, hF.2]
      rfl
    show some (_, _, ob x.2) = some (true, PySem.W.openGood q loose, due fns.flatten)
    rw [h4, a1, a2]
end Hk

namespace K09
open PySem PySem.Spec PyProof.Rows L2 Hk
def top (i : Nat) : Stmt := PySem.Challenge.pw_delaynets_k09_signals_made.main.body.getD i (.Pass ⟨0, 0, 0, 0⟩)
abbrev s_wall : Stmt := top 1
def d_wall : Dx := ⟨gAd "_wall", "_wall", "_wall", s_wall, []⟩
theorem sc_wall : FnScope ["k"] ["k"] (defScope s_wall) := ⟨rfl, rfl, rfl, by decide +kernel, rfl, by decide +kernel, by decide +kernel⟩
abbrev s_InvalidName_init : Stmt := inClass (top 4) 0
def d_InvalidName_init : Dx := ⟨mAd "InvalidName" "__init__", "__init__", "InvalidName.__init__", s_InvalidName_init, []⟩
theorem sc_InvalidName_init : FnScope ["self", "value"] ["self", "value"] (defScope s_InvalidName_init) := ⟨rfl, rfl, rfl, by decide +kernel, rfl, by decide +kernel, by decide +kernel⟩
abbrev s_InvalidText_init : Stmt := inClass (top 5) 0
def d_InvalidText_init : Dx := ⟨mAd "InvalidText" "__init__", "__init__", "InvalidText.__init__", s_InvalidText_init, []⟩
theorem sc_InvalidText_init : FnScope ["self", "value"] ["self", "value"] (defScope s_InvalidText_init) := ⟨rfl, rfl, rfl, by decide +kernel, rfl, by decide +kernel, by decide +kernel⟩
abbrev s_InvalidStep_init : Stmt := inClass (top 6) 0
def d_InvalidStep_init : Dx := ⟨mAd "InvalidStep" "__init__", "__init__", "InvalidStep.__init__", s_InvalidStep_init, []⟩
theorem sc_InvalidStep_init : FnScope ["self", "value"] ["self", "value"] (defScope s_InvalidStep_init) := ⟨rfl, rfl, rfl, by decide +kernel, rfl, by decide +kernel, by decide +kernel⟩
abbrev s_InvalidGain_init : Stmt := inClass (top 7) 0
def d_InvalidGain_init : Dx := ⟨mAd "InvalidGain" "__init__", "__init__", "InvalidGain.__init__", s_InvalidGain_init, []⟩
theorem sc_InvalidGain_init : FnScope ["self", "value"] ["self", "value"] (defScope s_InvalidGain_init) := ⟨rfl, rfl, rfl, by decide +kernel, rfl, by decide +kernel, by decide +kernel⟩
abbrev s_InvalidCount_init : Stmt := inClass (top 8) 0
def d_InvalidCount_init : Dx := ⟨mAd "InvalidCount" "__init__", "__init__", "InvalidCount.__init__", s_InvalidCount_init, []⟩
theorem sc_InvalidCount_init : FnScope ["self", "value"] ["self", "value"] (defScope s_InvalidCount_init) := ⟨rfl, rfl, rfl, by decide +kernel, rfl, by decide +kernel, by decide +kernel⟩
abbrev s_NotANumber_init : Stmt := inClass (top 9) 0
def d_NotANumber_init : Dx := ⟨mAd "NotANumber" "__init__", "__init__", "NotANumber.__init__", s_NotANumber_init, []⟩
theorem sc_NotANumber_init : FnScope ["self", "value"] ["self", "value"] (defScope s_NotANumber_init) := ⟨rfl, rfl, rfl, by decide +kernel, rfl, by decide +kernel, by decide +kernel⟩
abbrev s_NotASignal_init : Stmt := inClass (top 10) 0
def d_NotASignal_init : Dx := ⟨mAd "NotASignal" "__init__", "__init__", "NotASignal.__init__", s_NotASignal_init, []⟩
theorem sc_NotASignal_init : FnScope ["self", "value"] ["self", "value"] (defScope s_NotASignal_init) := ⟨rfl, rfl, rfl, by decide +kernel, rfl, by decide +kernel, by decide +kernel⟩
abbrev s_InvalidTerms_init : Stmt := inClass (top 11) 0
def d_InvalidTerms_init : Dx := ⟨mAd "InvalidTerms" "__init__", "__init__", "InvalidTerms.__init__", s_InvalidTerms_init, []⟩
theorem sc_InvalidTerms_init : FnScope ["self", "index"] ["self", "index"] (defScope s_InvalidTerms_init) := ⟨rfl, rfl, rfl, by decide +kernel, rfl, by decide +kernel, by decide +kernel⟩
abbrev s_TooMany_init : Stmt := inClass (top 15) 0
def d_TooMany_init : Dx := ⟨mAd "TooMany" "__init__", "__init__", "TooMany.__init__", s_TooMany_init, []⟩
theorem sc_TooMany_init : FnScope ["self", "limit"] ["self", "limit"] (defScope s_TooMany_init) := ⟨rfl, rfl, rfl, by decide +kernel, rfl, by decide +kernel, by decide +kernel⟩
abbrev s_is_integer : Stmt := top 23
def d_is_integer : Dx := ⟨gAd "is_integer", "is_integer", "is_integer", s_is_integer, []⟩
theorem sc_is_integer : FnScope ["value"] ["value"] (defScope s_is_integer) := ⟨rfl, rfl, rfl, by decide +kernel, rfl, by decide +kernel, by decide +kernel⟩
abbrev s_is_number : Stmt := top 24
def d_is_number : Dx := ⟨gAd "is_number", "is_number", "is_number", s_is_number, []⟩
theorem sc_is_number : FnScope ["value"] ["value"] (defScope s_is_number) := ⟨rfl, rfl, rfl, by decide +kernel, rfl, by decide +kernel, by decide +kernel⟩
abbrev s_as_number : Stmt := top 25
def d_as_number : Dx := ⟨gAd "as_number", "as_number", "as_number", s_as_number, []⟩
theorem sc_as_number : FnScope ["value"] ["value"] (defScope s_as_number) := ⟨rfl, rfl, rfl, by decide +kernel, rfl, by decide +kernel, by decide +kernel⟩
abbrev s_Number_init : Stmt := inClass (top 26) 0
def d_Number_init : Dx := ⟨mAd "Number" "__init__", "__init__", "Number.__init__", s_Number_init, [.int 1]⟩
theorem sc_Number_init : FnScope ["self", "top", "bottom", "shared"] ["self", "top", "bottom"] (defScope s_Number_init) := ⟨rfl, rfl, rfl, by decide +kernel, rfl, by decide +kernel, by decide +kernel⟩
abbrev s_Number_read : Stmt := inClass (top 26) 1
def d_Number_read : Dx := ⟨statAd "Number" "read", "read", "Number.read", s_Number_read, []⟩
theorem sc_Number_read : FnScope ["text", "number"] ["text"] (defScope s_Number_read) := ⟨rfl, rfl, rfl, by decide +kernel, rfl, by decide +kernel, by decide +kernel⟩
abbrev s_Number_top : Stmt := inClass (top 26) 2
def d_Number_top : Dx := ⟨getAd "Number" "top", "top", "Number.top", s_Number_top, []⟩
theorem sc_Number_top : FnScope ["self"] ["self"] (defScope s_Number_top) := ⟨rfl, rfl, rfl, by decide +kernel, rfl, by decide +kernel, by decide +kernel⟩
abbrev s_Number_bottom : Stmt := inClass (top 26) 3
def d_Number_bottom : Dx := ⟨getAd "Number" "bottom", "bottom", "Number.bottom", s_Number_bottom, []⟩
theorem sc_Number_bottom : FnScope ["self"] ["self"] (defScope s_Number_bottom) := ⟨rfl, rfl, rfl, by decide +kernel, rfl, by decide +kernel, by decide +kernel⟩
abbrev s_Number_sign : Stmt := inClass (top 26) 4
def d_Number_sign : Dx := ⟨getAd "Number" "sign", "sign", "Number.sign", s_Number_sign, []⟩
theorem sc_Number_sign : FnScope ["self"] ["self"] (defScope s_Number_sign) := ⟨rfl, rfl, rfl, by decide +kernel, rfl, by decide +kernel, by decide +kernel⟩
abbrev s_Number_over : Stmt := inClass (top 26) 5
def d_Number_over : Dx := ⟨mAd "Number" "over", "over", "Number.over", s_Number_over, []⟩
theorem sc_Number_over : FnScope ["self", "other"] ["self", "other"] (defScope s_Number_over) := ⟨rfl, rfl, rfl, by decide +kernel, rfl, by decide +kernel, by decide +kernel⟩
abbrev s_Number_add : Stmt := inClass (top 26) 6
def d_Number_add : Dx := ⟨mAd "Number" "__add__", "__add__", "Number.__add__", s_Number_add, []⟩
theorem sc_Number_add : FnScope ["self", "other", "right"] ["self", "other"] (defScope s_Number_add) := ⟨rfl, rfl, rfl, by decide +kernel, rfl, by decide +kernel, by decide +kernel⟩
abbrev s_Number_radd : Stmt := inClass (top 26) 7
def d_Number_radd : Dx := ⟨mAd "Number" "__radd__", "__radd__", "Number.__radd__", s_Number_radd, []⟩
theorem sc_Number_radd : FnScope ["self", "other"] ["self", "other"] (defScope s_Number_radd) := ⟨rfl, rfl, rfl, by decide +kernel, rfl, by decide +kernel, by decide +kernel⟩
abbrev s_Number_sub : Stmt := inClass (top 26) 8
def d_Number_sub : Dx := ⟨mAd "Number" "__sub__", "__sub__", "Number.__sub__", s_Number_sub, []⟩
theorem sc_Number_sub : FnScope ["self", "other", "right"] ["self", "other"] (defScope s_Number_sub) := ⟨rfl, rfl, rfl, by decide +kernel, rfl, by decide +kernel, by decide +kernel⟩
abbrev s_Number_rsub : Stmt := inClass (top 26) 9
def d_Number_rsub : Dx := ⟨mAd "Number" "__rsub__", "__rsub__", "Number.__rsub__", s_Number_rsub, []⟩
theorem sc_Number_rsub : FnScope ["self", "other"] ["self", "other"] (defScope s_Number_rsub) := ⟨rfl, rfl, rfl, by decide +kernel, rfl, by decide +kernel, by decide +kernel⟩
abbrev s_Number_mul : Stmt := inClass (top 26) 10
def d_Number_mul : Dx := ⟨mAd "Number" "__mul__", "__mul__", "Number.__mul__", s_Number_mul, []⟩
theorem sc_Number_mul : FnScope ["self", "other", "right"] ["self", "other"] (defScope s_Number_mul) := ⟨rfl, rfl, rfl, by decide +kernel, rfl, by decide +kernel, by decide +kernel⟩
abbrev s_Number_rmul : Stmt := inClass (top 26) 11
def d_Number_rmul : Dx := ⟨mAd "Number" "__rmul__", "__rmul__", "Number.__rmul__", s_Number_rmul, []⟩
theorem sc_Number_rmul : FnScope ["self", "other"] ["self", "other"] (defScope s_Number_rmul) := ⟨rfl, rfl, rfl, by decide +kernel, rfl, by decide +kernel, by decide +kernel⟩
abbrev s_Number_neg : Stmt := inClass (top 26) 12
def d_Number_neg : Dx := ⟨mAd "Number" "__neg__", "__neg__", "Number.__neg__", s_Number_neg, []⟩
theorem sc_Number_neg : FnScope ["self"] ["self"] (defScope s_Number_neg) := ⟨rfl, rfl, rfl, by decide +kernel, rfl, by decide +kernel, by decide +kernel⟩
abbrev s_Number_abs : Stmt := inClass (top 26) 13
def d_Number_abs : Dx := ⟨mAd "Number" "__abs__", "__abs__", "Number.__abs__", s_Number_abs, []⟩
theorem sc_Number_abs : FnScope ["self"] ["self"] (defScope s_Number_abs) := ⟨rfl, rfl, rfl, by decide +kernel, rfl, by decide +kernel, by decide +kernel⟩
abbrev s_Number_pow : Stmt := inClass (top 26) 14
def d_Number_pow : Dx := ⟨mAd "Number" "__pow__", "__pow__", "Number.__pow__", s_Number_pow, []⟩
theorem sc_Number_pow : FnScope ["self", "other", "power", "_"] ["self", "other"] (defScope s_Number_pow) := ⟨rfl, rfl, rfl, by decide +kernel, rfl, by decide +kernel, by decide +kernel⟩
abbrev s_Number_eq : Stmt := inClass (top 26) 15
def d_Number_eq : Dx := ⟨mAd "Number" "__eq__", "__eq__", "Number.__eq__", s_Number_eq, []⟩
theorem sc_Number_eq : FnScope ["self", "other"] ["self", "other"] (defScope s_Number_eq) := ⟨rfl, rfl, rfl, by decide +kernel, rfl, by decide +kernel, by decide +kernel⟩
abbrev s_Number_str : Stmt := inClass (top 26) 16
def d_Number_str : Dx := ⟨mAd "Number" "__str__", "__str__", "Number.__str__", s_Number_str, []⟩
theorem sc_Number_str : FnScope ["self"] ["self"] (defScope s_Number_str) := ⟨rfl, rfl, rfl, by decide +kernel, rfl, by decide +kernel, by decide +kernel⟩
abbrev s_Number_repr : Stmt := inClass (top 26) 17
def d_Number_repr : Dx := ⟨mAd "Number" "__repr__", "__repr__", "Number.__repr__", s_Number_repr, []⟩
theorem sc_Number_repr : FnScope ["self"] ["self"] (defScope s_Number_repr) := ⟨rfl, rfl, rfl, by decide +kernel, rfl, by decide +kernel, by decide +kernel⟩
abbrev s_number_in : Stmt := top 27
def d_number_in : Dx := ⟨gAd "_number_in", "_number_in", "_number_in", s_number_in, []⟩
theorem sc_number_in : FnScope ["text", "top", "slash", "bottom"] ["text"] (defScope s_number_in) := ⟨rfl, rfl, rfl, by decide +kernel, rfl, by decide +kernel, by decide +kernel⟩
abbrev s_is_digits : Stmt := top 28
def d_is_digits : Dx := ⟨gAd "_is_digits", "_is_digits", "_is_digits", s_is_digits, []⟩
theorem sc_is_digits : FnScope ["text"] ["text"] (defScope s_is_digits) := ⟨rfl, rfl, rfl, by decide +kernel, rfl, by decide +kernel, by decide +kernel⟩
abbrev s_is_name : Stmt := top 34
def d_is_name : Dx := ⟨gAd "is_name", "is_name", "is_name", s_is_name, []⟩
theorem sc_is_name : FnScope ["value", "sign"] ["value"] (defScope s_is_name) := ⟨rfl, rfl, rfl, by decide +kernel, rfl, by decide +kernel, by decide +kernel⟩
abbrev s_is_gain : Stmt := top 35
def d_is_gain : Dx := ⟨gAd "_is_gain", "_is_gain", "_is_gain", s_is_gain, []⟩
theorem sc_is_gain : FnScope ["value", "number"] ["value"] (defScope s_is_gain) := ⟨rfl, rfl, rfl, by decide +kernel, rfl, by decide +kernel, by decide +kernel⟩
abbrev s_is_between : Stmt := top 36
def d_is_between : Dx := ⟨gAd "_is_between", "_is_between", "_is_between", s_is_between, []⟩
theorem sc_is_between : FnScope ["value", "least", "greatest"] ["value", "least", "greatest"] (defScope s_is_between) := ⟨rfl, rfl, rfl, by decide +kernel, rfl, by decide +kernel, by decide +kernel⟩
abbrev s_written : Stmt := top 37
def d_written : Dx := ⟨gAd "_written", "_written", "_written", s_written, []⟩
theorem sc_written : FnScope ["word", "arguments", "between", "argument"] ["word", "arguments"] (defScope s_written) := ⟨rfl, rfl, rfl, by decide +kernel, rfl, by decide +kernel, by decide +kernel⟩
abbrev s_Signal_init : Stmt := inClass (top 38) 0
def d_Signal_init : Dx := ⟨mAd "Signal" "__init__", "__init__", "Signal.__init__", s_Signal_init, []⟩
theorem sc_Signal_init : FnScope ["self", "text", "inside", "amount", "parts", "signal", "depth"] ["self", "text", "inside", "amount"] (defScope s_Signal_init) := ⟨rfl, rfl, rfl, by decide +kernel, rfl, by decide +kernel, by decide +kernel⟩
abbrev s_Signal_inside : Stmt := inClass (top 38) 1
def d_Signal_inside : Dx := ⟨getAd "Signal" "inside", "inside", "Signal.inside", s_Signal_inside, []⟩
theorem sc_Signal_inside : FnScope ["self"] ["self"] (defScope s_Signal_inside) := ⟨rfl, rfl, rfl, by decide +kernel, rfl, by decide +kernel, by decide +kernel⟩
abbrev s_Signal_amount : Stmt := inClass (top 38) 2
def d_Signal_amount : Dx := ⟨getAd "Signal" "amount", "amount", "Signal.amount", s_Signal_amount, []⟩
theorem sc_Signal_amount : FnScope ["self"] ["self"] (defScope s_Signal_amount) := ⟨rfl, rfl, rfl, by decide +kernel, rfl, by decide +kernel, by decide +kernel⟩
abbrev s_Signal_names : Stmt := inClass (top 38) 3
def d_Signal_names : Dx := ⟨getAd "Signal" "names", "names", "Signal.names", s_Signal_names, []⟩
theorem sc_Signal_names : FnScope ["self", "signal", "name"] ["self"] (defScope s_Signal_names) := ⟨rfl, rfl, rfl, by decide +kernel, rfl, by decide +kernel, by decide +kernel⟩
abbrev s_Signal_parts : Stmt := inClass (top 38) 4
def d_Signal_parts : Dx := ⟨getAd "Signal" "parts", "parts", "Signal.parts", s_Signal_parts, []⟩
theorem sc_Signal_parts : FnScope ["self"] ["self"] (defScope s_Signal_parts) := ⟨rfl, rfl, rfl, by decide +kernel, rfl, by decide +kernel, by decide +kernel⟩
abbrev s_Signal_depth : Stmt := inClass (top 38) 5
def d_Signal_depth : Dx := ⟨getAd "Signal" "depth", "depth", "Signal.depth", s_Signal_depth, []⟩
theorem sc_Signal_depth : FnScope ["self"] ["self"] (defScope s_Signal_depth) := ⟨rfl, rfl, rfl, by decide +kernel, rfl, by decide +kernel, by decide +kernel⟩
abbrev s_Signal_add : Stmt := inClass (top 38) 6
def d_Signal_add : Dx := ⟨mAd "Signal" "__add__", "__add__", "Signal.__add__", s_Signal_add, []⟩
theorem sc_Signal_add : FnScope ["self", "other"] ["self", "other"] (defScope s_Signal_add) := ⟨rfl, rfl, rfl, by decide +kernel, rfl, by decide +kernel, by decide +kernel⟩
abbrev s_Signal_sub : Stmt := inClass (top 38) 7
def d_Signal_sub : Dx := ⟨mAd "Signal" "__sub__", "__sub__", "Signal.__sub__", s_Signal_sub, []⟩
theorem sc_Signal_sub : FnScope ["self", "other"] ["self", "other"] (defScope s_Signal_sub) := ⟨rfl, rfl, rfl, by decide +kernel, rfl, by decide +kernel, by decide +kernel⟩
abbrev s_Signal_neg : Stmt := inClass (top 38) 8
def d_Signal_neg : Dx := ⟨mAd "Signal" "__neg__", "__neg__", "Signal.__neg__", s_Signal_neg, []⟩
theorem sc_Signal_neg : FnScope ["self"] ["self"] (defScope s_Signal_neg) := ⟨rfl, rfl, rfl, by decide +kernel, rfl, by decide +kernel, by decide +kernel⟩
abbrev s_Signal_mul : Stmt := inClass (top 38) 9
def d_Signal_mul : Dx := ⟨mAd "Signal" "__mul__", "__mul__", "Signal.__mul__", s_Signal_mul, []⟩
theorem sc_Signal_mul : FnScope ["self", "other"] ["self", "other"] (defScope s_Signal_mul) := ⟨rfl, rfl, rfl, by decide +kernel, rfl, by decide +kernel, by decide +kernel⟩
abbrev s_Signal_rshift : Stmt := inClass (top 38) 10
def d_Signal_rshift : Dx := ⟨mAd "Signal" "__rshift__", "__rshift__", "Signal.__rshift__", s_Signal_rshift, []⟩
theorem sc_Signal_rshift : FnScope ["self", "other"] ["self", "other"] (defScope s_Signal_rshift) := ⟨rfl, rfl, rfl, by decide +kernel, rfl, by decide +kernel, by decide +kernel⟩
abbrev s_Signal_floordiv : Stmt := inClass (top 38) 11
def d_Signal_floordiv : Dx := ⟨mAd "Signal" "__floordiv__", "__floordiv__", "Signal.__floordiv__", s_Signal_floordiv, []⟩
theorem sc_Signal_floordiv : FnScope ["self", "other"] ["self", "other"] (defScope s_Signal_floordiv) := ⟨rfl, rfl, rfl, by decide +kernel, rfl, by decide +kernel, by decide +kernel⟩
abbrev s_Signal_pow : Stmt := inClass (top 38) 12
def d_Signal_pow : Dx := ⟨mAd "Signal" "__pow__", "__pow__", "Signal.__pow__", s_Signal_pow, []⟩
theorem sc_Signal_pow : FnScope ["self", "other"] ["self", "other"] (defScope s_Signal_pow) := ⟨rfl, rfl, rfl, by decide +kernel, rfl, by decide +kernel, by decide +kernel⟩
abbrev s_Signal_eq : Stmt := inClass (top 38) 13
def d_Signal_eq : Dx := ⟨mAd "Signal" "__eq__", "__eq__", "Signal.__eq__", s_Signal_eq, []⟩
theorem sc_Signal_eq : FnScope ["self", "other"] ["self", "other"] (defScope s_Signal_eq) := ⟨rfl, rfl, rfl, by decide +kernel, rfl, by decide +kernel, by decide +kernel⟩
abbrev s_Signal_str : Stmt := inClass (top 38) 14
def d_Signal_str : Dx := ⟨mAd "Signal" "__str__", "__str__", "Signal.__str__", s_Signal_str, []⟩
theorem sc_Signal_str : FnScope ["self"] ["self"] (defScope s_Signal_str) := ⟨rfl, rfl, rfl, by decide +kernel, rfl, by decide +kernel, by decide +kernel⟩
abbrev s_Signal_repr : Stmt := inClass (top 38) 15
def d_Signal_repr : Dx := ⟨mAd "Signal" "__repr__", "__repr__", "Signal.__repr__", s_Signal_repr, []⟩
theorem sc_Signal_repr : FnScope ["self"] ["self"] (defScope s_Signal_repr) := ⟨rfl, rfl, rfl, by decide +kernel, rfl, by decide +kernel, by decide +kernel⟩
abbrev s_Name_init : Stmt := inClass (top 39) 1
def d_Name_init : Dx := ⟨mAd "Name" "__init__", "__init__", "Name.__init__", s_Name_init, []⟩
theorem sc_Name_init : FnScope ["self", "name"] ["self", "name"] (defScope s_Name_init) := ⟨rfl, rfl, rfl, by decide +kernel, rfl, by decide +kernel, by decide +kernel⟩
abbrev s_Sum_init : Stmt := inClass (top 40) 1
def d_Sum_init : Dx := ⟨mAd "Sum" "__init__", "__init__", "Sum.__init__", s_Sum_init, []⟩
theorem sc_Sum_init : FnScope ["self", "terms", "index", "term"] ["self", "terms"] (defScope s_Sum_init) := ⟨rfl, rfl, rfl, by decide +kernel, rfl, by decide +kernel, by decide +kernel⟩
abbrev s_Times_init : Stmt := inClass (top 41) 1
def d_Times_init : Dx := ⟨mAd "Times" "__init__", "__init__", "Times.__init__", s_Times_init, []⟩
theorem sc_Times_init : FnScope ["self", "number", "signal", "gain"] ["self", "number", "signal"] (defScope s_Times_init) := ⟨rfl, rfl, rfl, by decide +kernel, rfl, by decide +kernel, by decide +kernel⟩
abbrev s_Late_init : Stmt := inClass (top 42) 1
def d_Late_init : Dx := ⟨mAd "Late" "__init__", "__init__", "Late.__init__", s_Late_init, []⟩
theorem sc_Late_init : FnScope ["self", "signal", "count"] ["self", "signal", "count"] (defScope s_Late_init) := ⟨rfl, rfl, rfl, by decide +kernel, rfl, by decide +kernel, by decide +kernel⟩
abbrev s_Every_init : Stmt := inClass (top 43) 1
def d_Every_init : Dx := ⟨mAd "Every" "__init__", "__init__", "Every.__init__", s_Every_init, []⟩
theorem sc_Every_init : FnScope ["self", "signal", "step"] ["self", "signal", "step"] (defScope s_Every_init) := ⟨rfl, rfl, rfl, by decide +kernel, rfl, by decide +kernel, by decide +kernel⟩
abbrev s_Spread_init : Stmt := inClass (top 44) 1
def d_Spread_init : Dx := ⟨mAd "Spread" "__init__", "__init__", "Spread.__init__", s_Spread_init, []⟩
theorem sc_Spread_init : FnScope ["self", "signal", "step"] ["self", "signal", "step"] (defScope s_Spread_init) := ⟨rfl, rfl, rfl, by decide +kernel, rfl, by decide +kernel, by decide +kernel⟩
abbrev s_l_cell : Stmt := top 46
def d_l_cell : Dx := ⟨gAd "_law_cell", "_law_cell", "_law_cell", s_l_cell, []⟩
theorem sc_l_cell : FnScope ["_law_script", "_law_k", "_law_found", "_law_each"] ["_law_script", "_law_k"] (defScope s_l_cell) := ⟨rfl, rfl, rfl, by decide +kernel, rfl, by decide +kernel, by decide +kernel⟩
abbrev s_l_source : Stmt := top 47
def d_l_source : Dx := ⟨gAd "_law_source", "_law_source", "_law_source", s_l_source, []⟩
theorem sc_l_source : FnScope ["_law_cell_here"] ["_law_cell_here"] (defScope s_l_source) := ⟨rfl, rfl, rfl, by decide +kernel, rfl, by decide +kernel, by decide +kernel⟩
abbrev s_l_pick : Stmt := top 48
def d_l_pick : Dx := ⟨gAd "_law_pick", "_law_pick", "_law_pick", s_l_pick, []⟩
theorem sc_l_pick : FnScope ["_law_source_here", "_law_many", "_law_state", "_law_more", "_law_digit"] ["_law_source_here", "_law_many"] (defScope s_l_pick) := ⟨rfl, rfl, rfl, by decide +kernel, rfl, by decide +kernel, by decide +kernel⟩
abbrev s_l_tag : Stmt := top 49
def d_l_tag : Dx := ⟨gAd "_law_tag", "_law_tag", "_law_tag", s_l_tag, []⟩
theorem sc_l_tag : FnScope ["_law_source_here", "_law_signs", "_law_found", "_law_turn"] ["_law_source_here"] (defScope s_l_tag) := ⟨rfl, rfl, rfl, by decide +kernel, rfl, by decide +kernel, by decide +kernel⟩
abbrev s_l_tags : Stmt := top 50
def d_l_tags : Dx := ⟨gAd "_law_tags", "_law_tags", "_law_tags", s_l_tags, []⟩
theorem sc_l_tags : FnScope ["_law_source_here", "_law_many", "_law_signs", "_law_found", "_law_turn", "_law_tag_here", "_law_some", "_law_sign", "_law_each"] ["_law_source_here", "_law_many"] (defScope s_l_tags) := ⟨rfl, rfl, rfl, by decide +kernel, rfl, by decide +kernel, by decide +kernel⟩
abbrev s_l_lowest : Stmt := top 51
def d_l_lowest : Dx := ⟨gAd "_law_lowest", "_law_lowest", "_law_lowest", s_l_lowest, []⟩
theorem sc_l_lowest : FnScope ["_law_top", "_law_bottom", "_law_one", "_law_two"] ["_law_top", "_law_bottom"] (defScope s_l_lowest) := ⟨rfl, rfl, rfl, by decide +kernel, rfl, by decide +kernel, by decide +kernel⟩
abbrev s_l_gain : Stmt := top 52
def d_l_gain : Dx := ⟨gAd "_law_gain", "_law_gain", "_law_gain", s_l_gain, []⟩
theorem sc_l_gain : FnScope ["_law_source_here", "_law_some"] ["_law_source_here"] (defScope s_l_gain) := ⟨rfl, rfl, rfl, by decide +kernel, rfl, by decide +kernel, by decide +kernel⟩
abbrev s_l_ratio : Stmt := top 53
def d_l_ratio : Dx := ⟨gAd "_law_ratio", "_law_ratio", "_law_ratio", s_l_ratio, []⟩
theorem sc_l_ratio : FnScope ["_law_gain_here"] ["_law_gain_here"] (defScope s_l_ratio) := ⟨rfl, rfl, rfl, by decide +kernel, rfl, by decide +kernel, by decide +kernel⟩
abbrev s_l_tell : Stmt := top 54
def d_l_tell : Dx := ⟨gAd "_law_tell", "_law_tell", "_law_tell", s_l_tell, []⟩
theorem sc_l_tell : FnScope ["_law_tree_here", "_law_word", "_law_part"] ["_law_tree_here"] (defScope s_l_tell) := ⟨rfl, rfl, rfl, by decide +kernel, rfl, by decide +kernel, by decide +kernel⟩
abbrev s_l_inside : Stmt := top 55
def d_l_inside : Dx := ⟨gAd "_law_inside", "_law_inside", "_law_inside", s_l_inside, []⟩
theorem sc_l_inside : FnScope ["_law_tree_here"] ["_law_tree_here"] (defScope s_l_inside) := ⟨rfl, rfl, rfl, by decide +kernel, rfl, by decide +kernel, by decide +kernel⟩
abbrev s_l_parts : Stmt := top 56
def d_l_parts : Dx := ⟨gAd "_law_parts", "_law_parts", "_law_parts", s_l_parts, []⟩
theorem sc_l_parts : FnScope ["_law_tree_here", "_law_part"] ["_law_tree_here"] (defScope s_l_parts) := ⟨rfl, rfl, rfl, by decide +kernel, rfl, by decide +kernel, by decide +kernel⟩
abbrev s_l_depth : Stmt := top 57
def d_l_depth : Dx := ⟨gAd "_law_depth", "_law_depth", "_law_depth", s_l_depth, []⟩
theorem sc_l_depth : FnScope ["_law_tree_here", "_law_part"] ["_law_tree_here"] (defScope s_l_depth) := ⟨rfl, rfl, rfl, by decide +kernel, rfl, by decide +kernel, by decide +kernel⟩
abbrev s_l_leaves : Stmt := top 58
def d_l_leaves : Dx := ⟨gAd "_law_leaves", "_law_leaves", "_law_leaves", s_l_leaves, []⟩
theorem sc_l_leaves : FnScope ["_law_tree_here", "_law_found", "_law_part"] ["_law_tree_here"] (defScope s_l_leaves) := ⟨rfl, rfl, rfl, by decide +kernel, rfl, by decide +kernel, by decide +kernel⟩
abbrev s_l_tree : Stmt := top 59
def d_l_tree : Dx := ⟨gAd "_law_tree", "_law_tree", "_law_tree", s_l_tree, []⟩
theorem sc_l_tree : FnScope ["_law_source_here", "_law_tags_here", "_law_deep", "_law_room", "_law_way", "_law_some", "_law_many", "_law_left", "_law_turn", "_law_part", "_law_gain_here"] ["_law_source_here", "_law_tags_here", "_law_deep", "_law_room"] (defScope s_l_tree) := ⟨rfl, rfl, rfl, by decide +kernel, rfl, by decide +kernel, by decide +kernel⟩
abbrev s_l_total : Stmt := top 60
def d_l_total : Dx := ⟨gAd "_law_total", "_law_total", "_law_total", s_l_total, []⟩
theorem sc_l_total : FnScope ["_law_some"] ["_law_some"] (defScope s_l_total) := ⟨rfl, rfl, rfl, by decide +kernel, rfl, by decide +kernel, by decide +kernel⟩
abbrev s_l_made : Stmt := top 61
def d_l_made : Dx := ⟨gAd "_law_made", "_law_made", "_law_made", s_l_made, []⟩
theorem sc_l_made : FnScope ["_law_source_here", "_law_tree_here", "_law_word", "_law_way", "_law_some", "_law_part", "_law_gain_here"] ["_law_source_here", "_law_tree_here"] (defScope s_l_made) := ⟨rfl, rfl, rfl, by decide +kernel, rfl, by decide +kernel, by decide +kernel⟩
abbrev s_l_kinds : Stmt := top 62
def d_l_kinds : Dx := ⟨gAd "_law_kinds", "_law_kinds", "_law_kinds", s_l_kinds, []⟩
theorem sc_l_kinds : FnScope ["_law_thing", "_law_found"] ["_law_thing"] (defScope s_l_kinds) := ⟨rfl, rfl, rfl, by decide +kernel, rfl, by decide +kernel, by decide +kernel⟩
abbrev s_l_shown : Stmt := top 63
def d_l_shown : Dx := ⟨gAd "_law_shown", "_law_shown", "_law_shown", s_l_shown, []⟩
theorem sc_l_shown : FnScope ["_law_made_here"] ["_law_made_here"] (defScope s_l_shown) := ⟨rfl, rfl, rfl, by decide +kernel, rfl, by decide +kernel, by decide +kernel⟩
abbrev s_l_due : Stmt := top 64
def d_l_due : Dx := ⟨gAd "_law_due", "_law_due", "_law_due", s_l_due, []⟩
theorem sc_l_due : FnScope ["_law_tree_here", "_law_line", "_law_words", "_law_found", "_law_word"] ["_law_tree_here"] (defScope s_l_due) := ⟨rfl, rfl, rfl, by decide +kernel, rfl, by decide +kernel, by decide +kernel⟩
abbrev s_l_right : Stmt := top 65
def d_l_right : Dx := ⟨gAd "_law_right", "_law_right", "_law_right", s_l_right, []⟩
theorem sc_l_right : FnScope ["_law_source_here", "_law_tags_here", "_law_tree_here", "_law_other", "_law_made_here", "_law_twin", "_law_mate", "_law_same", "_law_odd", "_law_thing"] ["_law_source_here"] (defScope s_l_right) := ⟨rfl, rfl, rfl, by decide +kernel, rfl, by decide +kernel, by decide +kernel⟩
abbrev s_l_greatest_right : Stmt := top 66
def d_l_greatest_right : Dx := ⟨gAd "_law_greatest_right", "_law_greatest_right", "_law_greatest_right", s_l_greatest_right, []⟩
theorem sc_l_greatest_right : FnScope ["_law_source_here", "_law_tags_here", "_law_gain_here", "_law_by", "_law_far", "_law_leaf", "_law_deep", "_law_long", "_law_full", "_law_tree_here"] ["_law_source_here"] (defScope s_l_greatest_right) := ⟨rfl, rfl, rfl, by decide +kernel, rfl, by decide +kernel, by decide +kernel⟩
abbrev s_law : Stmt := top 67
def d_law : Dx := ⟨gAd "law", "law", "law", s_law, []⟩
theorem sc_law : FnScope ["_law_script", "_law_words", "_law_k", "_law_source_here"] ["_law_script"] (defScope s_law) := ⟨rfl, rfl, rfl, by decide +kernel, rfl, by decide +kernel, by decide +kernel⟩
def FN : List Dx := [d_is_integer, d_is_number, d_as_number, d_Number_init, d_Number_top, d_Number_bottom, d_Number_str, d_is_name, d_is_gain, d_is_between, d_written, d_Signal_init, d_Signal_names, d_Signal_parts, d_Signal_depth, d_Signal_eq, d_Signal_str, d_Signal_repr, d_Name_init, d_Sum_init, d_Times_init, d_Late_init, d_Every_init, d_Spread_init, d_l_cell, d_l_source, d_l_pick, d_l_tag, d_l_tags, d_l_lowest, d_l_gain, d_l_ratio, d_l_tell, d_l_inside, d_l_parts, d_l_depth, d_l_leaves, d_l_tree, d_l_total, d_l_made, d_l_kinds, d_l_shown, d_l_due, d_l_right, d_l_greatest_right, d_law]
def FA : List Tst := [tGlo "is_integer",
  tGlo "is_number",
  tGlo "as_number",
  tGlo "is_name",
  tGlo "_is_gain",
  tGlo "_is_between",
  tGlo "_written",
  tGlo "_law_cell",
  tGlo "_law_source",
  tGlo "_law_pick",
  tGlo "_law_tag",
  tGlo "_law_tags",
  tGlo "_law_lowest",
  tGlo "_law_gain",
  tGlo "_law_ratio",
  tGlo "_law_tell",
  tGlo "_law_inside",
  tGlo "_law_parts",
  tGlo "_law_depth",
  tGlo "_law_leaves",
  tGlo "_law_tree",
  tGlo "_law_total",
  tGlo "_law_made",
  tGlo "_law_kinds",
  tGlo "_law_shown",
  tGlo "_law_due",
  tGlo "_law_right",
  tGlo "_law_greatest_right",
  tGlo "law",
  tBlt "gcd" "math.gcd",
  tInt "MAX_PARTS" 12,
  tInt "MAX_DEPTH" 5,
  tInt "MAX_TERMS" 5,
  tInt "MAX_GAIN" 99,
  tInt "MAX_STEP" 6,
  tStr "LETTERS" "abcdefghijklmnopqrstuvwxyz",
  tStr "NAME_SIGNS" "abcdefghijklmnopqrstuvwxyz0123456789",
  tInt "MAX_NAME" 8,
  tInt "MAX_DELAY" 6,
  tFree "abs",
  tFree "all",
  tFree "any",
  tFree "bool",
  tFree "divmod",
  tFree "enumerate",
  tFree "int",
  tFree "isinstance",
  tFree "len",
  tFree "list",
  tFree "max",
  tFree "min",
  tFree "range",
  tFree "repr",
  tFree "set",
  tFree "sorted",
  tFree "str",
  tFree "sum",
  tFree "tuple",
  tGlo "Number",
  tGlo "Signal",
  tGlo "Name",
  tGlo "Sum",
  tGlo "Times",
  tGlo "Late",
  tGlo "Every",
  tGlo "Spread",
  tCls "Number",
  tMkr "Number",
  tNoat "Number" "_top",
  tNoat "Number" "_bottom",
  tProp "Number" "top",
  tProp "Number" "bottom",
  tMeth "Number" "__str__",
  tIns "Number",
  tKitO "Number" "Number" true,
  tKit "int" "Number" false,
  tSub "Name" "Signal" "name" ["_text", "_inside", "_amount", "_parts", "_depth"] ["names", "parts", "depth"] ["__str__", "__repr__", "__eq__"],
  tSub "Sum" "Signal" "sum" ["_text", "_inside", "_amount", "_parts", "_depth"] ["names", "parts", "depth"] ["__str__", "__repr__", "__eq__"],
  tSub "Times" "Signal" "times" ["_text", "_inside", "_amount", "_parts", "_depth"] ["names", "parts", "depth"] ["__str__", "__repr__", "__eq__"],
  tSub "Late" "Signal" "late" ["_text", "_inside", "_amount", "_parts", "_depth"] ["names", "parts", "depth"] ["__str__", "__repr__", "__eq__"],
  tSub "Every" "Signal" "every" ["_text", "_inside", "_amount", "_parts", "_depth"] ["names", "parts", "depth"] ["__str__", "__repr__", "__eq__"],
  tSub "Spread" "Signal" "spread" ["_text", "_inside", "_amount", "_parts", "_depth"] ["names", "parts", "depth"] ["__str__", "__repr__", "__eq__"],
  tKits "Name" [("Signal", true), ("Name", true), ("Sum", false), ("Times", false), ("Late", false), ("Every", false), ("Spread", false)],
  tKits "Sum" [("Signal", true), ("Name", false), ("Sum", true), ("Times", false), ("Late", false), ("Every", false), ("Spread", false)],
  tKits "Times" [("Signal", true), ("Name", false), ("Sum", false), ("Times", true), ("Late", false), ("Every", false), ("Spread", false)],
  tKits "Late" [("Signal", true), ("Name", false), ("Sum", false), ("Times", false), ("Late", true), ("Every", false), ("Spread", false)],
  tKits "Every" [("Signal", true), ("Name", false), ("Sum", false), ("Times", false), ("Late", false), ("Every", true), ("Spread", false)],
  tKits "Spread" [("Signal", true), ("Name", false), ("Sum", false), ("Times", false), ("Late", false), ("Every", false), ("Spread", true)],
  tFsts "Name" ["Name", "Sum", "Times", "Late", "Every", "Spread", "Number"],
  tFstT "Name" ["str", "NoneType", "int", "tuple", "list"],
  tFsts "Sum" ["Name", "Sum", "Times", "Late", "Every", "Spread", "Number"],
  tFstT "Sum" ["str", "NoneType", "int", "tuple", "list"],
  tFsts "Times" ["Name", "Sum", "Times", "Late", "Every", "Spread", "Number"],
  tFstT "Times" ["str", "NoneType", "int", "tuple", "list"],
  tFsts "Late" ["Name", "Sum", "Times", "Late", "Every", "Spread", "Number"],
  tFstT "Late" ["str", "NoneType", "int", "tuple", "list"],
  tFsts "Every" ["Name", "Sum", "Times", "Late", "Every", "Spread", "Number"],
  tFstT "Every" ["str", "NoneType", "int", "tuple", "list"],
  tFsts "Spread" ["Name", "Sum", "Times", "Late", "Every", "Spread", "Number"],
  tFstT "Spread" ["str", "NoneType", "int", "tuple", "list"],
  tUnbT "Signal" "__init__",
  tAll [tKit "str" "Signal" false, tKit "NoneType" "Signal" false, tKit "int" "Signal" false, tKit "tuple" "Signal" false, tKit "list" "Signal" false, tKitO "Number" "Signal" false]]
abbrev Sy (K : Fr) : Prop := Says FA FN K
theorem f_glo_is_integer {K : Fr} (c : Sy K) : (tGlo "is_integer") K = true := c.tst 0
theorem f_glo_is_number {K : Fr} (c : Sy K) : (tGlo "is_number") K = true := c.tst 1
theorem f_glo_as_number {K : Fr} (c : Sy K) : (tGlo "as_number") K = true := c.tst 2
theorem f_glo_is_name {K : Fr} (c : Sy K) : (tGlo "is_name") K = true := c.tst 3
theorem f_glo_is_gain {K : Fr} (c : Sy K) : (tGlo "_is_gain") K = true := c.tst 4
theorem f_glo_is_between {K : Fr} (c : Sy K) : (tGlo "_is_between") K = true := c.tst 5
theorem f_glo_written {K : Fr} (c : Sy K) : (tGlo "_written") K = true := c.tst 6
theorem f_glo_l_cell {K : Fr} (c : Sy K) : (tGlo "_law_cell") K = true := c.tst 7
theorem f_glo_l_source {K : Fr} (c : Sy K) : (tGlo "_law_source") K = true := c.tst 8
theorem f_glo_l_pick {K : Fr} (c : Sy K) : (tGlo "_law_pick") K = true := c.tst 9
theorem f_glo_l_tag {K : Fr} (c : Sy K) : (tGlo "_law_tag") K = true := c.tst 10
theorem f_glo_l_tags {K : Fr} (c : Sy K) : (tGlo "_law_tags") K = true := c.tst 11
theorem f_glo_l_lowest {K : Fr} (c : Sy K) : (tGlo "_law_lowest") K = true := c.tst 12
theorem f_glo_l_gain {K : Fr} (c : Sy K) : (tGlo "_law_gain") K = true := c.tst 13
theorem f_glo_l_ratio {K : Fr} (c : Sy K) : (tGlo "_law_ratio") K = true := c.tst 14
theorem f_glo_l_tell {K : Fr} (c : Sy K) : (tGlo "_law_tell") K = true := c.tst 15
theorem f_glo_l_inside {K : Fr} (c : Sy K) : (tGlo "_law_inside") K = true := c.tst 16
theorem f_glo_l_parts {K : Fr} (c : Sy K) : (tGlo "_law_parts") K = true := c.tst 17
theorem f_glo_l_depth {K : Fr} (c : Sy K) : (tGlo "_law_depth") K = true := c.tst 18
theorem f_glo_l_leaves {K : Fr} (c : Sy K) : (tGlo "_law_leaves") K = true := c.tst 19
theorem f_glo_l_tree {K : Fr} (c : Sy K) : (tGlo "_law_tree") K = true := c.tst 20
theorem f_glo_l_total {K : Fr} (c : Sy K) : (tGlo "_law_total") K = true := c.tst 21
theorem f_glo_l_made {K : Fr} (c : Sy K) : (tGlo "_law_made") K = true := c.tst 22
theorem f_glo_l_kinds {K : Fr} (c : Sy K) : (tGlo "_law_kinds") K = true := c.tst 23
theorem f_glo_l_shown {K : Fr} (c : Sy K) : (tGlo "_law_shown") K = true := c.tst 24
theorem f_glo_l_due {K : Fr} (c : Sy K) : (tGlo "_law_due") K = true := c.tst 25
theorem f_glo_l_right {K : Fr} (c : Sy K) : (tGlo "_law_right") K = true := c.tst 26
theorem f_glo_l_greatest_right {K : Fr} (c : Sy K) : (tGlo "_law_greatest_right") K = true := c.tst 27
theorem f_glo_law {K : Fr} (c : Sy K) : (tGlo "law") K = true := c.tst 28
theorem f_blt_gcd {K : Fr} (c : Sy K) : (tBlt "gcd" "math.gcd") K = true := c.tst 29
theorem f_int_MAX_PARTS {K : Fr} (c : Sy K) : (tInt "MAX_PARTS" 12) K = true := c.tst 30
theorem f_int_MAX_DEPTH {K : Fr} (c : Sy K) : (tInt "MAX_DEPTH" 5) K = true := c.tst 31
theorem f_int_MAX_TERMS {K : Fr} (c : Sy K) : (tInt "MAX_TERMS" 5) K = true := c.tst 32
theorem f_int_MAX_GAIN {K : Fr} (c : Sy K) : (tInt "MAX_GAIN" 99) K = true := c.tst 33
theorem f_int_MAX_STEP {K : Fr} (c : Sy K) : (tInt "MAX_STEP" 6) K = true := c.tst 34
theorem f_str_LETTERS {K : Fr} (c : Sy K) : (tStr "LETTERS" "abcdefghijklmnopqrstuvwxyz") K = true := c.tst 35
theorem f_str_NAME_SIGNS {K : Fr} (c : Sy K) : (tStr "NAME_SIGNS" "abcdefghijklmnopqrstuvwxyz0123456789") K = true := c.tst 36
theorem f_int_MAX_NAME {K : Fr} (c : Sy K) : (tInt "MAX_NAME" 8) K = true := c.tst 37
theorem f_int_MAX_DELAY {K : Fr} (c : Sy K) : (tInt "MAX_DELAY" 6) K = true := c.tst 38
theorem f_free_abs {K : Fr} (c : Sy K) : (tFree "abs") K = true := c.tst 39
theorem f_free_all {K : Fr} (c : Sy K) : (tFree "all") K = true := c.tst 40
theorem f_free_any {K : Fr} (c : Sy K) : (tFree "any") K = true := c.tst 41
theorem f_free_bool {K : Fr} (c : Sy K) : (tFree "bool") K = true := c.tst 42
theorem f_free_divmod {K : Fr} (c : Sy K) : (tFree "divmod") K = true := c.tst 43
theorem f_free_enumerate {K : Fr} (c : Sy K) : (tFree "enumerate") K = true := c.tst 44
theorem f_free_int {K : Fr} (c : Sy K) : (tFree "int") K = true := c.tst 45
theorem f_free_isinstance {K : Fr} (c : Sy K) : (tFree "isinstance") K = true := c.tst 46
theorem f_free_len {K : Fr} (c : Sy K) : (tFree "len") K = true := c.tst 47
theorem f_free_list {K : Fr} (c : Sy K) : (tFree "list") K = true := c.tst 48
theorem f_free_max {K : Fr} (c : Sy K) : (tFree "max") K = true := c.tst 49
theorem f_free_min {K : Fr} (c : Sy K) : (tFree "min") K = true := c.tst 50
theorem f_free_range {K : Fr} (c : Sy K) : (tFree "range") K = true := c.tst 51
theorem f_free_repr {K : Fr} (c : Sy K) : (tFree "repr") K = true := c.tst 52
theorem f_free_set {K : Fr} (c : Sy K) : (tFree "set") K = true := c.tst 53
theorem f_free_sorted {K : Fr} (c : Sy K) : (tFree "sorted") K = true := c.tst 54
theorem f_free_str {K : Fr} (c : Sy K) : (tFree "str") K = true := c.tst 55
theorem f_free_sum {K : Fr} (c : Sy K) : (tFree "sum") K = true := c.tst 56
theorem f_free_tuple {K : Fr} (c : Sy K) : (tFree "tuple") K = true := c.tst 57
theorem f_glo_Number {K : Fr} (c : Sy K) : (tGlo "Number") K = true := c.tst 58
theorem f_glo_Signal {K : Fr} (c : Sy K) : (tGlo "Signal") K = true := c.tst 59
theorem f_glo_Name {K : Fr} (c : Sy K) : (tGlo "Name") K = true := c.tst 60
theorem f_glo_Sum {K : Fr} (c : Sy K) : (tGlo "Sum") K = true := c.tst 61
theorem f_glo_Times {K : Fr} (c : Sy K) : (tGlo "Times") K = true := c.tst 62
theorem f_glo_Late {K : Fr} (c : Sy K) : (tGlo "Late") K = true := c.tst 63
theorem f_glo_Every {K : Fr} (c : Sy K) : (tGlo "Every") K = true := c.tst 64
theorem f_glo_Spread {K : Fr} (c : Sy K) : (tGlo "Spread") K = true := c.tst 65
theorem f_cls_Number {K : Fr} (c : Sy K) : (tCls "Number") K = true := c.tst 66
theorem f_mkr_Number {K : Fr} (c : Sy K) : (tMkr "Number") K = true := c.tst 67
theorem f_noat_top {K : Fr} (c : Sy K) : (tNoat "Number" "_top") K = true := c.tst 68
theorem f_noat_bot {K : Fr} (c : Sy K) : (tNoat "Number" "_bottom") K = true := c.tst 69
theorem f_prop_top {K : Fr} (c : Sy K) : (tProp "Number" "top") K = true := c.tst 70
theorem f_prop_bottom {K : Fr} (c : Sy K) : (tProp "Number" "bottom") K = true := c.tst 71
theorem f_meth_str {K : Fr} (c : Sy K) : (tMeth "Number" "__str__") K = true := c.tst 72
theorem f_ins {K : Fr} (c : Sy K) : (tIns "Number") K = true := c.tst 73
theorem f_kitO {K : Fr} (c : Sy K) : (tKitO "Number" "Number" true) K = true := c.tst 74
theorem f_kit_int {K : Fr} (c : Sy K) : (tKit "int" "Number" false) K = true := c.tst 75
theorem f_sub_Name {K : Fr} (c : Sy K) : (tSub "Name" "Signal" "name" ["_text", "_inside", "_amount", "_parts", "_depth"] ["names", "parts", "depth"] ["__str__", "__repr__", "__eq__"]) K = true := c.tst 76
theorem f_sub_Sum {K : Fr} (c : Sy K) : (tSub "Sum" "Signal" "sum" ["_text", "_inside", "_amount", "_parts", "_depth"] ["names", "parts", "depth"] ["__str__", "__repr__", "__eq__"]) K = true := c.tst 77
theorem f_sub_Times {K : Fr} (c : Sy K) : (tSub "Times" "Signal" "times" ["_text", "_inside", "_amount", "_parts", "_depth"] ["names", "parts", "depth"] ["__str__", "__repr__", "__eq__"]) K = true := c.tst 78
theorem f_sub_Late {K : Fr} (c : Sy K) : (tSub "Late" "Signal" "late" ["_text", "_inside", "_amount", "_parts", "_depth"] ["names", "parts", "depth"] ["__str__", "__repr__", "__eq__"]) K = true := c.tst 79
theorem f_sub_Every {K : Fr} (c : Sy K) : (tSub "Every" "Signal" "every" ["_text", "_inside", "_amount", "_parts", "_depth"] ["names", "parts", "depth"] ["__str__", "__repr__", "__eq__"]) K = true := c.tst 80
theorem f_sub_Spread {K : Fr} (c : Sy K) : (tSub "Spread" "Signal" "spread" ["_text", "_inside", "_amount", "_parts", "_depth"] ["names", "parts", "depth"] ["__str__", "__repr__", "__eq__"]) K = true := c.tst 81
theorem f_kits_Name {K : Fr} (c : Sy K) : (tKits "Name" [("Signal", true), ("Name", true), ("Sum", false), ("Times", false), ("Late", false), ("Every", false), ("Spread", false)]) K = true := c.tst 82
theorem f_kits_Sum {K : Fr} (c : Sy K) : (tKits "Sum" [("Signal", true), ("Name", false), ("Sum", true), ("Times", false), ("Late", false), ("Every", false), ("Spread", false)]) K = true := c.tst 83
theorem f_kits_Times {K : Fr} (c : Sy K) : (tKits "Times" [("Signal", true), ("Name", false), ("Sum", false), ("Times", true), ("Late", false), ("Every", false), ("Spread", false)]) K = true := c.tst 84
theorem f_kits_Late {K : Fr} (c : Sy K) : (tKits "Late" [("Signal", true), ("Name", false), ("Sum", false), ("Times", false), ("Late", true), ("Every", false), ("Spread", false)]) K = true := c.tst 85
theorem f_kits_Every {K : Fr} (c : Sy K) : (tKits "Every" [("Signal", true), ("Name", false), ("Sum", false), ("Times", false), ("Late", false), ("Every", true), ("Spread", false)]) K = true := c.tst 86
theorem f_kits_Spread {K : Fr} (c : Sy K) : (tKits "Spread" [("Signal", true), ("Name", false), ("Sum", false), ("Times", false), ("Late", false), ("Every", false), ("Spread", true)]) K = true := c.tst 87
theorem f_fst_Name {K : Fr} (c : Sy K) : (tFsts "Name" ["Name", "Sum", "Times", "Late", "Every", "Spread", "Number"]) K = true := c.tst 88
theorem f_fstT_Name {K : Fr} (c : Sy K) : (tFstT "Name" ["str", "NoneType", "int", "tuple", "list"]) K = true := c.tst 89
theorem f_fst_Sum {K : Fr} (c : Sy K) : (tFsts "Sum" ["Name", "Sum", "Times", "Late", "Every", "Spread", "Number"]) K = true := c.tst 90
theorem f_fstT_Sum {K : Fr} (c : Sy K) : (tFstT "Sum" ["str", "NoneType", "int", "tuple", "list"]) K = true := c.tst 91
theorem f_fst_Times {K : Fr} (c : Sy K) : (tFsts "Times" ["Name", "Sum", "Times", "Late", "Every", "Spread", "Number"]) K = true := c.tst 92
theorem f_fstT_Times {K : Fr} (c : Sy K) : (tFstT "Times" ["str", "NoneType", "int", "tuple", "list"]) K = true := c.tst 93
theorem f_fst_Late {K : Fr} (c : Sy K) : (tFsts "Late" ["Name", "Sum", "Times", "Late", "Every", "Spread", "Number"]) K = true := c.tst 94
theorem f_fstT_Late {K : Fr} (c : Sy K) : (tFstT "Late" ["str", "NoneType", "int", "tuple", "list"]) K = true := c.tst 95
theorem f_fst_Every {K : Fr} (c : Sy K) : (tFsts "Every" ["Name", "Sum", "Times", "Late", "Every", "Spread", "Number"]) K = true := c.tst 96
theorem f_fstT_Every {K : Fr} (c : Sy K) : (tFstT "Every" ["str", "NoneType", "int", "tuple", "list"]) K = true := c.tst 97
theorem f_fst_Spread {K : Fr} (c : Sy K) : (tFsts "Spread" ["Name", "Sum", "Times", "Late", "Every", "Spread", "Number"]) K = true := c.tst 98
theorem f_fstT_Spread {K : Fr} (c : Sy K) : (tFstT "Spread" ["str", "NoneType", "int", "tuple", "list"]) K = true := c.tst 99
theorem f_unb {K : Fr} (c : Sy K) : (tUnbT "Signal" "__init__") K = true := c.tst 100
theorem f_kitS {K : Fr} (c : Sy K) : (tAll [tKit "str" "Signal" false, tKit "NoneType" "Signal" false, tKit "int" "Signal" false, tKit "tuple" "Signal" false, tKit "list" "Signal" false, tKitO "Number" "Signal" false]) K = true := c.tst 101
structure Tx (K : Fr) (mg : Str → Option Value) : Prop where
  c : Sy K
  g : ∃ h, K.In h ∧ h.Ns mainGlobals mg
theorem g_is_integer {K : Fr} {mg : Str → Option Value} (T : Tx K mg) : mg "is_integer" = some (.ref (gAd "is_integer" K)) := by
  obtain ⟨h, X, G⟩ := T.g
  exact He.glo_ok X G (f_glo_is_integer T.c)
theorem g_is_number {K : Fr} {mg : Str → Option Value} (T : Tx K mg) : mg "is_number" = some (.ref (gAd "is_number" K)) := by
  obtain ⟨h, X, G⟩ := T.g
  exact He.glo_ok X G (f_glo_is_number T.c)
theorem g_as_number {K : Fr} {mg : Str → Option Value} (T : Tx K mg) : mg "as_number" = some (.ref (gAd "as_number" K)) := by
  obtain ⟨h, X, G⟩ := T.g
  exact He.glo_ok X G (f_glo_as_number T.c)
theorem g_is_name {K : Fr} {mg : Str → Option Value} (T : Tx K mg) : mg "is_name" = some (.ref (gAd "is_name" K)) := by
  obtain ⟨h, X, G⟩ := T.g
  exact He.glo_ok X G (f_glo_is_name T.c)
theorem g_is_gain {K : Fr} {mg : Str → Option Value} (T : Tx K mg) : mg "_is_gain" = some (.ref (gAd "_is_gain" K)) := by
  obtain ⟨h, X, G⟩ := T.g
  exact He.glo_ok X G (f_glo_is_gain T.c)
theorem g_is_between {K : Fr} {mg : Str → Option Value} (T : Tx K mg) : mg "_is_between" = some (.ref (gAd "_is_between" K)) := by
  obtain ⟨h, X, G⟩ := T.g
  exact He.glo_ok X G (f_glo_is_between T.c)
theorem g_written {K : Fr} {mg : Str → Option Value} (T : Tx K mg) : mg "_written" = some (.ref (gAd "_written" K)) := by
  obtain ⟨h, X, G⟩ := T.g
  exact He.glo_ok X G (f_glo_written T.c)
theorem g_l_cell {K : Fr} {mg : Str → Option Value} (T : Tx K mg) : mg "_law_cell" = some (.ref (gAd "_law_cell" K)) := by
  obtain ⟨h, X, G⟩ := T.g
  exact He.glo_ok X G (f_glo_l_cell T.c)
theorem g_l_source {K : Fr} {mg : Str → Option Value} (T : Tx K mg) : mg "_law_source" = some (.ref (gAd "_law_source" K)) := by
  obtain ⟨h, X, G⟩ := T.g
  exact He.glo_ok X G (f_glo_l_source T.c)
theorem g_l_pick {K : Fr} {mg : Str → Option Value} (T : Tx K mg) : mg "_law_pick" = some (.ref (gAd "_law_pick" K)) := by
  obtain ⟨h, X, G⟩ := T.g
  exact He.glo_ok X G (f_glo_l_pick T.c)
theorem g_l_tag {K : Fr} {mg : Str → Option Value} (T : Tx K mg) : mg "_law_tag" = some (.ref (gAd "_law_tag" K)) := by
  obtain ⟨h, X, G⟩ := T.g
  exact He.glo_ok X G (f_glo_l_tag T.c)
theorem g_l_tags {K : Fr} {mg : Str → Option Value} (T : Tx K mg) : mg "_law_tags" = some (.ref (gAd "_law_tags" K)) := by
  obtain ⟨h, X, G⟩ := T.g
  exact He.glo_ok X G (f_glo_l_tags T.c)
theorem g_l_lowest {K : Fr} {mg : Str → Option Value} (T : Tx K mg) : mg "_law_lowest" = some (.ref (gAd "_law_lowest" K)) := by
  obtain ⟨h, X, G⟩ := T.g
  exact He.glo_ok X G (f_glo_l_lowest T.c)
theorem g_l_gain {K : Fr} {mg : Str → Option Value} (T : Tx K mg) : mg "_law_gain" = some (.ref (gAd "_law_gain" K)) := by
  obtain ⟨h, X, G⟩ := T.g
  exact He.glo_ok X G (f_glo_l_gain T.c)
theorem g_l_ratio {K : Fr} {mg : Str → Option Value} (T : Tx K mg) : mg "_law_ratio" = some (.ref (gAd "_law_ratio" K)) := by
  obtain ⟨h, X, G⟩ := T.g
  exact He.glo_ok X G (f_glo_l_ratio T.c)
theorem g_l_tell {K : Fr} {mg : Str → Option Value} (T : Tx K mg) : mg "_law_tell" = some (.ref (gAd "_law_tell" K)) := by
  obtain ⟨h, X, G⟩ := T.g
  exact He.glo_ok X G (f_glo_l_tell T.c)
theorem g_l_inside {K : Fr} {mg : Str → Option Value} (T : Tx K mg) : mg "_law_inside" = some (.ref (gAd "_law_inside" K)) := by
  obtain ⟨h, X, G⟩ := T.g
  exact He.glo_ok X G (f_glo_l_inside T.c)
theorem g_l_parts {K : Fr} {mg : Str → Option Value} (T : Tx K mg) : mg "_law_parts" = some (.ref (gAd "_law_parts" K)) := by
  obtain ⟨h, X, G⟩ := T.g
  exact He.glo_ok X G (f_glo_l_parts T.c)
theorem g_l_depth {K : Fr} {mg : Str → Option Value} (T : Tx K mg) : mg "_law_depth" = some (.ref (gAd "_law_depth" K)) := by
  obtain ⟨h, X, G⟩ := T.g
  exact He.glo_ok X G (f_glo_l_depth T.c)
theorem g_l_leaves {K : Fr} {mg : Str → Option Value} (T : Tx K mg) : mg "_law_leaves" = some (.ref (gAd "_law_leaves" K)) := by
  obtain ⟨h, X, G⟩ := T.g
  exact He.glo_ok X G (f_glo_l_leaves T.c)
theorem g_l_tree {K : Fr} {mg : Str → Option Value} (T : Tx K mg) : mg "_law_tree" = some (.ref (gAd "_law_tree" K)) := by
  obtain ⟨h, X, G⟩ := T.g
  exact He.glo_ok X G (f_glo_l_tree T.c)
theorem g_l_total {K : Fr} {mg : Str → Option Value} (T : Tx K mg) : mg "_law_total" = some (.ref (gAd "_law_total" K)) := by
  obtain ⟨h, X, G⟩ := T.g
  exact He.glo_ok X G (f_glo_l_total T.c)
theorem g_l_made {K : Fr} {mg : Str → Option Value} (T : Tx K mg) : mg "_law_made" = some (.ref (gAd "_law_made" K)) := by
  obtain ⟨h, X, G⟩ := T.g
  exact He.glo_ok X G (f_glo_l_made T.c)
theorem g_l_kinds {K : Fr} {mg : Str → Option Value} (T : Tx K mg) : mg "_law_kinds" = some (.ref (gAd "_law_kinds" K)) := by
  obtain ⟨h, X, G⟩ := T.g
  exact He.glo_ok X G (f_glo_l_kinds T.c)
theorem g_l_shown {K : Fr} {mg : Str → Option Value} (T : Tx K mg) : mg "_law_shown" = some (.ref (gAd "_law_shown" K)) := by
  obtain ⟨h, X, G⟩ := T.g
  exact He.glo_ok X G (f_glo_l_shown T.c)
theorem g_l_due {K : Fr} {mg : Str → Option Value} (T : Tx K mg) : mg "_law_due" = some (.ref (gAd "_law_due" K)) := by
  obtain ⟨h, X, G⟩ := T.g
  exact He.glo_ok X G (f_glo_l_due T.c)
theorem g_l_right {K : Fr} {mg : Str → Option Value} (T : Tx K mg) : mg "_law_right" = some (.ref (gAd "_law_right" K)) := by
  obtain ⟨h, X, G⟩ := T.g
  exact He.glo_ok X G (f_glo_l_right T.c)
theorem g_l_greatest_right {K : Fr} {mg : Str → Option Value} (T : Tx K mg) : mg "_law_greatest_right" = some (.ref (gAd "_law_greatest_right" K)) := by
  obtain ⟨h, X, G⟩ := T.g
  exact He.glo_ok X G (f_glo_l_greatest_right T.c)
theorem g_law {K : Fr} {mg : Str → Option Value} (T : Tx K mg) : mg "law" = some (.ref (gAd "law" K)) := by
  obtain ⟨h, X, G⟩ := T.g
  exact He.glo_ok X G (f_glo_law T.c)
theorem m_gcd {K : Fr} {mg : Str → Option Value} (T : Tx K mg) : mg "gcd" = some (.builtin "math.gcd") := by
  obtain ⟨h, X, G⟩ := T.g
  exact blt_ok X G (f_blt_gcd T.c)
theorem i_MAX_PARTS {K : Fr} {mg : Str → Option Value} (T : Tx K mg) : ∃ t, mg "MAX_PARTS" = some (.int 12 t) := by
  obtain ⟨h, X, G⟩ := T.g
  exact He.int_ok X G (f_int_MAX_PARTS T.c)
theorem i_MAX_DEPTH {K : Fr} {mg : Str → Option Value} (T : Tx K mg) : ∃ t, mg "MAX_DEPTH" = some (.int 5 t) := by
  obtain ⟨h, X, G⟩ := T.g
  exact He.int_ok X G (f_int_MAX_DEPTH T.c)
theorem i_MAX_TERMS {K : Fr} {mg : Str → Option Value} (T : Tx K mg) : ∃ t, mg "MAX_TERMS" = some (.int 5 t) := by
  obtain ⟨h, X, G⟩ := T.g
  exact He.int_ok X G (f_int_MAX_TERMS T.c)
theorem i_MAX_GAIN {K : Fr} {mg : Str → Option Value} (T : Tx K mg) : ∃ t, mg "MAX_GAIN" = some (.int 99 t) := by
  obtain ⟨h, X, G⟩ := T.g
  exact He.int_ok X G (f_int_MAX_GAIN T.c)
theorem i_MAX_STEP {K : Fr} {mg : Str → Option Value} (T : Tx K mg) : ∃ t, mg "MAX_STEP" = some (.int 6 t) := by
  obtain ⟨h, X, G⟩ := T.g
  exact He.int_ok X G (f_int_MAX_STEP T.c)
theorem i_MAX_NAME {K : Fr} {mg : Str → Option Value} (T : Tx K mg) : ∃ t, mg "MAX_NAME" = some (.int 8 t) := by
  obtain ⟨h, X, G⟩ := T.g
  exact He.int_ok X G (f_int_MAX_NAME T.c)
theorem i_MAX_DELAY {K : Fr} {mg : Str → Option Value} (T : Tx K mg) : ∃ t, mg "MAX_DELAY" = some (.int 6 t) := by
  obtain ⟨h, X, G⟩ := T.g
  exact He.int_ok X G (f_int_MAX_DELAY T.c)
theorem n_abs {K : Fr} {mg : Str → Option Value} (T : Tx K mg) : mg "abs" = none := by
  obtain ⟨h, X, G⟩ := T.g
  exact He.free_ok X G (f_free_abs T.c)
theorem n_all {K : Fr} {mg : Str → Option Value} (T : Tx K mg) : mg "all" = none := by
  obtain ⟨h, X, G⟩ := T.g
  exact He.free_ok X G (f_free_all T.c)
theorem n_any {K : Fr} {mg : Str → Option Value} (T : Tx K mg) : mg "any" = none := by
  obtain ⟨h, X, G⟩ := T.g
  exact He.free_ok X G (f_free_any T.c)
theorem n_bool {K : Fr} {mg : Str → Option Value} (T : Tx K mg) : mg "bool" = none := by
  obtain ⟨h, X, G⟩ := T.g
  exact He.free_ok X G (f_free_bool T.c)
theorem n_divmod {K : Fr} {mg : Str → Option Value} (T : Tx K mg) : mg "divmod" = none := by
  obtain ⟨h, X, G⟩ := T.g
  exact He.free_ok X G (f_free_divmod T.c)
theorem n_enumerate {K : Fr} {mg : Str → Option Value} (T : Tx K mg) : mg "enumerate" = none := by
  obtain ⟨h, X, G⟩ := T.g
  exact He.free_ok X G (f_free_enumerate T.c)
theorem n_int {K : Fr} {mg : Str → Option Value} (T : Tx K mg) : mg "int" = none := by
  obtain ⟨h, X, G⟩ := T.g
  exact He.free_ok X G (f_free_int T.c)
theorem n_isinstance {K : Fr} {mg : Str → Option Value} (T : Tx K mg) : mg "isinstance" = none := by
  obtain ⟨h, X, G⟩ := T.g
  exact He.free_ok X G (f_free_isinstance T.c)
theorem n_len {K : Fr} {mg : Str → Option Value} (T : Tx K mg) : mg "len" = none := by
  obtain ⟨h, X, G⟩ := T.g
  exact He.free_ok X G (f_free_len T.c)
theorem n_list {K : Fr} {mg : Str → Option Value} (T : Tx K mg) : mg "list" = none := by
  obtain ⟨h, X, G⟩ := T.g
  exact He.free_ok X G (f_free_list T.c)
theorem n_max {K : Fr} {mg : Str → Option Value} (T : Tx K mg) : mg "max" = none := by
  obtain ⟨h, X, G⟩ := T.g
  exact He.free_ok X G (f_free_max T.c)
theorem n_min {K : Fr} {mg : Str → Option Value} (T : Tx K mg) : mg "min" = none := by
  obtain ⟨h, X, G⟩ := T.g
  exact He.free_ok X G (f_free_min T.c)
theorem n_range {K : Fr} {mg : Str → Option Value} (T : Tx K mg) : mg "range" = none := by
  obtain ⟨h, X, G⟩ := T.g
  exact He.free_ok X G (f_free_range T.c)
theorem n_repr {K : Fr} {mg : Str → Option Value} (T : Tx K mg) : mg "repr" = none := by
  obtain ⟨h, X, G⟩ := T.g
  exact He.free_ok X G (f_free_repr T.c)
theorem n_set {K : Fr} {mg : Str → Option Value} (T : Tx K mg) : mg "set" = none := by
  obtain ⟨h, X, G⟩ := T.g
  exact He.free_ok X G (f_free_set T.c)
theorem n_sorted {K : Fr} {mg : Str → Option Value} (T : Tx K mg) : mg "sorted" = none := by
  obtain ⟨h, X, G⟩ := T.g
  exact He.free_ok X G (f_free_sorted T.c)
theorem n_str {K : Fr} {mg : Str → Option Value} (T : Tx K mg) : mg "str" = none := by
  obtain ⟨h, X, G⟩ := T.g
  exact He.free_ok X G (f_free_str T.c)
theorem n_sum {K : Fr} {mg : Str → Option Value} (T : Tx K mg) : mg "sum" = none := by
  obtain ⟨h, X, G⟩ := T.g
  exact He.free_ok X G (f_free_sum T.c)
theorem n_tuple {K : Fr} {mg : Str → Option Value} (T : Tx K mg) : mg "tuple" = none := by
  obtain ⟨h, X, G⟩ := T.g
  exact He.free_ok X G (f_free_tuple T.c)
theorem g_Number {K : Fr} {mg : Str → Option Value} (T : Tx K mg) : mg "Number" = some (.ref (gAd "Number" K)) := by
  obtain ⟨h, X, G⟩ := T.g
  exact He.glo_ok X G (f_glo_Number T.c)
theorem g_Signal {K : Fr} {mg : Str → Option Value} (T : Tx K mg) : mg "Signal" = some (.ref (gAd "Signal" K)) := by
  obtain ⟨h, X, G⟩ := T.g
  exact He.glo_ok X G (f_glo_Signal T.c)
theorem g_Name {K : Fr} {mg : Str → Option Value} (T : Tx K mg) : mg "Name" = some (.ref (gAd "Name" K)) := by
  obtain ⟨h, X, G⟩ := T.g
  exact He.glo_ok X G (f_glo_Name T.c)
theorem g_Sum {K : Fr} {mg : Str → Option Value} (T : Tx K mg) : mg "Sum" = some (.ref (gAd "Sum" K)) := by
  obtain ⟨h, X, G⟩ := T.g
  exact He.glo_ok X G (f_glo_Sum T.c)
theorem g_Times {K : Fr} {mg : Str → Option Value} (T : Tx K mg) : mg "Times" = some (.ref (gAd "Times" K)) := by
  obtain ⟨h, X, G⟩ := T.g
  exact He.glo_ok X G (f_glo_Times T.c)
theorem g_Late {K : Fr} {mg : Str → Option Value} (T : Tx K mg) : mg "Late" = some (.ref (gAd "Late" K)) := by
  obtain ⟨h, X, G⟩ := T.g
  exact He.glo_ok X G (f_glo_Late T.c)
theorem g_Every {K : Fr} {mg : Str → Option Value} (T : Tx K mg) : mg "Every" = some (.ref (gAd "Every" K)) := by
  obtain ⟨h, X, G⟩ := T.g
  exact He.glo_ok X G (f_glo_Every T.c)
theorem g_Spread {K : Fr} {mg : Str → Option Value} (T : Tx K mg) : mg "Spread" = some (.ref (gAd "Spread" K)) := by
  obtain ⟨h, X, G⟩ := T.g
  exact He.glo_ok X G (f_glo_Spread T.c)
theorem a_is_integer {K : Fr} (c : Sy K) : ∃ fd, DAt K d_is_integer fd := c.dat 0
theorem a_is_number {K : Fr} (c : Sy K) : ∃ fd, DAt K d_is_number fd := c.dat 1
theorem a_as_number {K : Fr} (c : Sy K) : ∃ fd, DAt K d_as_number fd := c.dat 2
theorem a_Number_init {K : Fr} (c : Sy K) : ∃ fd, DAt K d_Number_init fd := c.dat 3
theorem a_Number_top {K : Fr} (c : Sy K) : ∃ fd, DAt K d_Number_top fd := c.dat 4
theorem a_Number_bottom {K : Fr} (c : Sy K) : ∃ fd, DAt K d_Number_bottom fd := c.dat 5
theorem a_Number_str {K : Fr} (c : Sy K) : ∃ fd, DAt K d_Number_str fd := c.dat 6
theorem a_is_name {K : Fr} (c : Sy K) : ∃ fd, DAt K d_is_name fd := c.dat 7
theorem a_is_gain {K : Fr} (c : Sy K) : ∃ fd, DAt K d_is_gain fd := c.dat 8
theorem a_is_between {K : Fr} (c : Sy K) : ∃ fd, DAt K d_is_between fd := c.dat 9
theorem a_written {K : Fr} (c : Sy K) : ∃ fd, DAt K d_written fd := c.dat 10
theorem a_Signal_init {K : Fr} (c : Sy K) : ∃ fd, DAt K d_Signal_init fd := c.dat 11
theorem a_Signal_names {K : Fr} (c : Sy K) : ∃ fd, DAt K d_Signal_names fd := c.dat 12
theorem a_Signal_parts {K : Fr} (c : Sy K) : ∃ fd, DAt K d_Signal_parts fd := c.dat 13
theorem a_Signal_depth {K : Fr} (c : Sy K) : ∃ fd, DAt K d_Signal_depth fd := c.dat 14
theorem a_Signal_eq {K : Fr} (c : Sy K) : ∃ fd, DAt K d_Signal_eq fd := c.dat 15
theorem a_Signal_str {K : Fr} (c : Sy K) : ∃ fd, DAt K d_Signal_str fd := c.dat 16
theorem a_Signal_repr {K : Fr} (c : Sy K) : ∃ fd, DAt K d_Signal_repr fd := c.dat 17
theorem a_Name_init {K : Fr} (c : Sy K) : ∃ fd, DAt K d_Name_init fd := c.dat 18
theorem a_Sum_init {K : Fr} (c : Sy K) : ∃ fd, DAt K d_Sum_init fd := c.dat 19
theorem a_Times_init {K : Fr} (c : Sy K) : ∃ fd, DAt K d_Times_init fd := c.dat 20
theorem a_Late_init {K : Fr} (c : Sy K) : ∃ fd, DAt K d_Late_init fd := c.dat 21
theorem a_Every_init {K : Fr} (c : Sy K) : ∃ fd, DAt K d_Every_init fd := c.dat 22
theorem a_Spread_init {K : Fr} (c : Sy K) : ∃ fd, DAt K d_Spread_init fd := c.dat 23
theorem a_l_cell {K : Fr} (c : Sy K) : ∃ fd, DAt K d_l_cell fd := c.dat 24
theorem a_l_source {K : Fr} (c : Sy K) : ∃ fd, DAt K d_l_source fd := c.dat 25
theorem a_l_pick {K : Fr} (c : Sy K) : ∃ fd, DAt K d_l_pick fd := c.dat 26
theorem a_l_tag {K : Fr} (c : Sy K) : ∃ fd, DAt K d_l_tag fd := c.dat 27
theorem a_l_tags {K : Fr} (c : Sy K) : ∃ fd, DAt K d_l_tags fd := c.dat 28
theorem a_l_lowest {K : Fr} (c : Sy K) : ∃ fd, DAt K d_l_lowest fd := c.dat 29
theorem a_l_gain {K : Fr} (c : Sy K) : ∃ fd, DAt K d_l_gain fd := c.dat 30
theorem a_l_ratio {K : Fr} (c : Sy K) : ∃ fd, DAt K d_l_ratio fd := c.dat 31
theorem a_l_tell {K : Fr} (c : Sy K) : ∃ fd, DAt K d_l_tell fd := c.dat 32
theorem a_l_inside {K : Fr} (c : Sy K) : ∃ fd, DAt K d_l_inside fd := c.dat 33
theorem a_l_parts {K : Fr} (c : Sy K) : ∃ fd, DAt K d_l_parts fd := c.dat 34
theorem a_l_depth {K : Fr} (c : Sy K) : ∃ fd, DAt K d_l_depth fd := c.dat 35
theorem a_l_leaves {K : Fr} (c : Sy K) : ∃ fd, DAt K d_l_leaves fd := c.dat 36
theorem a_l_tree {K : Fr} (c : Sy K) : ∃ fd, DAt K d_l_tree fd := c.dat 37
theorem a_l_total {K : Fr} (c : Sy K) : ∃ fd, DAt K d_l_total fd := c.dat 38
theorem a_l_made {K : Fr} (c : Sy K) : ∃ fd, DAt K d_l_made fd := c.dat 39
theorem a_l_kinds {K : Fr} (c : Sy K) : ∃ fd, DAt K d_l_kinds fd := c.dat 40
theorem a_l_shown {K : Fr} (c : Sy K) : ∃ fd, DAt K d_l_shown fd := c.dat 41
theorem a_l_due {K : Fr} (c : Sy K) : ∃ fd, DAt K d_l_due fd := c.dat 42
theorem a_l_right {K : Fr} (c : Sy K) : ∃ fd, DAt K d_l_right fd := c.dat 43
theorem a_l_greatest_right {K : Fr} (c : Sy K) : ∃ fd, DAt K d_l_greatest_right fd := c.dat 44
theorem a_law {K : Fr} (c : Sy K) : ∃ fd, DAt K d_law fd := c.dat 45
abbrev R : PySem.W.OpenRow := PySem.W.OpenLaw.row PySem.Challenge.rw_delaynets_k09_signals_made
def AS : List Addr := [3, 6, 49, 59, 79, 98, 117, 136, 155, 174, 193, 212, 224, 237, 249, 269, 278, 285, 292, 435, 446, 453, 458, 465, 472, 477, 600, 621, 640, 659, 678, 697, 716, 725, 732, 739, 746, 751, 758, 765, 772, 777, 784, 789, 794, 801, 808, 815, 820, 827, 834, 839, 844, 849, 856, 0, 48, 58, 78, 97, 116, 135, 154, 173, 192, 211, 223, 236, 248, 268, 277, 284, 291, 434, 445, 452, 457, 464, 471, 476, 599, 620, 639, 658, 677, 696, 715, 724, 731, 738, 745, 750, 757, 764, 771, 776, 783, 788, 793, 800, 807, 814, 819, 826, 833, 838, 843, 848, 855, 44, 47, 60, 76, 95, 114, 133, 152, 171, 190, 209, 225, 250, 266, 273, 276, 280, 283, 287, 290, 307, 316, 325, 333, 341, 348, 355, 362, 369, 376, 383, 390, 397, 404, 411, 418, 425, 432, 436, 437, 441, 444, 448, 451, 455, 456, 460, 463, 467, 470, 474, 475, 489, 497, 505, 511, 519, 527, 534, 541, 548, 555, 562, 569, 576, 583, 590, 597, 601, 602, 618, 637, 656, 675, 694, 713, 720, 723, 727, 730, 734, 737, 741, 744, 748, 749, 753, 756, 760, 763, 767, 770, 774, 775, 779, 782, 786, 787, 791, 792, 796, 799, 803, 806, 810, 813, 817, 818, 822, 825, 829, 832, 836, 837, 841, 842, 846, 847, 851, 854, 75, 94, 113, 132, 151, 170, 189, 208, 265, 306, 314, 315, 324, 332, 340, 347, 354, 361, 368, 375, 382, 389, 396, 403, 410, 417, 424, 431, 488, 496, 504, 510, 518, 526, 533, 540, 547, 554, 561, 568, 575, 582, 589, 596, 617, 636, 655, 674, 693, 712, 71, 74, 90, 93, 109, 112, 128, 131, 147, 150, 166, 169, 185, 188, 204, 207, 261, 264, 302, 305, 313, 317, 323, 331, 339, 343, 346, 350, 353, 357, 360, 364, 367, 371, 374, 378, 381, 385, 388, 392, 395, 399, 402, 406, 409, 413, 416, 420, 423, 427, 430, 486, 487, 495, 503, 509, 517, 525, 529, 532, 536, 539, 543, 546, 550, 553, 557, 560, 564, 567, 571, 574, 578, 581, 585, 588, 592, 595, 613, 616, 632, 635, 651, 654, 670, 673, 689, 692, 708, 711, 267, 272, 274, 275, 279, 281, 282, 286, 288, 289, 433, 440, 300, 260, 262, 263, 301, 303, 304, 342, 344, 345, 349, 351, 352, 356, 358, 359, 363, 365, 366, 370, 372, 373, 377, 379, 380, 384, 386, 387, 391, 393, 394, 398, 400, 401, 405, 407, 408, 412, 414, 415, 419, 421, 422, 426, 428, 429]
abbrev hk : PySem.W.Hook := hookL AS FA FN
def ob (s : PySem.W.SharedT) : Al2 := lookL AS FA FN (HeadRun.getT s)
theorem ob_eq (s : PySem.W.SharedT) : ob s = hk.obs s.abs := lookL_eq (HeadRun.getT_eq s)
def loose0 : List Str := ["_wall", "InputError", "InvalidName", "InvalidText", "InvalidStep", "InvalidGain", "InvalidCount", "NotANumber", "NotASignal", "InvalidTerms", "StateError", "DividedByZero", "LimitError", "TooMany", "MAX_PARTS", "MAX_DEPTH", "MAX_TERMS", "MAX_GAIN", "MAX_STEP", "MAX_POWER", "is_integer", "is_number", "as_number", "Number", "_number_in", "_is_digits", "LETTERS", "NAME_SIGNS", "MAX_NAME", "MAX_DELAY"]
def loose1 : List Str := ["is_name", "_is_gain", "_is_between", "_written", "Signal", "Name", "Sum", "Times", "Late", "Every", "Spread", "_law_cell", "_law_source", "_law_pick", "_law_tag", "_law_tags", "_law_lowest", "_law_gain", "_law_ratio", "_law_tell", "_law_inside", "_law_parts", "_law_depth", "_law_leaves", "_law_tree", "_law_total", "_law_made", "_law_kinds", "_law_shown", "_law_due"]
def loose2 : List Str := ["_law_right", "_law_greatest_right"]
abbrev loose : List Str := loose0 ++ loose1 ++ loose2
abbrev qv : Program := PySem.W.view R.prog [0, 67]
abbrev lawAt : Nat := 67
end K09

namespace K09
open PySem PySem.Spec PyProof.Rows L2 Hk
theorem run1 (w : World) : (runOf 9000 R.prog w).map (fun x => (HeadRun.looksF R.prog x.1.heap x.2.abs, HeadRun.seenQ qv loose (importedModules R.prog.main.body) (fun s => PySem.W.xlAt qv [] s && PySem.W.recOk R.records s) x.2.abs)) = some (true, PySem.W.openGood qv loose) := by
  kernel_rfl
def FA0 : List Tst := (FA.drop 0).take 102
theorem runA0 (w : World) : (runOf 9000 R.prog w).map (fun x => partA AS FA0 x.2) = some true := by
  kernel_rfl
def FN0 : List Dx := (FN.drop 0).take 46
theorem runF0 (w : World) : (runOf 9000 R.prog w).map (fun x => partF AS FN0 x.2) = some (due FN0) := by
  kernel_rfl
theorem run (w : World) : HeadRun.RunEqI R qv hk ob 9000 loose w := run_parts [FA0] [FN0] (by rfl) (by rfl) (fun _ => rfl) (run1 w)
  (fun l hl => by
    rcases List.mem_cons.mp hl with rfl | hl
    · exact runA0 w
    cases hl)
  (fun l hl => by
    rcases List.mem_cons.mp hl with rfl | hl
    · exact runF0 w
    cases hl)
end K09

namespace K09
open PySem PySem.Spec PyProof.Rows L2 Hk NumM NumT SX
theorem bo_divmod : bootBuiltins "divmod" = some (.builtin "divmod") := by decide +kernel
section
variable {P : Program} {w : World} {K : Fr} {mg : Str → Option Value} {base : Heap}
/-- a source's list: the figures left, the state, the count (n at most) -/
def srcL (d e c : Int) : List V := [.int d, .int e, .int c]
def SrcAt (a : Addr) (n : Nat) (H : Hp) : Prop := ∃ d e c : Int, H a = some (.lst (srcL d e c)) ∧ 0 ≤ d ∧ 0 ≤ e ∧ e < 2147483629 ∧ 0 ≤ c ∧ c ≤ n
theorem SrcAt.same {a : Addr} {n : Nat} {H H' : Hp} (s : SrcAt a n H) (h : Same H H') : SrcAt a n H' := by
  obtain ⟨d, e, c, h1, h2⟩ := s
  exact ⟨d, e, c, h _ _ h1, h2⟩
theorem SrcAt.ne {a p : Addr} {n : Nat} {H : Hp} (s : SrcAt a n H) (np : H p = none) : a ≠ p := by
  obtain ⟨d, e, c, h1, _⟩ := s
  exact ne_of_none h1 np
theorem SrcAt.le {a : Addr} {n m : Nat} {H : Hp} (s : SrcAt a n H) (h : n ≤ m) : SrcAt a m H := by
  obtain ⟨d, e, c, h1, h2, h3, h4, h5, h6⟩ := s
  exact ⟨d, e, c, h1, h2, h3, h4, h5, by omega⟩
/-- draws a number below m -/
def spPick : Sp := fun vs H Q _ => ∃ (a : Addr) (m : Int) (n : Nat), vs = [.ref a, .int m] ∧ SrcAt a n H ∧ n < 2 ^ 40 ∧ 0 < m ∧ m < 1073741824 ∧
  ∀ (v : Int) (H' : Hp), 0 ≤ v → v < m → Old a H H' → SrcAt a (n + 1) H' → Q (.int v) H'
theorem c_pick (T : Tx K mg) : Cal P w K mg base 1 "_law_pick" (gAd "_law_pick" K) ["_law_source_here", "_law_many"] spPick := by
  refine cal_of (d := d_l_pick) (N := ["_law_source_here", "_law_many", "_law_state", "_law_more", "_law_digit"]) (a_l_pick T.c) rfl sc_l_pick (g_l_pick T) (fun _ _ _ _ _ _ us hl => match us, hl with | [_, _], _ => rfl) (fun vs H Q E h => ?_) (fun cdv A outer s H vs Q E hr h => ?_)
  · obtain ⟨a, m, n, rfl, _⟩ := h
    rfl
  · obtain ⟨a, m, n, rfl, ⟨d, e, c, hH, d0, e0, e1, c0, c1⟩, hn, m0, m1, k⟩ := h
    refine ⟨_, (pss_cons (ps_asg (pe_op op_add (pe_ix ix_list (pv 0) pe_int (fun _ _ => rfl)) pe_int) (pg_sub (pv 0) pe_int set_list))
 (pss_cons (ps_par (i := 2) (j := 3) (by rfl) sc_l_pick.nd rfl rfl (by decide) rfl rfl (pa_cons (pe_callTy call_int1 (by rfl) (n_int T) bo_int (pa_cons (pe_ix ix_list (pv 0) pe_int (fun _ _ => rfl)) pa_nil)) (pa_cons (pe_op op_add (pe_op op_mul (pe_op op_mul pe_int (pe_ix ix_list (pv 0) pe_int (fun _ _ => rfl))) (pe_ix ix_list (pv 0) pe_int (fun _ _ => rfl))) pe_int) pa_nil)) (by rfl))
 (pss_cons (ps_asg (pe_op op_mod (pe_callTy call_int1 (by rfl) (n_int T) bo_int (pa_cons (pe_op op_add (pe_op op_mul (pv 2) (pe_op op_add (pe_op op_mod (pe_callTy call_int1 (by rfl) (n_int T) bo_int (pa_cons (pv 2) pa_nil)) pe_int) pe_int)) (pv 3)) pa_nil)) pe_int) (pg_sub (pv 0) pe_int set_list))
 (pss_cons (ps_if (pt_cmpR op_gt (pe_ix ix_list (pv 0) pe_int (fun _ _ => rfl)) pe_int (nomark _))
 (pss_cons (ps_asg (pe_callB call_divmod (by rfl) (n_divmod T) bo_divmod (pa_cons (pe_ix ix_list (pv 0) pe_int (fun _ _ => rfl)) (pa_cons (pv 1) pa_nil))) (pg_tup (by rfl) (pgs_cons (pg_sub (pv 0) pe_int set_list) (pgs_cons (pg_name (i := 4) sc_l_pick.nd rfl (.inl rfl)) pgs_nil))))
 (pss_one (ps_ret (pv 4))))
 pss_nil)
 (pss_one (ps_ret (pe_op op_modN (pe_callTy call_int1 (by rfl) (n_int T) bo_int (pa_cons (pe_op op_fdiv (pe_ix ix_list (pv 0) pe_int (fun _ _ => rfl)) pe_int) pa_nil)) (pv 1)))))))), ?_⟩
    -- h[2] = h[2] + 1
    refine ⟨_, rfl, a, _, 2, _, rfl, rfl, .inl (.inl hH), rfl, c, 1, rfl, rfl, _, rfl, a, _, 2, 2, rfl, rfl, hH, rfl, ?_⟩
    have l1 : SqL K (upd H a (.lst (srcL d e (c + 1)))) a (srcL d e (c + 1)) := .inl (.inl upd_same)
    refine ⟨_, rfl, a, _, 1, _, rfl, rfl, l1, rfl, .inl ⟨_, rfl, ?_⟩⟩
    refine ⟨_, rfl, a, _, 2, _, rfl, rfl, l1, rfl, _, _, rfl, rfl, .inl ⟨by decide, by decide⟩, ?_⟩
    refine ⟨_, rfl, a, _, 2, _, rfl, rfl, l1, rfl, _, _, rfl, rfl, .inr ⟨by omega, by omega⟩, _, _, rfl, rfl, ?_⟩
    refine ⟨_, _, rfl, ?_⟩
    -- h[1] = ..
    refine ⟨_, rfl, _, rfl, .inl ⟨_, rfl, _, _, rfl, rfl, (by show (0 : Int) < 50021; decide), _, _, rfl, rfl, ?_⟩⟩
    refine ⟨_, _, rfl, rfl, .inl ⟨by omega, by omega⟩, _, rfl, _, _, rfl, rfl, .inl ⟨_, rfl, _, _, rfl, rfl, (by show (0 : Int) < 2147483629; decide), ?_⟩⟩
    refine ⟨_, rfl, a, _, 1, 1, rfl, rfl, upd_same, rfl, ?_⟩
    rw [upd_upd]
    have y0 := Int.emod_nonneg (e * (e % 50021 + 40009) + (104723 * (c + 1) * (c + 1) + 12289)) (show (2147483629 : Int) ≠ 0 by decide)
    have y1 := Int.emod_lt_of_pos (e * (e % 50021 + 40009) + (104723 * (c + 1) * (c + 1) + 12289)) (show (0 : Int) < 2147483629 by decide)
    refine ⟨_, rfl, a, _, 0, _, rfl, rfl, .inl (.inl upd_same), rfl, _, _, rfl, rfl, _, rfl, ?_⟩
    refine ite2 (fun hd => ?_) (fun hd => ?_)
    · have hd : 0 < d := of_decide_eq_true hd
      refine ⟨_, rfl, a, _, 0, _, rfl, rfl, .inl (.inl upd_same), rfl, _, rfl, d, m, rfl, ⟨m0, m1⟩, fun p np => ?_⟩
      have pa : a ≠ p := ne_of_none upd_same np
      refine ⟨p, _, rfl, .inl (.inl upd_same), rfl, ?_⟩
      have hL := (upd_ne (H := upd H a (.lst (((srcL d e c).set 2 (V.int (c + 1))).set 1 (V.int ((e * (e % 50021 + 40009) + (104723 * (c + 1) * (c + 1) + 12289)) % 2147483629))))) (o := .tup [V.int (d / m), V.int (d % m)]) pa).trans upd_same
      refine ⟨_, _, rfl, _, rfl, a, _, 0, 0, rfl, rfl, hL, rfl, ?_⟩
      refine ⟨_, _, rfl, rfl, ?_⟩
      refine ⟨_, rfl, ?_⟩
      refine k _ _ (Int.emod_nonneg _ (by omega)) (Int.emod_lt_of_pos _ m0) (fun b o hb hn => ?_) ⟨d / m, _, c + 1, upd_same, Int.ediv_nonneg d0 (by omega), y0, y1, by omega, by omega⟩
      have bp : b ≠ p := fun z => by
        subst z
        rw [upd_ne hn, hb] at np
        cases np
      rw [upd_ne hn, upd_ne bp, upd_ne hn]
      exact hb
    · refine ⟨_, rfl, a, _, 1, _, rfl, rfl, .inl (.inl upd_same), rfl, _, _, rfl, rfl, ⟨by decide, by decide⟩, .inl ⟨_, rfl, _, rfl, _, _, rfl, rfl, (by omega), ?_⟩⟩
      exact k _ _ (Int.fmod_nonneg_of_pos _ m0) (Int.fmod_lt_of_pos _ m0) Old.put ⟨d, _, c + 1, upd_same, d0, y0, y1, by omega, by omega⟩
/-- a new source from a number -/
def spSource : Sp := fun vs H Q _ => ∃ v : Int, vs = [.int v] ∧ ∀ (p : Addr) (H' : Hp), Same H H' → H p = none → SrcAt p 0 H' → Q (.ref p) H'
theorem c_source (T : Tx K mg) : Cal P w K mg base 1 "_law_source" (gAd "_law_source" K) ["_law_cell_here"] spSource := by
  refine cal_of (d := d_l_source) (N := ["_law_cell_here"]) (a_l_source T.c) rfl sc_l_source (g_l_source T) (fun _ _ _ _ _ _ us hl => match us, hl with | [_], _ => rfl) (fun vs H Q E h => ?_) (fun cdv A outer s H vs Q E hr h => ?_)
  · obtain ⟨v, rfl, _⟩ := h
    rfl
  · obtain ⟨v, rfl, k⟩ := h
    refine ⟨_, (pss_one (ps_ret (pe_lst (pa_cons (pe_ifExp (PW.pt (pw_or (pt_cmpR op_lt (pv 0) pe_int (nomark _)) (pw_or1 (pt_cmpR op_ge (pv 0) (pe_op op_pow pe_int pe_int) (nomark _))))) (pe_callB call_abs (by rfl) (n_abs T) bo_abs (pa_cons (pv 0) pa_nil)) pe_int) (pa_cons (pe_op op_mod (pe_callTy call_int1 (by rfl) (n_int T) bo_int (pa_cons (pv 0) pa_nil)) pe_int) (pa_cons pe_int pa_nil)))))), ?_⟩
    have fin : ∀ d : Int, 0 ≤ d → ∀ p, H p = none → Q (.ref p) (upd H p (.lst [.int d, .int (v % 2147483629), .int 0])) := fun d hd p np =>
      k p _ (same_upd np) np ⟨d, _, 0, upd_same, hd, Int.emod_nonneg _ (by decide), Int.emod_lt_of_pos _ (by decide), by decide, by decide⟩
    refine ⟨_, rfl, _, _, rfl, rfl, _, rfl, ?_⟩
    refine ite2 (fun z => ?_) (fun z => ?_)
    · refine iteT ⟨_, rfl, _, rfl, ?_⟩
      refine ⟨_, rfl, .inl ⟨_, rfl, _, _, rfl, rfl, (by show (0 : Int) < 2147483629; decide), (by show 3 ≤ sizeLine; decide), fun p np => fin _ ?_ p np⟩⟩
      have := of_decide_eq_true z
      split <;> omega
    · refine ⟨_, rfl, _, _, rfl, rfl, ⟨by decide, by decide, by decide⟩, _, _, rfl, rfl, _, rfl, ?_⟩
      refine ite2 (fun z2 => ⟨_, rfl, _, rfl, ?_⟩) (fun z2 => ?_)
      · refine ⟨_, rfl, .inl ⟨_, rfl, _, _, rfl, rfl, (by show (0 : Int) < 2147483629; decide), (by show 3 ≤ sizeLine; decide), fun p np => fin _ ?_ p np⟩⟩
        split <;> omega
      · exact ⟨_, rfl, .inl ⟨_, rfl, _, _, rfl, rfl, (by show (0 : Int) < 2147483629; decide), (by show 3 ≤ sizeLine; decide), fun p np => fin 0 (by decide) p np⟩⟩
/-- the number at an index, or a mixed one -/
def spCell (K : Fr) : Sp := fun vs H Q _ => ∃ (a : Addr) (ns : List Int) (j : Nat), vs = [.ref a, .int j] ∧ SqL K H a (ns.map V.int) ∧ ns.length ≤ 63 ∧ j ≤ 63 ∧ ∀ (v : Int) (H' : Hp), Same H H' → Q (.int v) H'
theorem c_cell (T : Tx K mg) : Cal P w K mg base 1 "_law_cell" (gAd "_law_cell" K) ["_law_script", "_law_k"] (spCell K) := by
  refine cal_of (d := d_l_cell) (N := ["_law_script", "_law_k", "_law_found", "_law_each"]) (a_l_cell T.c) rfl sc_l_cell (g_l_cell T) (fun _ _ _ _ _ _ us hl => match us, hl with | [_, _], _ => rfl) (fun vs H Q E h => ?_) (fun cdv A outer s H vs Q E hr h => ?_)
  · obtain ⟨a, ns, j, rfl, _⟩ := h
    rfl
  · obtain ⟨a, ns, j, rfl, hS, hn, hj, k⟩ := h
    refine ⟨_, (pss_cons (ps_if (pt_cmpR op_lt (pv 1) (pe_callB call_len_seq (by rfl) (n_len T) bo_len (pa_cons (pv 0) pa_nil)) (nomark _))
 (pss_one (ps_ret (pe_ix ix_list (pv 0) (pv 1) (fun _ _ => rfl))))
 pss_nil)
 (pss_cons (ps_set (i := 2) sc_l_cell.nd rfl (.inl rfl) (pe_op op_add pe_int (pe_op op_mul (pe_op op_mul pe_int (pe_op op_add (pv 1) pe_int)) (pe_op op_add (pv 1) pe_int))))
 (pss_cons (ps_for PassesOwn.never rfl (pi_list (pe_slice sl_list (pv 0) po_none (po_some pe_int))) (pg_name (i := 3) sc_l_cell.nd rfl (.inl rfl))
 (pss_one (ps_set (i := 2) sc_l_cell.nd rfl (.inl rfl) (pe_op op_mod (pe_callTy call_int1 (by rfl) (n_int T) bo_int (pa_cons (pe_op op_add (pe_op op_mul (pv 2) pe_int) (pv 3)) pa_nil)) pe_int))))
 (pss_one (ps_ret (pv 2)))))), ?_⟩
    have hlen : ((ns.map V.int).length : Int) = (ns.length : Int) := by rw [List.length_map]
    refine ⟨_, rfl, _, rfl, a, _, rfl, .inl hS, _, _, rfl, rfl, _, rfl, ?_⟩
    refine ite2 (fun z => ?_) (fun z => ?_)
    · have hj2 : j < ns.length := by
        have := of_decide_eq_true z
        rw [hlen] at this
        omega
      obtain ⟨n, h1, h2⟩ := map_int_get hj2
      exact ⟨_, rfl, _, rfl, a, _, _, _, rfl, rfl, hS, h2, k n H (Same.refl _)⟩
    · refine ⟨_, rfl, _, _, rfl, rfl, _, _, rfl, rfl, .inl ⟨by decide, by decide⟩, _, rfl, _, _, rfl, rfl, _, _, rfl, rfl, .inr ⟨by omega, by omega⟩, _, _, rfl, rfl, ?_⟩
      refine ⟨_, rfl, 4, rfl, a, _, rfl, hS, fun p np => ⟨p, rfl, ⟨_, .inl (.inl upd_same)⟩, ?_⟩⟩
      have sp := same_upd (o := .lst (cutV (ns.map V.int) none (some 4))) np
      refine for_list (a := p) (xs := cutV (ns.map V.int) none (some 4)) (fun i σ H' => H' = upd H p (.lst (cutV (ns.map V.int) none (some 4))) ∧ ∃ (f : Int) (y : Option V), σ = [some (.ref a), some (.int j), some (.int f), y]) ⟨rfl, _, none, rfl⟩ (fun i σ H' _ h => h.1 ▸ .inl (.inl upd_same)) ?_ ?_
      · rintro i x σ H' hx ⟨rfl, f, y, rfl⟩
        obtain ⟨n, rfl⟩ : ∃ n, x = V.int n := by
          have hm := List.mem_of_mem_drop (List.mem_of_mem_take (List.mem_of_getElem? hx))
          obtain ⟨n, _, e⟩ := List.mem_map.mp hm
          exact ⟨n, e.symm⟩
        exact ⟨_, rfl, _, _, rfl, rfl, .inr ⟨by decide, by decide⟩, _, rfl, _, _, rfl, rfl, .inl ⟨_, rfl, _, _, rfl, rfl, (by show (0 : Int) < 2147483629; decide), rfl, _, _, rfl⟩⟩
      · rintro σ H' ⟨rfl, f, y, rfl⟩
        exact ⟨_, rfl, k f _ sp⟩
end
end K09

namespace K09
open PySem PySem.Spec PyProof.Rows L2 Hk NumM NumT SX
def signsL : List Nat := ("abcdefghijklmnopqrstuvwxyz0123456789" : Str).cps.toList
/-- a name's codes -/
structure Nm (a : List Nat) : Prop where
  lo : 1 ≤ a.length
  hi : a.length ≤ 8
  hd : ∀ c, a[0]? = some c → c ∈ signsL.take 26
  al : ∀ c ∈ a, c ∈ signsL
def nmB (z : Str) : Bool := decide (1 ≤ z.cps.toList.length) && (decide (z.cps.toList.length ≤ 8) && ((z.cps.toList.take 1).all (fun c => decide (c ∈ signsL.take 26)) && z.cps.toList.all (fun c => decide (c ∈ signsL))))
theorem nm_lit {z : Str} (h : nmB z = true) : Nm z.cps.toList := by
  obtain ⟨h1, h⟩ := Bool.and_eq_true_iff.mp h
  obtain ⟨h2, h⟩ := Bool.and_eq_true_iff.mp h
  obtain ⟨h3, h4⟩ := Bool.and_eq_true_iff.mp h
  refine ⟨of_decide_eq_true h1, of_decide_eq_true h2, fun c hc => ?_, fun c hc => of_decide_eq_true (List.all_eq_true.mp h4 c hc)⟩
  refine of_decide_eq_true (List.all_eq_true.mp h3 c ?_)
  have := List.mem_of_getElem? (show (z.cps.toList.take 1)[0]? = some c by rw [List.getElem?_take]; exact hc)
  exact this
structure Nm0 (a : List Nat) : Prop where
  lo : 1 ≤ a.length
  hd : ∀ c, a[0]? = some c → c ∈ signsL.take 26
  al : ∀ c ∈ a, c ∈ signsL
def signsZ : Str := "abcdefghijklmnopqrstuvwxyz0123456789"
def wordsL : List Str := ["input", "output", "sum", "late", "every", "times", "spread", "x"]
theorem words_nm : wordsL.all nmB = true := by decide +kernel
theorem words_at {v : Int} (h0 : 0 ≤ v) (h1 : v < 8) : ∃ x : Str, atI (wordsL.map V.str) v = some (V.str x) ∧ Nm x.cps.toList := by
  obtain ⟨j, rfl⟩ := Int.eq_ofNat_of_zero_le h0
  have hj : j < wordsL.length := by
    have : wordsL.length = 8 := rfl
    omega
  refine ⟨wordsL[j], ?_, nm_lit (List.all_eq_true.mp words_nm _ (List.getElem_mem hj))⟩
  exact atI_nat (by rw [List.getElem?_map, List.getElem?_eq_getElem hj]; rfl)
theorem signs_len : signsL.length = 36 := by decide +kernel
theorem signs_at {v : Int} (h0 : 0 ≤ v) (h1 : v < 36) : ∃ c : Nat, atI signsZ.cps.toList v = some c ∧ c ∈ signsL ∧ (v < 26 → c ∈ signsL.take 26) := by
  obtain ⟨j, rfl⟩ := Int.eq_ofNat_of_zero_le h0
  have hj : j < signsL.length := by
    rw [signs_len]
    omega
  refine ⟨signsL[j], atI_nat (List.getElem?_eq_getElem hj), List.getElem_mem hj, fun h => ?_⟩
  have h2 : j < (signsL.take 26).length := by
    rw [List.length_take, signs_len]
    omega
  have := List.getElem_mem h2
  rwa [List.getElem_take] at this
section
variable {P : Program} {w : World} {K : Fr} {mg : Str → Option Value} {base : Heap}
def spTag : Sp := fun vs H Q _ => ∃ (a : Addr) (n : Nat), vs = [.ref a] ∧ SrcAt a n H ∧ n + 20 < 2 ^ 40 ∧ ∀ (t : List Nat) (H' : Hp), Nm t → Old a H H' → SrcAt a (n + 10) H' → Q (.str (S t)) H'
theorem c_tag (T : Tx K mg) : Cal P w K mg base 2 "_law_tag" (gAd "_law_tag" K) ["_law_source_here"] spTag := by
  have C_l_pick := c_pick (P := P) (w := w) (base := base) T
  refine cal_of (d := d_l_tag) (N := ["_law_source_here", "_law_signs", "_law_found", "_law_turn"]) (a_l_tag T.c) rfl sc_l_tag (g_l_tag T) (fun _ _ _ _ _ _ us hl => match us, hl with | [_], _ => rfl) (fun vs H Q E h => ?_) (fun cdv A outer s H vs Q E hr h => ?_)
  · obtain ⟨a, n, rfl, _⟩ := h
    rfl
  · obtain ⟨a, n, rfl, hs, hn, k⟩ := h
    refine ⟨_, (pss_cons (ps_set (i := 1) sc_l_tag.nd rfl (.inl rfl) pe_str)
 (pss_cons (ps_if (pt_cmpR op_eq (pe_c C_l_pick hr (pa_cons (pv 0) (pa_cons pe_int pa_nil))) pe_int (nomark _))
 (pss_one (ps_ret (pe_ix ix_list (pe_lst (pa_cons pe_str (pa_cons pe_str (pa_cons pe_str (pa_cons pe_str (pa_cons pe_str (pa_cons pe_str (pa_cons pe_str (pa_cons pe_str pa_nil))))))))) (pe_c C_l_pick hr (pa_cons (pv 0) (pa_cons pe_int pa_nil))) (fun _ _ => rfl))))
 pss_nil)
 (pss_cons (ps_set (i := 2) sc_l_tag.nd rfl (.inl rfl) (pe_ix ix_str (pv 1) (pe_c C_l_pick hr (pa_cons (pv 0) (pa_cons pe_int pa_nil))) (fun _ _ => rfl)))
 (pss_cons (ps_for PassesOwn.never rfl (pi_range1 (by rfl) (n_range T) (pa_cons (pe_c C_l_pick hr (pa_cons (pv 0) (pa_cons pe_int pa_nil))) pa_nil)) (pg_name (i := 3) sc_l_tag.nd rfl (.inl rfl))
 (pss_one (ps_set (i := 2) sc_l_tag.nd rfl (.inl rfl) (pe_op op_add_str (pv 2) (pe_ix ix_str (pv 1) (pe_c C_l_pick hr (pa_cons (pv 0) (pa_cons pe_int pa_nil))) (fun _ _ => rfl))))))
 (pss_one (ps_ret (pv 2))))))), ?_⟩
    refine ⟨_, rfl, a, 6, n, rfl, hs, by omega, by decide, by decide, fun v H1 v0 v1 o1 s1 => ?_⟩
    refine ⟨rfl, _, rfl, ?_⟩
    refine ite2 (fun z => ?_) (fun z => ?_)
    · refine ⟨(by show 8 ≤ sizeLine; decide), fun p np => ?_⟩
      have sp := same_upd (o := .lst (wordsL.map V.str)) np
      refine ⟨_, rfl, a, 8, n + 1, rfl, s1.same sp, by omega, by decide, by decide, fun v2 H2 v20 v21 o2 s2 => ?_⟩
      obtain ⟨x, hx, nm⟩ := words_at v20 v21
      have ap := s1.ne np
      refine ⟨p, wordsL.map V.str, v2, _, rfl, rfl, .inl (.inl (o2 _ _ upd_same (Ne.symm ap))), hx, ?_⟩
      have q := k x.cps.toList H2 nm ((o1.trans (Old.same sp)).trans o2) (s2.le (by omega))
      rw [S_tl] at q
      exact q
    · refine ⟨_, rfl, _, rfl, a, 26, n + 1, rfl, s1, by omega, by decide, by decide, fun v2 H2 v20 v21 o2 s2 => ?_⟩
      obtain ⟨c, hc, hm, ht⟩ := signs_at v20 (show v2 < 36 by omega)
      refine ⟨_, _, c, rfl, rfl, (by show 36 ≤ sizeLine; decide), hc, ?_⟩
      refine ⟨_, rfl, a, 8, n + 2, rfl, s2, by omega, by decide, by decide, fun v3 H3 v30 v31 o3 s3 => ?_⟩
      refine ⟨_, rfl, by omega, by omega, ?_⟩
      refine for_range (lo := 0) (n := v3.toNat) (fun i σ H' => Old a H H' ∧ SrcAt a (n + 3 + i) H' ∧ ∃ (t : List Nat) (y : Option V), t.length ≤ 1 + i ∧ Nm0 t ∧ σ = [some (.ref a), some (.str signsZ), some (.str (S t)), y]) ⟨(o1.trans o2).trans o3, s3, [c], none, by simp, ⟨by simp, fun d hd => by simp at hd; subst hd; exact ht v21, fun d hd => by simp at hd; subst hd; exact hm⟩, rfl⟩ ?_ ?_
      · rintro i σ H' hi ⟨o4, s4, t, y, hl, nt, rfl⟩
        refine ⟨_, rfl, _, rfl, _, rfl, a, 36, n + 3 + i, rfl, s4, by omega, by decide, by decide, fun v5 H5 v50 v51 o5 s5 => ?_⟩
        obtain ⟨c', hc', hm', _⟩ := signs_at v50 v51
        refine ⟨_, _, c', rfl, rfl, (by show 36 ≤ sizeLine; decide), hc', ?_⟩
        refine ⟨S t, S [c'], rfl, rfl, ?_, ?_⟩
        · rw [S_len, S_len]
          exact line_ge (by simp; omega)
        · refine ⟨o4.trans o5, s5, t ++ [c'], some (.int (0 + (i : Int))), by simp; omega, ⟨by simp, fun d hd => nt.hd d ?_, fun d hd => ?_⟩, ?_⟩
          · rwa [List.getElem?_append_left (by have := nt.lo; omega)] at hd
          · rcases List.mem_append.mp hd with h | h
            · exact nt.al d h
            · rw [List.mem_singleton.mp h]
              exact hm'
          · rw [← S_cat]
            rfl
      · rintro σ H' ⟨o4, s4, t, y, hl, nt, rfl⟩
        exact ⟨_, rfl, k t H' ⟨nt.1, by omega, nt.2, nt.3⟩ o4 (s4.le (by omega))⟩
end
end K09

namespace K09
open PySem PySem.Spec PyProof.Rows L2 Hk NumM NumT SX
section
variable {P : Program} {w : World} {K : Fr} {mg : Str → Option Value} {base : Heap}
/-- the law's own lowest terms -/
def spLow : Sp := fun vs H Q _ => ∃ h b : Int, vs = [.int h, .int b] ∧ 0 < b ∧ Sz h ∧ Sz b ∧ ∀ p : Addr, H p = none → Q (.ref p) (upd H p (.tup [.int (lowT h b), .int (lowB h b)]))
theorem c_low (T : Tx K mg) : Cal P w K mg base 1 "_law_lowest" (gAd "_law_lowest" K) ["_law_top", "_law_bottom"] spLow := by
  refine cal_of (d := d_l_lowest) (N := ["_law_top", "_law_bottom", "_law_one", "_law_two"]) (a_l_lowest T.c) rfl sc_l_lowest (g_l_lowest T) (fun _ _ _ _ _ _ us hl => match us, hl with | [_, _], _ => rfl) (fun vs H Q E h => ?_) (fun cdv A outer s H vs Q E hr h => ?_)
  · obtain ⟨h, b, rfl, _⟩ := h
    rfl
  · obtain ⟨h, b, rfl, hb, sh, sb, k⟩ := h
    refine ⟨_, (pss_cons (ps_par (i := 2) (j := 3) (by rfl) sc_l_lowest.nd rfl rfl (by decide) rfl rfl (pa_cons (pe_callB call_abs (by rfl) (n_abs T) bo_abs (pa_cons (pv 0) pa_nil)) (pa_cons (pv 1) pa_nil)) (by rfl))
 (pss_cons (ps_while PassesOwn.never (pt_cmpR op_gt (pv 3) pe_int (nomark _))
 (pss_one (ps_par (i := 2) (j := 3) (by rfl) sc_l_lowest.nd rfl rfl (by decide) rfl rfl (pa_cons (pv 3) (pa_cons (pe_op op_modN (pe_callTy call_int1 (by rfl) (n_int T) bo_int (pa_cons (pv 2) pa_nil)) (pv 3)) pa_nil)) (by rfl))))
 (pss_one (ps_ret (pe_tup (pa_cons (pe_op op_fdivW (pv 0) (pv 2)) (pa_cons (pe_op op_fdivW (pv 1) (pv 2)) pa_nil))))))), ?_⟩
    have abse : ∀ z : Int, (if z < 0 then -z else z) = ((z.natAbs : Nat) : Int) := fun z => by split <;> omega
    have eb : b = ((b.natAbs : Nat) : Int) := by omega
    have esg : sg b = 1 := by unfold sg; rw [if_neg (by omega)]
    refine ⟨_, rfl, _, rfl, _, rfl, _, _, rfl, ?_⟩
    rw [abse]
    refine while_by (fun σ H' => H' = H ∧ ∃ x y : Nat, σ = [some (.int h), some (.int b), some (.int x), some (.int y)] ∧ Nat.gcd x y = Nat.gcd h.natAbs b.natAbs)
      (fun σ _ => match σ with | [_, _, _, some (.int y)] => y.natAbs | _ => 0) ⟨rfl, h.natAbs, b.natAbs, by rw [← eb]; rfl, rfl⟩ ?_ ?_
    · rintro σ H' ⟨rfl, x, y, rfl, hg⟩
      refine ⟨_, rfl, _, _, rfl, rfl, _, rfl, ?_⟩
      by_cases hy : y = 0
      · subst hy
        have hd : decide ((0 : Int) < ((0 : Nat) : Int)) = false := rfl
        rw [hd]
        refine iteF ?_
        rw [Nat.gcd_zero_right] at hg
        have hgd : ((x : Nat) : Int) = gd h b := by rw [hg]; rfl
        have hp := gd_pos (h := h) (show b ≠ 0 by omega)
        have dv : ∀ z : Int, CDivW z (gd h b) := fun z => wide_div hp (Nat.lt_of_le_of_lt (gd_le (by omega)) sb) (by decide) (by decide)
        have k' := k
        unfold lowT lowB at k'
        rw [esg, Int.one_mul, Int.one_mul, ← hgd] at k'
        rw [← hgd] at dv
        exact ⟨_, rfl, _, rfl, _, _, rfl, rfl, dv _, _, rfl, _, rfl, _, _, rfl, rfl, dv _, (by show 2 ≤ sizeLine; decide), fun p np => k' p np⟩
      · have hd : decide ((0 : Int) < ((y : Nat) : Int)) = true := decide_eq_true (by omega)
        rw [hd]
        refine iteT ?_
        refine ⟨_, rfl, _, rfl, .inl ⟨_, rfl, _, rfl, _, _, rfl, rfl, (by show ((y : Nat) : Int) ≠ 0; omega), _, _, rfl, ⟨rfl, y, x % y, ?_, ?_⟩, ?_⟩⟩
        · show [_, _, _, some (V.int ((x : Int).fmod (y : Int)))] = _
          rw [show ((x : Nat) : Int).fmod ((y : Nat) : Int) = ((x % y : Nat) : Int) from by rw [Int.fmod_eq_emod_of_nonneg _ (by omega)]; rfl]
        · rw [Nat.gcd_comm, ← Nat.gcd_rec, Nat.gcd_comm, hg]
        · show ((x : Int).fmod (y : Int)).natAbs < (((y : Nat) : Int)).natAbs
          rw [show ((x : Nat) : Int).fmod ((y : Nat) : Int) = ((x % y : Nat) : Int) from by rw [Int.fmod_eq_emod_of_nonneg _ (by omega)]; rfl]
          have := Nat.mod_lt x (show 0 < y by omega)
          omega
    · rintro σ H' Q1 Q2 hm ⟨v, e, i, j, e1, e2, bb, e3, q⟩
      exact ⟨v, e, i, j, e1, e2, bb, e3, hm _ _ q⟩
/-- a drawn multiple, in lowest terms -/
structure GainOk (t b : Int) : Prop where
  pos : 0 < b
  cop : Nat.gcd t.natAbs b.natAbs = 1
  t1 : t.natAbs ≤ 99
  b1 : b.natAbs ≤ 99
def spGain : Sp := fun vs H Q _ => ∃ (a : Addr) (n : Nat), vs = [.ref a] ∧ SrcAt a n H ∧ n + 20 < 2 ^ 40 ∧ ∀ (p : Addr) (t b : Int) (H' : Hp), GainOk t b → Old a H H' → SrcAt a (n + 3) H' → H' p = some (.tup [.int t, .int b]) → Q (.ref p) H'
theorem c_gain (T : Tx K mg) : Cal P w K mg base 2 "_law_gain" (gAd "_law_gain" K) ["_law_source_here"] spGain := by
  have C_l_pick := c_pick (P := P) (w := w) (base := base) T
  have C_l_low := c_low (P := P) (w := w) (base := base) T
  refine cal_of (d := d_l_gain) (N := ["_law_source_here", "_law_some"]) (a_l_gain T.c) rfl sc_l_gain (g_l_gain T) (fun _ _ _ _ _ _ us hl => match us, hl with | [_], _ => rfl) (fun vs H Q E h => ?_) (fun cdv A outer s H vs Q E hr h => ?_)
  · obtain ⟨a, n, rfl, _⟩ := h
    rfl
  · obtain ⟨a, n, rfl, hs, hn, k⟩ := h
    have r1 : Room 1 _ := hr
    refine ⟨_, (pss_cons (ps_if (pt_cmpR op_eq (pe_c C_l_pick r1 (pa_cons (pv 0) (pa_cons pe_int pa_nil))) pe_int (nomark _))
 (pss_cons (ps_set (i := 1) sc_l_gain.nd rfl (.inl rfl) (pe_lst (pa_cons (pe_tup (pa_cons pe_int (pa_cons pe_int pa_nil))) (pa_cons (pe_tup (pa_cons (pe_un un_neg pe_int) (pa_cons pe_int pa_nil))) (pa_cons (pe_tup (pa_cons pe_int (pa_cons pe_int pa_nil))) (pa_cons (pe_tup (pa_cons (pe_un un_neg pe_int) (pa_cons pe_int pa_nil))) (pa_cons (pe_tup (pa_cons pe_int (pa_cons pe_int pa_nil))) (pa_cons (pe_tup (pa_cons pe_int (pa_cons pe_int pa_nil))) (pa_cons (pe_tup (pa_cons (pe_un un_neg pe_int) (pa_cons pe_int pa_nil))) (pa_cons (pe_tup (pa_cons pe_int (pa_cons pe_int pa_nil))) (pa_cons (pe_tup (pa_cons (pe_un un_neg pe_int) (pa_cons pe_int pa_nil))) (pa_cons (pe_tup (pa_cons pe_int (pa_cons pe_int pa_nil))) pa_nil))))))))))))
 (pss_one (ps_ret (pe_ix ix_list (pv 1) (pe_c C_l_pick r1 (pa_cons (pv 0) (pa_cons pe_int pa_nil))) (fun _ _ => rfl)))))
 pss_nil)
 (pss_one (ps_ret (pe_c C_l_low r1 (pa_cons (pe_op op_sub (pe_c C_l_pick r1 (pa_cons (pv 0) (pa_cons pe_int pa_nil))) pe_int) (pa_cons (pe_op op_add pe_int (pe_c C_l_pick r1 (pa_cons (pv 0) (pa_cons pe_int pa_nil)))) pa_nil)))))), ?_⟩
    refine ⟨_, rfl, a, 3, n, rfl, hs, by omega, by decide, by decide, fun v H1 v0 v1 o1 s1 => ?_⟩
    refine ⟨rfl, _, rfl, ?_⟩
    refine ite2 (fun z => ?_) (fun z => ?_)
    · clear z
      refine ⟨(by show 2 ≤ sizeLine; decide), fun p1 n1 => ?_⟩
      have e1 := same_upd (o := .tup [.int (1), .int 1]) n1
      refine ⟨_, rfl, (by show 2 ≤ sizeLine; decide), fun p2 n2 => ?_⟩
      have e2 := same_upd (o := .tup [.int (-1), .int 1]) n2
      refine ⟨(by show 2 ≤ sizeLine; decide), fun p3 n3 => ?_⟩
      have e3 := same_upd (o := .tup [.int (1), .int 2]) n3
      refine ⟨_, rfl, (by show 2 ≤ sizeLine; decide), fun p4 n4 => ?_⟩
      have e4 := same_upd (o := .tup [.int (-1), .int 2]) n4
      refine ⟨(by show 2 ≤ sizeLine; decide), fun p5 n5 => ?_⟩
      have e5 := same_upd (o := .tup [.int (0), .int 1]) n5
      refine ⟨(by show 2 ≤ sizeLine; decide), fun p6 n6 => ?_⟩
      have e6 := same_upd (o := .tup [.int (99), .int 1]) n6
      refine ⟨_, rfl, (by show 2 ≤ sizeLine; decide), fun p7 n7 => ?_⟩
      have e7 := same_upd (o := .tup [.int (-99), .int 1]) n7
      refine ⟨(by show 2 ≤ sizeLine; decide), fun p8 n8 => ?_⟩
      have e8 := same_upd (o := .tup [.int (1), .int 99]) n8
      refine ⟨_, rfl, (by show 2 ≤ sizeLine; decide), fun p9 n9 => ?_⟩
      have e9 := same_upd (o := .tup [.int (-98), .int 99]) n9
      refine ⟨(by show 2 ≤ sizeLine; decide), fun p10 n10 => ?_⟩
      have e10 := same_upd (o := .tup [.int (99), .int 98]) n10
      refine ⟨(by show 10 ≤ sizeLine; decide), fun q nq => ?_⟩
      have eq := same_upd (o := .lst [.ref p1, .ref p2, .ref p3, .ref p4, .ref p5, .ref p6, .ref p7, .ref p8, .ref p9, .ref p10]) nq
      have h1 := (((((((((e2.trans e3).trans e4).trans e5).trans e6).trans e7).trans e8).trans e9).trans e10).trans eq) p1 (.tup [.int (1), .int 1]) upd_same
      have h2 := ((((((((e3.trans e4).trans e5).trans e6).trans e7).trans e8).trans e9).trans e10).trans eq) p2 (.tup [.int (-1), .int 1]) upd_same
      have h3 := (((((((e4.trans e5).trans e6).trans e7).trans e8).trans e9).trans e10).trans eq) p3 (.tup [.int (1), .int 2]) upd_same
      have h4 := ((((((e5.trans e6).trans e7).trans e8).trans e9).trans e10).trans eq) p4 (.tup [.int (-1), .int 2]) upd_same
      have h5 := (((((e6.trans e7).trans e8).trans e9).trans e10).trans eq) p5 (.tup [.int (0), .int 1]) upd_same
      have h6 := ((((e7.trans e8).trans e9).trans e10).trans eq) p6 (.tup [.int (99), .int 1]) upd_same
      have h7 := (((e8.trans e9).trans e10).trans eq) p7 (.tup [.int (-99), .int 1]) upd_same
      have h8 := ((e9.trans e10).trans eq) p8 (.tup [.int (1), .int 99]) upd_same
      have h9 := (e10.trans eq) p9 (.tup [.int (-98), .int 99]) upd_same
      have h10 := eq p10 (.tup [.int (99), .int 98]) upd_same
      have ee := ((((((((((e1.trans e2).trans e3).trans e4).trans e5).trans e6).trans e7).trans e8).trans e9).trans e10).trans eq)
      have sq := s1.same ee
      refine ⟨_, rfl, _, rfl, a, 10, n + 1, rfl, sq, by omega, by decide, by decide, fun v2 H2 v20 v21 o2 s2 => ?_⟩
      obtain ⟨j, rfl⟩ := Int.eq_ofNat_of_zero_le v20
      have key : ∃ (p : Addr) (t b : Int), ([.ref p1, .ref p2, .ref p3, .ref p4, .ref p5, .ref p6, .ref p7, .ref p8, .ref p9, .ref p10] : List V)[j]? = some (.ref p) ∧ upd (upd (upd (upd (upd (upd (upd (upd (upd (upd (upd H1 p1 (.tup [.int (1), .int 1])) p2 (.tup [.int (-1), .int 1])) p3 (.tup [.int (1), .int 2])) p4 (.tup [.int (-1), .int 2])) p5 (.tup [.int (0), .int 1])) p6 (.tup [.int (99), .int 1])) p7 (.tup [.int (-99), .int 1])) p8 (.tup [.int (1), .int 99])) p9 (.tup [.int (-98), .int 99])) p10 (.tup [.int (99), .int 98])) q (.lst [.ref p1, .ref p2, .ref p3, .ref p4, .ref p5, .ref p6, .ref p7, .ref p8, .ref p9, .ref p10]) p = some (.tup [.int t, .int b]) ∧ GainOk t b := by
        have hj : j < 10 := by omega
        clear v21 o2 s2
        rcases j with _ | _ | _ | _ | _ | _ | _ | _ | _ | _ | j
        · exact ⟨_, 1, 1, rfl, h1, ⟨by decide, by decide, by decide, by decide⟩⟩
        · exact ⟨_, -1, 1, rfl, h2, ⟨by decide, by decide, by decide, by decide⟩⟩
        · exact ⟨_, 1, 2, rfl, h3, ⟨by decide, by decide, by decide, by decide⟩⟩
        · exact ⟨_, -1, 2, rfl, h4, ⟨by decide, by decide, by decide, by decide⟩⟩
        · exact ⟨_, 0, 1, rfl, h5, ⟨by decide, by decide, by decide, by decide⟩⟩
        · exact ⟨_, 99, 1, rfl, h6, ⟨by decide, by decide, by decide, by decide⟩⟩
        · exact ⟨_, -99, 1, rfl, h7, ⟨by decide, by decide, by decide, by decide⟩⟩
        · exact ⟨_, 1, 99, rfl, h8, ⟨by decide, by decide, by decide, by decide⟩⟩
        · exact ⟨_, -98, 99, rfl, h9, ⟨by decide, by decide, by decide, by decide⟩⟩
        · exact ⟨_, 99, 98, rfl, h10, ⟨by decide, by decide, by decide, by decide⟩⟩
        · omega
      obtain ⟨p, t, b, g1, g2, g3⟩ := key
      have aq : a ≠ q := (((((((((((s1.same e1).same e2).same e3).same e4).same e5).same e6).same e7).same e8).same e9).same e10)).ne nq
      have ap : p ≠ a := fun z => by
        subst z
        obtain ⟨d', e', c', y1, _⟩ := sq
        rw [g2] at y1
        cases y1
      exact ⟨q, _, _, .ref p, rfl, rfl, .inl (.inl (o2 _ _ upd_same (Ne.symm aq))), atI_nat g1, k p t b H2 g3 ((o1.trans (Old.same ee)).trans o2) (s2.le (by omega)) (o2 _ _ g2 ap)⟩
    · refine ⟨_, rfl, a, 199, n + 1, rfl, s1, by omega, by decide, by decide, fun v2 H2 v20 v21 o2 s2 => ?_⟩
      refine ⟨_, _, rfl, rfl, _, rfl, a, 99, n + 2, rfl, s2, by omega, by decide, by decide, fun v3 H3 v30 v31 o3 s3 => ?_⟩
      refine ⟨_, _, rfl, rfl, v2 - 99, 1 + v3, rfl, by omega, Nat.lt_of_lt_of_le (show (v2 - 99).natAbs < 128 by omega) (by decide +kernel), Nat.lt_of_lt_of_le (show (1 + v3).natAbs < 128 by omega) (by decide +kernel), fun p np => ?_⟩
      have l1 := lowT_le (h := v2 - 99) (b := 1 + v3) (by omega)
      have l2 := lowB_le (h := v2 - 99) (b := 1 + v3) (by omega)
      exact k p _ _ _ ⟨low_pos (by omega), low_cop (by omega), by omega, by omega⟩ (((o1.trans o2).trans o3).trans (Old.new np)) ((s3.same (same_upd np)).le (by omega)) upd_same
end
end K09

namespace K09
open PySem PySem.Spec PyProof.Rows L2 Hk NumM NumT SX
/-- an expression: the word every or spread for step 0, 1, late for 2 -/
inductive Tree
  | name (t : List Nat)
  | sum (ts : List Tree)
  | times (t b : Int) (x : Tree)
  | pair (w : Nat) (x : Tree) (n : Int)
def wordOf (w : Nat) : Str := if w = 0 then "every" else if w = 1 then "spread" else "late"
def Tree.kids : Tree → List Tree
  | .name _ => []
  | .sum ts => ts
  | .times _ _ x => [x]
  | .pair _ x _ => [x]
/-- the value x is this tree, of depth d at most -/
inductive TreeAt (H : Hp) : Nat → Tree → V → Prop
  | name {d : Nat} {t : List Nat} {p : Addr} (nm : Nm t) (h : H p = some (.tup [.str "name", .str (S t)])) : TreeAt H (d + 1) (.name t) (.ref p)
  | sum {d : Nat} {ts : List Tree} {xs : List V} {p : Addr} (h : H p = some (.tup (.str "sum" :: xs))) (n1 : 1 ≤ ts.length) (n5 : ts.length ≤ 5) (hl : xs.length = ts.length) (hk : ∀ (i : Nat) (x : V) (t : Tree), xs[i]? = some x → ts[i]? = some t → TreeAt H d t x) : TreeAt H (d + 1) (.sum ts) (.ref p)
  | times {d : Nat} {t b : Int} {x : Tree} {v : V} {p g : Addr} (ok : GainOk t b) (h : H p = some (.tup [.str "times", .ref g, v])) (hg : H g = some (.tup [.int t, .int b])) (hk : TreeAt H d x v) : TreeAt H (d + 1) (.times t b x) (.ref p)
  | pair {d : Nat} {w : Nat} {n : Int} {x : Tree} {v : V} {p : Addr} (hw : w < 3) (n0 : 0 ≤ n) (n6 : n ≤ 6) (n1 : w < 2 → 1 ≤ n) (h : H p = some (.tup [.str (wordOf w), v, .int n])) (hk : TreeAt H d x v) : TreeAt H (d + 1) (.pair w x n) (.ref p)
theorem TreeAt.kp {a : Addr} {n : Nat} {H H' : Hp} {d : Nat} {t : Tree} {v : V} (I : TreeAt H d t v) (k : ∀ b xs, H b = some (.tup xs) → H' b = some (.tup xs)) : TreeAt H' d t v := by
  induction I with
  | name nm h => exact .name nm (k _ _ h)
  | sum h n1 n5 hl hk ih => exact .sum (k _ _ h) n1 n5 hl ih
  | times ok h hg hk ih => exact .times ok (k _ _ h) (k _ _ hg) ih
  | pair hw n0 n6 n1 h hk ih => exact .pair hw n0 n6 n1 (k _ _ h) ih
theorem bo_list : bootBuiltins "list" = some (.type "list") := by decide +kernel
theorem word_ne {w : Nat} (h : w < 3) : V.str (wordOf w) ≠ V.str "name" ∧ V.str (wordOf w) ≠ V.str "sum" ∧ V.str (wordOf w) ≠ V.str "times" := by
  rcases w with _ | _ | _ | w
  · exact ⟨by decide, by decide, by decide⟩
  · exact ⟨by decide, by decide, by decide⟩
  · exact ⟨by decide, by decide, by decide⟩
  · omega
theorem none_of {H H' : Hp} {l : Addr} (s : Same H H') (n : H' l = none) : H l = none := by
  cases e : H l with
  | none => rfl
  | some o =>
    rw [s _ _ e] at n
    cases n
theorem cut1 {n : Nat} (h : 1 ≤ n) : HT.sIx n 0 (some 1) = 1 := by
  unfold HT.sIx
  simp
  omega
theorem cutV1 {x : V} {xs : List V} : cutV (x :: xs) (some 1) none = xs := by
  unfold cutV
  rw [cut1 (by simp)]
  simp [HT.sIx]
section
variable {P : Program} {w : World} {K : Fr} {mg : Str → Option Value} {base : Heap}
def spRatio : Sp := fun vs H Q _ => ∃ (p : Addr) (t b : Int), vs = [.ref p] ∧ H p = some (.tup [.int t, .int b]) ∧ Sz t ∧ Sz b ∧ Q (.str (S (fL t b))) H
theorem c_ratio (T : Tx K mg) : Cal P w K mg base 1 "_law_ratio" (gAd "_law_ratio" K) ["_law_gain_here"] spRatio := by
  refine cal_of (d := d_l_ratio) (N := ["_law_gain_here"]) (a_l_ratio T.c) rfl sc_l_ratio (g_l_ratio T) (fun _ _ _ _ _ _ us hl => match us, hl with | [_], _ => rfl) (fun vs H Q E h => ?_) (fun cdv A outer s H vs Q E hr h => ?_)
  · obtain ⟨p, t, b, rfl, _⟩ := h
    rfl
  · obtain ⟨p, t, b, rfl, hp, st, sb, k⟩ := h
    refine ⟨_, (pss_one (ps_ret (pe_ifExp (pt_cmpR op_eq (pe_ix ix_tup (pv 0) pe_int (fun _ _ => rfl)) pe_int (nomark _)) (pe_callTy call_str_int (by rfl) (n_str T) bo_str (pa_cons (pe_ix ix_tup (pv 0) pe_int (fun _ _ => rfl)) pa_nil)) (pe_op op_add_str (pe_op op_add_str (pe_callTy call_str_int (by rfl) (n_str T) bo_str (pa_cons (pe_ix ix_tup (pv 0) pe_int (fun _ _ => rfl)) pa_nil)) pe_str) (pe_callTy call_str_int (by rfl) (n_str T) bo_str (pa_cons (pe_ix ix_tup (pv 0) pe_int (fun _ _ => rfl)) pa_nil)))))), ?_⟩
    have sq : SqT K H p [.int t, .int b] := .inl (.inl hp)
    have l1 := i_len st
    have l2 := i_len sb
    refine ⟨_, rfl, p, _, 1, _, rfl, rfl, sq, rfl, rfl, _, rfl, ?_⟩
    refine ite2 (fun z => ?_) (fun z => ?_)
    · have e : b = 1 := V.int.inj (of_decide_eq_true z)
      refine ⟨_, rfl, p, _, 0, _, rfl, rfl, sq, rfl, _, rfl, log2_small st, ?_⟩
      show Q (.str _) H
      rw [toS]
      unfold fL at k
      rw [if_pos e] at k
      exact k
    · have e : ¬ b = 1 := fun q => z (decide_eq_true (by rw [q]))
      refine ⟨_, rfl, p, _, 0, _, rfl, rfl, sq, rfl, _, rfl, log2_small st, ?_⟩
      refine ⟨_, _, rfl, rfl, ?_, _, rfl, p, _, 1, _, rfl, rfl, sq, rfl, _, rfl, log2_small sb, _, _, rfl, rfl, ?_, ?_⟩
      · rw [toS, slash_S, S_len, S_len]
        exact line_ge (by simp; omega)
      · rw [toS, toS, slash_S, S_cat, S_len, S_len]
        exact line_ge (by simp; omega)
      · show Q (.str _) H
        rw [toS, toS, slash_S, S_cat, S_cat, List.append_assoc]
        unfold fL at k
        rw [if_neg e] at k
        exact k
/-- the expressions inside, in a new list -/
def Kids (H : Hp) (d : Nat) (ts : List Tree) (xs : List V) : Prop := xs.length = ts.length ∧ ∀ (i : Nat) (x : V) (t : Tree), xs[i]? = some x → ts[i]? = some t → TreeAt H d t x
theorem kids_one {H : Hp} {d : Nat} {t : Tree} {v : V} (h : TreeAt H d t v) : Kids H d [t] [v] := ⟨rfl, fun i x t' h1 h2 => by
  cases i with
  | zero =>
    cases h1
    cases h2
    exact h
  | succ i => simp at h1⟩
def spInside : Sp := fun vs H Q _ => ∃ (d : Nat) (t : Tree) (x : V), vs = [x] ∧ TreeAt H (d + 1) t x ∧ ∀ (p : Addr) (xs : List V) (H' : Hp), Same H H' → H p = none → H' p = some (.lst xs) → Kids H d t.kids xs → Q (.ref p) H'
theorem c_inside (T : Tx K mg) : Cal P w K mg base 1 "_law_inside" (gAd "_law_inside" K) ["_law_tree_here"] spInside := by
  refine cal_of (d := d_l_inside) (N := ["_law_tree_here"]) (a_l_inside T.c) rfl sc_l_inside (g_l_inside T) (fun _ _ _ _ _ _ us hl => match us, hl with | [_], _ => rfl) (fun vs H Q E h => ?_) (fun cdv A outer s H vs Q E hr h => ?_)
  · obtain ⟨d, t, x, rfl, _⟩ := h
    rfl
  · obtain ⟨d, t, x, rfl, ht, k⟩ := h
    refine ⟨_, (pss_cons (ps_if (pt_cmpR op_eq (pe_ix ix_tup (pv 0) pe_int (fun _ _ => rfl)) pe_str (nomark _))
 (pss_one (ps_ret (pe_lst pa_nil)))
 pss_nil)
 (pss_cons (ps_if (pt_cmpR op_eq (pe_ix ix_tup (pv 0) pe_int (fun _ _ => rfl)) pe_str (nomark _))
 (pss_one (ps_ret (pe_callTy call_list_of (by rfl) (n_list T) bo_list (pa_cons (pe_slice sl_tup (pv 0) (po_some pe_int) po_none) pa_nil))))
 pss_nil)
 (pss_one (ps_ret (pe_ifExp (pt_cmpR op_eq (pe_ix ix_tup (pv 0) pe_int (fun _ _ => rfl)) pe_str (nomark _)) (pe_lst (pa_cons (pe_ix ix_tup (pv 0) pe_int (fun _ _ => rfl)) pa_nil)) (pe_lst (pa_cons (pe_ix ix_tup (pv 0) pe_int (fun _ _ => rfl)) pa_nil))))))), ?_⟩
    cases ht with
    | @name d t p nm h =>
      exact ⟨_, rfl, p, _, 0, _, rfl, rfl, .inl (.inl h), rfl, rfl, _, rfl, iteTd rfl ⟨(by show 0 ≤ sizeLine; decide), fun q nq => k q [] _ (same_upd nq) nq upd_same ⟨rfl, fun i x t h => by simp at h⟩⟩⟩
    | @sum d ts xs p h n1 n5 hl hk =>
      have a0 : atI (V.str "sum" :: xs) 0 = some (V.str "sum") := atI_nat (j := 0) rfl
      refine ⟨_, rfl, p, _, 0, _, rfl, rfl, .inl (.inl h), a0, rfl, _, rfl, iteFd (by decide) ?_⟩
      refine ⟨_, rfl, p, _, 0, _, rfl, rfl, .inl (.inl h), a0, rfl, _, rfl, iteTd rfl ?_⟩
      refine ⟨_, rfl, 1, rfl, p, _, rfl, .inl (.inl h), ?_, fun q nq => ?_⟩
      · rintro ⟨z, _⟩
        have : HT.sIx (V.str "sum" :: xs).length 0 (some 1) = 1 := cut1 (by simp)
        rw [this] at z
        cases z
      · rw [cutV1]
        refine ⟨q, _, rfl, .inr (.inl (.inl upd_same)), fun l nl => ?_⟩
        have e1 := same_upd (o := .tup xs) nq
        exact k l xs _ (e1.trans (same_upd nl)) (none_of e1 nl) upd_same ⟨hl, hk⟩
    | @times d t b x v p g ok h hg hk =>
      refine ⟨_, rfl, p, _, 0, _, rfl, rfl, .inl (.inl h), rfl, rfl, _, rfl, iteFd (by decide) ?_⟩
      refine ⟨_, rfl, p, _, 0, _, rfl, rfl, .inl (.inl h), rfl, rfl, _, rfl, iteFd (by decide) ?_⟩
      refine ⟨_, rfl, p, _, 0, _, rfl, rfl, .inl (.inl h), rfl, rfl, _, rfl, iteTd rfl ?_⟩
      exact ⟨_, rfl, p, _, 2, _, rfl, rfl, .inl (.inl h), rfl, (by show 1 ≤ sizeLine; decide), fun q nq => k q [v] _ (same_upd nq) nq upd_same (kids_one hk)⟩
    | @pair d w n x v p hw n0 n6 n1 h hk =>
      obtain ⟨f1, f2, f3⟩ := word_ne hw
      refine ⟨_, rfl, p, _, 0, _, rfl, rfl, .inl (.inl h), rfl, rfl, _, rfl, iteFd f1 ?_⟩
      refine ⟨_, rfl, p, _, 0, _, rfl, rfl, .inl (.inl h), rfl, rfl, _, rfl, iteFd f2 ?_⟩
      refine ⟨_, rfl, p, _, 0, _, rfl, rfl, .inl (.inl h), rfl, rfl, _, rfl, iteFd f3 ?_⟩
      exact ⟨_, rfl, p, _, 1, _, rfl, rfl, .inl (.inl h), rfl, (by show 1 ≤ sizeLine; decide), fun q nq => k q [v] _ (same_upd nq) nq upd_same (kids_one hk)⟩
end
end K09

namespace K09
open PySem PySem.Spec PyProof.Rows L2 Hk NumM NumT SX
theorem bo_sum : bootBuiltins "sum" = some (.builtin "sum") := by decide +kernel
/-- how many parts -/
def Tree.parts : Tree → Nat
  | .name _ => 1
  | .sum ts => 1 + (ts.attach.map fun ⟨t, _⟩ => t.parts).sum
  | .times _ _ x => 1 + x.parts
  | .pair _ x _ => 1 + x.parts
theorem parts_eq (t : Tree) : t.parts = 1 + (t.kids.map Tree.parts).sum := by
  cases t with
  | name t => simp [Tree.parts, Tree.kids]
  | sum ts =>
    rw [Tree.parts, Tree.kids]
    congr 1
    simp
  | times t b x => simp [Tree.parts, Tree.kids]
  | pair w x n => simp [Tree.parts, Tree.kids]
theorem TreeAt.same {H H' : Hp} {d : Nat} {t : Tree} {v : V} (I : TreeAt H d t v) (s : Same H H') : TreeAt H' d t v := I.kp (a := 0) (n := 0) fun b xs h => s _ _ h
theorem Kids.same {H H' : Hp} {d : Nat} {ts : List Tree} {xs : List V} (I : Kids H d ts xs) (s : Same H H') : Kids H' d ts xs := ⟨I.1, fun i x t h1 h2 => (I.2 i x t h1 h2).same s⟩
theorem sum_cast {ts : List Tree} : (ts.map fun c => (c.parts : Int)).sum = (((ts.map Tree.parts).sum : Nat) : Int) := by
  induction ts with
  | nil => rfl
  | cons t r ih =>
    rw [List.map_cons, List.map_cons, List.sum_cons, List.sum_cons, ih]
    omega
/-- a comprehension that makes ys of xs, item by item -/
theorem lc_idx {K : Fr} {a : Addr} {xs : List V} {i : Nat} {te : TE} {σ : L2.St} {H1 : Hp} {D : Addr} {Qd : Hp → Prop} (ys : List V) (hlen : xs.length = ys.length) (nD : H1 D = none) (hl : SqL K H1 a xs) (hz : xs.length ≤ 100000)
    (hs : ∀ (j : Nat) (x y : V), xs[j]? = some x → ys[j]? = some y → ∀ (H : Hp) (R : VK), Same H1 H → (∀ H', Same H H' → R y H') → te ((σ.set i none).set i (some x)) H R)
    (hd : ∀ H, Same H1 H → H D = some (.lst ys) → Qd H) :
    ∃ W : Nat → Nat → Hp → Prop, (∃ m, W 0 m (upd H1 D (.lst []))) ∧ ∀ j m H, W j m H →
      ((Itl K a).stop j H ∧ Qd H) ∨ ((Itl K a).go j H ∧ ∃ Nx : Hp → Prop, (∀ H', Nx H' → ∃ m', m' < m ∧ W (j + 1) m' H') ∧ ∀ x H', (Itl K a).yld j H x H' → gName i x (wipe σ [i]) H' fun σ2 H2 => wipe σ2 [i] = wipe σ [i] ∧ tYes σ2 H2 fun b H3 =>
        if b = true then te σ2 H3 fun y H4 => ∃ acc, H4 D = some (.lst acc) ∧ acc.length < sizeLine ∧ Nx (upd H4 D (.lst (acc ++ [y]))) else Nx H3) := by
  refine lc_list (xs := xs) (fun j H' => Same H1 H' ∧ H' D = some (.lst (ys.take j))) ⟨same_upd nD, upd_same⟩ (fun j H' _ h => h.1.seq hl) ?_ ?_
  · rintro j x H hx ⟨s1, hD⟩
    have hj := (List.getElem?_eq_some_iff.mp hx).1
    have hy : ys[j]? = some (ys[j]'(by omega)) := List.getElem?_eq_getElem _
    refine ⟨by show ((σ.set i none).set i (some x)).set i none = σ.set i none; rw [List.set_set, List.set_set], ?_⟩
    unfold tYes
    dsimp only
    rw [if_pos rfl]
    refine hs j x _ hx hy H _ s1 fun H' s2 => ⟨_, s2 _ _ hD, ?_, same_upd' (s1.trans s2) nD, ?_⟩
    · rw [List.length_take]
      have : (100000 : Nat) < sizeLine := by decide
      omega
    · rw [upd_same, List.take_add_one, hy]
      rfl
  · rintro H ⟨s1, hD⟩
    rw [hlen, List.take_length] at hD
    exact hd H s1 hD
section
variable {P : Program} {w : World} {K : Fr} {mg : Str → Option Value} {base : Heap}
def spParts (d : Nat) : Sp := fun vs H Q _ => ∃ (t : Tree) (x : V), vs = [x] ∧ TreeAt H d t x ∧ ∀ H' : Hp, Same H H' → Q (.int t.parts) H'
theorem kids_len {H : Hp} {d : Nat} {t : Tree} {x : V} (h : TreeAt H d t x) : t.kids.length ≤ 5 := by
  cases h with
  | name => simp [Tree.kids]
  | sum h n1 n5 hl hk => exact n5
  | times => simp [Tree.kids]
  | pair => simp [Tree.kids]
theorem c_parts (T : Tx K mg) : ∀ d : Nat, Cal P w K mg base (d + 2) "_law_parts" (gAd "_law_parts" K) ["_law_tree_here"] (spParts d) := by
  have C_inside := c_inside (P := P) (w := w) (base := base) T
  intro d
  induction d with
  | zero =>
    refine cal_of (d := d_l_parts) (N := ["_law_tree_here", "_law_part"]) (a_l_parts T.c) rfl sc_l_parts (g_l_parts T) (fun _ _ _ _ _ _ us hl => match us, hl with | [_], _ => rfl) (fun vs H Q E h => ?_) (fun cdv A outer s H vs Q E hr h => ?_)
    · obtain ⟨t, x, rfl, _⟩ := h
      rfl
    · obtain ⟨t, x, rfl, ht, _⟩ := h
      exact nomatch ht
  | succ d ih =>
    refine cal_of (d := d_l_parts) (N := ["_law_tree_here", "_law_part"]) (a_l_parts T.c) rfl sc_l_parts (g_l_parts T) (fun _ _ _ _ _ _ us hl => match us, hl with | [_], _ => rfl) (fun vs H Q E h => ?_) (fun cdv A outer s H vs Q E hr h => ?_)
    · obtain ⟨t, x, rfl, _⟩ := h
      rfl
    · obtain ⟨t, x, rfl, ht, k⟩ := h
      refine ⟨_, (pss_one (ps_ret (pe_op op_add pe_int (pe_callB (cr_sum rfl) (by rfl) (n_sum T) bo_sum (pa_cons (pe_lc (own := [("_law_part", 1)]) (g := gName 1) (tt := tYes) rfl sc_l_parts.nd (pi_list (pe_c C_inside (hr.mono (by omega)) (pa_cons (pv 0) pa_nil))) (blkOk_by (N := ["_law_tree_here", "_law_part"]) (sc := defScope s_l_parts) (by decide +kernel)) (fun _ _ _ _ _ => pg_name (i := 1) sc_l_parts.nd rfl (.inl rfl)) (fun _ _ _ _ _ => pts_nil) (fun _ _ _ _ _ => (pe_c ih hr (pa_cons (pv 1) pa_nil)))) pa_nil))))), ?_⟩
      refine ⟨_, rfl, d, t, x, rfl, ht, fun p xs H1 s1 np hp kd => ?_⟩
      refine ⟨p, rfl, ⟨_, .inl (.inl hp)⟩, fun D nD => ?_⟩
      have kl : t.kids.length ≤ 5 := kids_len ht
      refine lc_idx (t.kids.map fun c => .int c.parts) (by rw [List.length_map]; exact kd.1) nD (.inl (.inl hp)) (by have := kd.1; omega) (fun j c y hc hy H2 R s2 q => ?_) (fun H2 s2 hD => ?_)
      · rw [List.getElem?_map] at hy
        obtain ⟨tc, h1, rfl⟩ := Option.map_eq_some_iff.mp hy
        exact ⟨_, rfl, tc, c, rfl, (kd.2 j c tc hc h1).same (s1.trans s2), fun H3 s3 => q H3 s3⟩
      · refine ⟨D, t.kids.map fun c => (c.parts : Int), rfl, .inl (.inl ?_), _, _, rfl, rfl, ?_⟩
        · rw [hD, List.map_map]
          rfl
        · have e : (1 : Int) + (t.kids.map fun c => (c.parts : Int)).sum = (t.parts : Int) := by
            rw [parts_eq, sum_cast]
            omega
          have q := k H2 (s1.trans s2)
          rw [← e] at q
          exact q
end
end K09

namespace K09
open PySem PySem.Spec PyProof.Rows L2 Hk NumM NumT SX
def maxL : List Nat → Nat := fun l => l.foldr max 0
/-- the depth -/
def Tree.deep : Tree → Nat
  | .name _ => 1
  | .sum ts => 1 + maxL (ts.attach.map fun ⟨t, _⟩ => t.deep)
  | .times _ _ x => 1 + x.deep
  | .pair _ x _ => 1 + x.deep
theorem deep_eq (t : Tree) : t.deep = 1 + maxL (t.kids.map Tree.deep) := by
  cases t with
  | name t => simp [Tree.deep, Tree.kids, maxL]
  | sum ts =>
    rw [Tree.deep, Tree.kids]
    congr 1
    simp
  | times t b x => simp [Tree.deep, Tree.kids, maxL]
  | pair w x n => simp [Tree.deep, Tree.kids, maxL]
theorem maxL_ge {l : List Nat} : ∀ x ∈ l, x ≤ maxL l := by
  induction l with
  | nil => intro x hx; exact nomatch hx
  | cons a r ih =>
    intro x hx
    show x ≤ max a (maxL r)
    rcases List.mem_cons.mp hx with rfl | h
    · exact Nat.le_max_left _ _
    · exact Nat.le_trans (ih x h) (Nat.le_max_right _ _)
theorem maxL_mem {l : List Nat} : maxL l = 0 ∨ maxL l ∈ l := by
  induction l with
  | nil => exact .inl rfl
  | cons a r ih =>
    show max a (maxL r) = 0 ∨ max a (maxL r) ∈ a :: r
    by_cases h : maxL r ≤ a
    · rw [Nat.max_eq_left h]
      exact .inr List.mem_cons_self
    · rw [Nat.max_eq_right (by omega)]
      rcases ih with e | e
      · exact .inl e
      · exact .inr (List.mem_cons_of_mem _ e)
theorem max_is {ts : List Tree} {m : Int} (hm : m ∈ (0 : Int) :: ts.map fun c => (c.deep : Int)) (hx : ∀ y, y ∈ ((0 : Int) :: ts.map fun c => (c.deep : Int)) → y ≤ m) : m = ((maxL (ts.map Tree.deep) : Nat) : Int) := by
  have h1 : ((maxL (ts.map Tree.deep) : Nat) : Int) ≤ m := by
    rcases maxL_mem (l := ts.map Tree.deep) with e | e
    · rw [e]
      exact hx 0 List.mem_cons_self
    · obtain ⟨c, hc, e2⟩ := List.mem_map.mp e
      rw [← e2]
      exact hx _ (List.mem_cons_of_mem _ (List.mem_map.mpr ⟨c, hc, rfl⟩))
  have h2 : m ≤ ((maxL (ts.map Tree.deep) : Nat) : Int) := by
    rcases List.mem_cons.mp hm with rfl | h
    · omega
    · obtain ⟨c, hc, rfl⟩ := List.mem_map.mp h
      have := maxL_ge c.deep (List.mem_map.mpr ⟨c, hc, rfl⟩)
      omega
  omega
/-- the names, as often as they stand there -/
def Tree.leaves : Tree → List (List Nat)
  | .name t => [t]
  | .sum ts => (ts.attach.map fun ⟨t, _⟩ => t.leaves).flatten
  | .times _ _ x => x.leaves
  | .pair _ x _ => x.leaves
/-- the text -/
def comma : List Nat → List Nat → List Nat := fun x y => if x = [] then y else if y = [] then x else x ++ [44, 32] ++ y
def Tree.tell : Tree → Str
  | .name t => S t
  | .sum ts => ("sum(" : Str) ++ Str.join (", " : Str) (ts.attach.map fun ⟨t, _⟩ => t.tell) ++ (")" : Str)
  | .times t b x => ("times(" : Str) ++ S (fL t b) ++ (", " : Str) ++ x.tell ++ (")" : Str)
  | .pair w x n => wordOf w ++ ("(" : Str) ++ x.tell ++ (", " : Str) ++ S (iL n) ++ (")" : Str)
theorem tell_sum (ts : List Tree) : (Tree.sum ts).tell = ("sum(" : Str) ++ Str.join (", " : Str) (ts.map Tree.tell) ++ (")" : Str) := by
  rw [Tree.tell]
  simp
section
variable {P : Program} {w : World} {K : Fr} {mg : Str → Option Value} {base : Heap}
theorem bo_max' : bootBuiltins "max" = some (.builtin "max") := by decide +kernel
def spDeep (d : Nat) : Sp := fun vs H Q _ => ∃ (t : Tree) (x : V), vs = [x] ∧ TreeAt H d t x ∧ ∀ H' : Hp, Same H H' → Q (.int t.deep) H'
theorem c_depth (T : Tx K mg) : ∀ d : Nat, Cal P w K mg base (d + 2) "_law_depth" (gAd "_law_depth" K) ["_law_tree_here"] (spDeep d) := by
  have C_inside := c_inside (P := P) (w := w) (base := base) T
  intro d
  induction d with
  | zero =>
    refine cal_of (d := d_l_depth) (N := ["_law_tree_here", "_law_part"]) (a_l_depth T.c) rfl sc_l_depth (g_l_depth T) (fun _ _ _ _ _ _ us hl => match us, hl with | [_], _ => rfl) (fun vs H Q E h => ?_) (fun cdv A outer s H vs Q E hr h => ?_)
    · obtain ⟨t, x, rfl, _⟩ := h
      rfl
    · obtain ⟨t, x, rfl, ht, _⟩ := h
      exact nomatch ht
  | succ d ih =>
    refine cal_of (d := d_l_depth) (N := ["_law_tree_here", "_law_part"]) (a_l_depth T.c) rfl sc_l_depth (g_l_depth T) (fun _ _ _ _ _ _ us hl => match us, hl with | [_], _ => rfl) (fun vs H Q E h => ?_) (fun cdv A outer s H vs Q E hr h => ?_)
    · obtain ⟨t, x, rfl, _⟩ := h
      rfl
    · obtain ⟨t, x, rfl, ht, k⟩ := h
      refine ⟨_, (pss_one (ps_ret (pe_op op_add pe_int (pe_callB (cr_max rfl) (by rfl) (n_max T) bo_max' (pa_cons (pe_op op_cat (pe_lst (pa_cons pe_int pa_nil)) (pe_lc (own := [("_law_part", 1)]) (g := gName 1) (tt := tYes) rfl sc_l_depth.nd (pi_list (pe_c C_inside (hr.mono (by omega)) (pa_cons (pv 0) pa_nil))) (blkOk_by (N := ["_law_tree_here", "_law_part"]) (sc := defScope s_l_depth) (by decide +kernel)) (fun _ _ _ _ _ => pg_name (i := 1) sc_l_depth.nd rfl (.inl rfl)) (fun _ _ _ _ _ => pts_nil) (fun _ _ _ _ _ => (pe_c ih hr (pa_cons (pv 1) pa_nil))))) pa_nil))))), ?_⟩
      refine ⟨(by show 1 ≤ sizeLine; decide), fun q nq => ?_⟩
      have eq := same_upd (o := .lst [.int 0]) nq
      refine ⟨_, rfl, d, t, x, rfl, ht.same eq, fun p xs H1 s1 np hp kd => ?_⟩
      refine ⟨p, rfl, ⟨_, .inl (.inl hp)⟩, fun D nD => ?_⟩
      have kl : t.kids.length ≤ 5 := kids_len ht
      refine lc_idx (t.kids.map fun c => .int c.deep) (by rw [List.length_map]; exact kd.1) nD (.inl (.inl hp)) (by have := kd.1; omega) (fun j c y hc hy H2 R s2 q => ?_) (fun H2 s2 hD => ?_)
      · rw [List.getElem?_map] at hy
        obtain ⟨tc, h1, rfl⟩ := Option.map_eq_some_iff.mp hy
        exact ⟨_, rfl, tc, c, rfl, (kd.2 j c tc hc h1).same (s1.trans s2), fun H3 s3 => q H3 s3⟩
      · refine ⟨q, D, [.int 0], _, rfl, rfl, s2 _ _ (s1 _ _ upd_same), hD, ?_, fun l nl => ?_⟩
        · rw [List.length_map]
          exact Nat.le_trans (show 1 + t.kids.length ≤ 1000 by omega) (by decide)
        refine ⟨l, 0 :: t.kids.map fun c => (c.deep : Int), rfl, .inl (.inl ?_), by simp, fun m hm hx => ⟨_, _, rfl, rfl, ?_⟩⟩
        · rw [upd_same, List.map_cons, List.map_map]
          rfl
        · have e : (1 : Int) + m = (t.deep : Int) := by
            rw [deep_eq, max_is hm hx]
            omega
          have q' := k _ (((eq.trans s1).trans s2).trans (same_upd (o := .lst ([V.int 0] ++ t.kids.map fun c => V.int c.deep)) nl))
          rw [← e] at q'
          exact q'
end
end K09

namespace K09
open PySem PySem.Spec PyProof.Rows L2 Hk NumM NumT SX
theorem leaves_eq {t : Tree} (h : ∀ l, t ≠ .name l) : t.leaves = (t.kids.map Tree.leaves).flatten := by
  cases t with
  | name l => exact absurd rfl (h l)
  | sum ts =>
    rw [Tree.leaves, Tree.kids]
    simp
  | times t b x => simp [Tree.leaves, Tree.kids]
  | pair w x n => simp [Tree.leaves, Tree.kids]
theorem leaves_len {H : Hp} {d : Nat} {t : Tree} {v : V} (I : TreeAt H d t v) : t.leaves.length ≤ 5 ^ d := by
  induction I with
  | @name d t p nm h =>
    rw [Tree.leaves]
    exact Nat.pos_of_ne_zero (by simp)
  | @sum d ts xs p h n1 n5 hl hk ih =>
    rw [leaves_eq (fun l => by simp), Tree.kids, List.length_flatten, List.map_map]
    have key : ∀ (us : List Tree) (ys : List V), ys.length = us.length → (∀ (i : Nat) (x : V) (t : Tree), ys[i]? = some x → us[i]? = some t → t.leaves.length ≤ 5 ^ d) → (us.map (List.length ∘ Tree.leaves)).sum ≤ us.length * 5 ^ d := by
      intro us
      induction us with
      | nil => intro ys _ _; simp
      | cons u us ihu =>
        intro ys hy hall
        cases ys with
        | nil => simp at hy
        | cons y ys =>
          have h1 := hall 0 y u rfl rfl
          have h2 := ihu ys (by simpa using hy) (fun i x t a b => hall (i + 1) x t (by simpa using a) (by simpa using b))
          rw [List.map_cons, List.sum_cons, List.length_cons, Nat.add_mul]
          have h3 : (List.length ∘ Tree.leaves) u = u.leaves.length := rfl
          rw [h3]
          omega
    have := key ts xs hl ih
    rw [Nat.pow_succ]
    have h3 : ts.length * 5 ^ d ≤ 5 * 5 ^ d := Nat.mul_le_mul_right _ n5
    omega
  | times ok h hg hk ih =>
    rw [Tree.leaves, Nat.pow_succ]
    omega
  | pair hw n0 n6 n1 h hk ih =>
    rw [Tree.leaves, Nat.pow_succ]
    omega
theorem tree_word {H : Hp} {d : Nat} {t : Tree} {v : V} (I : TreeAt H d t v) (h : ∀ l, t ≠ .name l) : ∃ (p : Addr) (xs : List V) (w : Str), v = .ref p ∧ H p = some (.tup (.str w :: xs)) ∧ V.str w ≠ V.str "name" := by
  cases I with
  | name nm h' => exact absurd rfl (h _)
  | sum h' n1 n5 hl hk => exact ⟨_, _, "sum", rfl, h', by decide⟩
  | times ok h' hg hk => exact ⟨_, _, "times", rfl, h', by decide⟩
  | pair hw n0 n6 n1 h' hk => exact ⟨_, _, _, rfl, h', (word_ne hw).1⟩
theorem take_flat {f : Tree → List (List Nat)} (ts : List Tree) (i : Nat) : (((ts.take i).map f).flatten).length ≤ ((ts.map f).flatten).length := by
  rw [List.length_flatten, List.length_flatten]
  induction ts generalizing i with
  | nil => simp
  | cons t r ih =>
    cases i with
    | zero => simp
    | succ i =>
      have := ih i
      simp only [List.take_succ_cons, List.map_cons, List.sum_cons]
      omega
section
variable {P : Program} {w : World} {K : Fr} {mg : Str → Option Value} {base : Heap}
def spLeaves (d : Nat) : Sp := fun vs H Q _ => ∃ (t : Tree) (x : V), vs = [x] ∧ TreeAt H d t x ∧ d ≤ 5 ∧ ∀ (p : Addr) (H' : Hp), Same H H' → H p = none → H' p = some (.lst (t.leaves.map fun l => .str (S l))) → Q (.ref p) H'
theorem c_leaves (T : Tx K mg) : ∀ d : Nat, Cal P w K mg base (d + 2) "_law_leaves" (gAd "_law_leaves" K) ["_law_tree_here"] (spLeaves d) := by
  have C_inside := c_inside (P := P) (w := w) (base := base) T
  intro d
  induction d with
  | zero =>
    refine cal_of (d := d_l_leaves) (N := ["_law_tree_here", "_law_found", "_law_part"]) (a_l_leaves T.c) rfl sc_l_leaves (g_l_leaves T) (fun _ _ _ _ _ _ us hl => match us, hl with | [_], _ => rfl) (fun vs H Q E h => ?_) (fun cdv A outer s H vs Q E hr h => ?_)
    · obtain ⟨t, x, rfl, _⟩ := h
      rfl
    · obtain ⟨t, x, rfl, ht, _⟩ := h
      exact nomatch ht
  | succ d ih =>
    refine cal_of (d := d_l_leaves) (N := ["_law_tree_here", "_law_found", "_law_part"]) (a_l_leaves T.c) rfl sc_l_leaves (g_l_leaves T) (fun _ _ _ _ _ _ us hl => match us, hl with | [_], _ => rfl) (fun vs H Q E h => ?_) (fun cdv A outer s H vs Q E hr h => ?_)
    · obtain ⟨t, x, rfl, _⟩ := h
      rfl
    · obtain ⟨t, x, rfl, ht, hd, k⟩ := h
      refine ⟨_, (pss_cons (ps_if (pt_cmpR op_eq (pe_ix ix_tup (pv 0) pe_int (fun _ _ => rfl)) pe_str (nomark _))
 (pss_one (ps_ret (pe_lst (pa_cons (pe_ix ix_tup (pv 0) pe_int (fun _ _ => rfl)) pa_nil))))
 pss_nil)
 (pss_cons (ps_set (i := 1) sc_l_leaves.nd rfl (.inl rfl) (pe_lst pa_nil))
 (pss_cons (ps_for PassesOwn.never rfl (pi_list (pe_c C_inside (hr.mono (by omega)) (pa_cons (pv 0) pa_nil))) (pg_name (i := 2) sc_l_leaves.nd rfl (.inl rfl))
 (pss_one (ps_set (i := 1) sc_l_leaves.nd rfl (.inl rfl) (pe_op op_cat (pv 1) (pe_c ih hr (pa_cons (pv 2) pa_nil))))))
 (pss_one (ps_ret (pv 1)))))), ?_⟩
      have h5 : 5 ^ (d + 1) ≤ 5 ^ 5 := Nat.pow_le_pow_right (by decide) hd
      have hlen := leaves_len ht
      by_cases hn : ∃ l, t = .name l
      · obtain ⟨l, rfl⟩ := hn
        cases ht with
        | @name d t p nm h =>
          refine ⟨_, rfl, p, _, 0, _, rfl, rfl, .inl (.inl h), rfl, rfl, _, rfl, iteTd rfl ⟨_, rfl, p, _, 1, _, rfl, rfl, .inl (.inl h), rfl, (by show 1 ≤ sizeLine; decide), fun q nq => k q _ (same_upd nq) nq ?_⟩⟩
          rw [Tree.leaves]
          exact upd_same
      · have hn' : ∀ l, t ≠ .name l := fun l e => hn ⟨l, e⟩
        obtain ⟨p, xs0, w0, hp, ha, hne⟩ := tree_word ht hn'
        subst hp
        refine ⟨_, rfl, p, _, 0, _, rfl, rfl, .inl (.inl ha), atI_nat (j := 0) rfl, rfl, _, rfl, iteFd hne ?_⟩
        refine ⟨(by show 0 ≤ sizeLine; decide), fun f nf => ?_⟩
        have ef := same_upd (o := .lst []) nf
        refine ⟨_, rfl, d, t, _, rfl, ht.same ef, fun q xs H1 s1 nq hq kd => ?_⟩
        have kl : t.kids.length ≤ 5 := kids_len ht
        refine ⟨q, rfl, ⟨_, .inl (.inl hq)⟩, ?_⟩
        refine for_list (a := q) (xs := xs) (fun i σ H' => Same (upd H f (.lst [])) H' ∧ H' q = some (.lst xs) ∧ ∃ (g : Addr) (y : Option V), H g = none ∧ H' g = some (.lst ((((t.kids.take i).map Tree.leaves).flatten).map fun l => .str (S l))) ∧ σ = [some (.ref p), some (.ref g), y]) ⟨s1, hq, f, none, nf, s1 _ _ upd_same, rfl⟩ (fun i σ H' _ h => .inl (.inl h.2.1)) ?_ ?_
        · rintro i c σ H' hc ⟨sH, hq', g, y, ng, hg, rfl⟩
          have hi : i < t.kids.length := by
            have := (List.getElem?_eq_some_iff.mp hc).1
            have := kd.1
            omega
          have hti : t.kids[i]? = some t.kids[i] := List.getElem?_eq_getElem hi
          have htc := (kd.2 i c _ hc hti).same sH
          refine ⟨_, rfl, _, rfl, t.kids[i], c, rfl, htc, by omega, fun g2 H2 s2 ng2 hg2 => ?_⟩
          refine ⟨g, g2, _, _, rfl, rfl, s2 _ _ hg, hg2, ?_, fun l nl => ?_⟩
          · rw [List.length_map, List.length_map]
            have b1 := leaves_len htc
            have b2 : (((t.kids.take i).map Tree.leaves).flatten).length ≤ (t.leaves).length := by
              rw [leaves_eq hn']
              exact take_flat _ i
            have b3 : 5 ^ d ≤ 5 ^ (d + 1) := Nat.pow_le_pow_right (by decide) (by omega)
            exact Nat.le_trans (show _ ≤ 5 ^ 5 + 5 ^ 5 by omega) (by decide)
          · have sl := same_upd (o := .lst (((((t.kids.take i).map Tree.leaves).flatten).map fun l => V.str (S l)) ++ (t.kids[i].leaves.map fun l => V.str (S l)))) nl
            refine ⟨(sH.trans s2).trans sl, sl _ _ (s2 _ _ hq'), l, some c, ?_, ?_, rfl⟩
            · exact none_of ((ef.trans sH).trans s2) nl
            · rw [upd_same, List.take_add_one, hti, List.map_append, List.flatten_append, List.map_append]
              simp
        · rintro σ H' ⟨sH, _, g, y, ng, hg, rfl⟩
          rw [kd.1, List.take_length, ← leaves_eq hn'] at hg
          exact ⟨_, rfl, k g H' (ef.trans sH) ng hg⟩
end
end K09

namespace K09
open PySem PySem.Spec PyProof.Rows L2 Hk NumM NumT SX
theorem str_len (x y : Str) : (x ++ y).length = x.length + y.length := by
  show (x.cps ++ y.cps).size = _
  rw [Array.size_append]
  rfl
theorem sqT_same {K : Fr} {a : Addr} {xs : List V} {H H' : Hp} (s : Same H H') (h : SqT K H a xs) : SqT K H' a xs := by
  rcases h with (z | ⟨o1, z⟩) | z
  · exact .inl (.inl (s _ _ z))
  · exact .inl (.inr ⟨o1, s _ _ z⟩)
  · exact .inr z
/-- a comprehension that makes ys of xs, item by item -/
theorem lc_idxT {K : Fr} {a : Addr} {xs : List V} {i : Nat} {te : TE} {σ : L2.St} {H1 : Hp} {D : Addr} {Qd : Hp → Prop} (ys : List V) (hlen : xs.length = ys.length) (nD : H1 D = none) (hl : SqT K H1 a xs) (hz : xs.length ≤ 100000)
    (hs : ∀ (j : Nat) (x y : V), xs[j]? = some x → ys[j]? = some y → ∀ (H : Hp) (R : VK), Same H1 H → (∀ H', Same H H' → R y H') → te ((σ.set i none).set i (some x)) H R)
    (hd : ∀ H, Same H1 H → H D = some (.lst ys) → Qd H) :
    ∃ W : Nat → Nat → Hp → Prop, (∃ m, W 0 m (upd H1 D (.lst []))) ∧ ∀ j m H, W j m H →
      ((Itt K a).stop j H ∧ Qd H) ∨ ((Itt K a).go j H ∧ ∃ Nx : Hp → Prop, (∀ H', Nx H' → ∃ m', m' < m ∧ W (j + 1) m' H') ∧ ∀ x H', (Itt K a).yld j H x H' → gName i x (wipe σ [i]) H' fun σ2 H2 => wipe σ2 [i] = wipe σ [i] ∧ tYes σ2 H2 fun b H3 =>
        if b = true then te σ2 H3 fun y H4 => ∃ acc, H4 D = some (.lst acc) ∧ acc.length < sizeLine ∧ Nx (upd H4 D (.lst (acc ++ [y]))) else Nx H3) := by
  refine lc_tup (xs := xs) (fun j H' => Same H1 H' ∧ H' D = some (.lst (ys.take j))) ⟨same_upd nD, upd_same⟩ (fun j H' _ h => sqT_same h.1 hl) ?_ ?_
  · rintro j x H hx ⟨s1, hD⟩
    have hj := (List.getElem?_eq_some_iff.mp hx).1
    have hy : ys[j]? = some (ys[j]'(by omega)) := List.getElem?_eq_getElem _
    refine ⟨by show ((σ.set i none).set i (some x)).set i none = σ.set i none; rw [List.set_set, List.set_set], ?_⟩
    unfold tYes
    dsimp only
    rw [if_pos rfl]
    refine hs j x _ hx hy H _ s1 fun H' s2 => ⟨_, s2 _ _ hD, ?_, same_upd' (s1.trans s2) nD, ?_⟩
    · rw [List.length_take]
      have : (100000 : Nat) < sizeLine := by decide
      omega
    · rw [upd_same, List.take_add_one, hy]
      rfl
  · rintro H ⟨s1, hD⟩
    rw [hlen, List.take_length] at hD
    exact hd H s1 hD
theorem fl_len {t b : Int} (ok : GainOk t b) : (fL t b).length ≤ 607 := by
  have l1 := i_len (z := t) (Nat.lt_of_le_of_lt ok.t1 (by decide +kernel))
  have l2 := i_len (z := b) (Nat.lt_of_le_of_lt ok.b1 (by decide +kernel))
  unfold fL
  split
  · omega
  · rw [List.length_append, List.length_cons]
    omega
theorem il_len {n : Int} (h0 : 0 ≤ n) (h6 : n ≤ 6) : (iL n).length ≤ 303 := i_len (z := n) (Nat.lt_of_le_of_lt (show n.natAbs ≤ 6 by omega) (by decide +kernel))
theorem word_len {w : Nat} : (wordOf w).length ≤ 6 := by
  unfold wordOf
  split
  · decide +kernel
  · split <;> decide +kernel
theorem six_pos (d : Nat) : 1 ≤ 6 ^ d := Nat.pos_of_ne_zero (by simp)
theorem tree_pos {H : Hp} {d : Nat} {t : Tree} {v : V} (I : TreeAt H d t v) : 6 ≤ 6 ^ d := by
  obtain ⟨e, rfl⟩ : ∃ e, d = e + 1 := by cases I <;> exact ⟨_, rfl⟩
  rw [Nat.pow_succ]
  have := six_pos e
  omega
theorem tell_le {H : Hp} {d : Nat} {t : Tree} {v : V} (I : TreeAt H d t v) : t.tell.length ≤ 40 * 6 ^ d := by
  induction I with
  | @name d t p nm h =>
    have := nm.hi
    have := six_pos d
    rw [Tree.tell, S_len, Nat.pow_succ]
    omega
  | @sum d ts xs p h n1 n5 hl hk ih =>
    rw [tell_sum, str_len, str_len]
    have key : ∀ (us : List Tree) (ys : List V), ys.length = us.length → (∀ (i : Nat) (x : V) (t : Tree), ys[i]? = some x → us[i]? = some t → t.tell.length ≤ 40 * 6 ^ d) → ((us.map Tree.tell).map (·.length)).sum ≤ us.length * (40 * 6 ^ d) := by
      intro us
      induction us with
      | nil => intro ys _ _; simp
      | cons u us ihu =>
        intro ys hy hall
        cases ys with
        | nil => simp at hy
        | cons y ys =>
          have h1 := hall 0 y u rfl rfl
          have h2 := ihu ys (by simpa using hy) (fun i x t a b => hall (i + 1) x t (by simpa using a) (by simpa using b))
          rw [List.map_cons, List.map_cons, List.sum_cons, List.length_cons, Nat.add_mul]
          omega
    have k1 := key ts xs hl ih
    have k2 : ts.length * (40 * 6 ^ d) ≤ 5 * (40 * 6 ^ d) := Nat.mul_le_mul_right _ n5
    have k3 : (Str.join (", " : Str) (ts.map Tree.tell)).length ≤ ((ts.map Tree.tell).map (·.length)).sum + 5 * 2 := by
      cases ts with
      | nil => simp at n1
      | cons u us =>
        rw [List.map_cons, len_join_cons, show (", " : Str).length = 2 from rfl]
        have : us.length ≤ 4 := by simpa using n5
        have e : ((Tree.tell u :: us.map Tree.tell).map (·.length)).sum = (((u :: us).map Tree.tell).map (·.length)).sum := rfl
        rw [List.length_map]
        omega
    have e1 : ("sum(" : Str).length = 4 := rfl
    have e2 : (")" : Str).length = 1 := rfl
    rw [e1, e2, Nat.pow_succ]
    have := six_pos d
    omega
  | @times d t b x v p g ok h hg hk ih =>
    have := tree_pos hk
    have := fl_len ok
    have eS : (S (fL t b)).length = (fL t b).length := by rw [S_len]
    rw [Tree.tell, str_len, str_len, str_len, str_len, eS, show ("times(" : Str).length = 6 from rfl, show (", " : Str).length = 2 from rfl, show (")" : Str).length = 1 from rfl, Nat.pow_succ]
    omega
  | @pair d w n x v p hw n0 n6 n1 h hk ih =>
    have := tree_pos hk
    have := il_len n0 n6
    have := word_len (w := w)
    have eS : (S (iL n)).length = (iL n).length := by rw [S_len]
    rw [Tree.tell, str_len, str_len, str_len, str_len, str_len, eS, show ("(" : Str).length = 1 from rfl, show (", " : Str).length = 2 from rfl, show (")" : Str).length = 1 from rfl, Nat.pow_succ]
    omega
end K09

namespace K09
open PySem PySem.Spec PyProof.Rows L2 Hk NumM NumT SX
section
variable {P : Program} {w : World} {K : Fr} {mg : Str → Option Value} {base : Heap}
def spTell (d : Nat) : Sp := fun vs H Q _ => ∃ (t : Tree) (x : V), vs = [x] ∧ TreeAt H d t x ∧ d ≤ 5 ∧ ∀ H' : Hp, Same H H' → Q (.str t.tell) H'
theorem c_tell (T : Tx K mg) : ∀ d : Nat, Cal P w K mg base (d + 2) "_law_tell" (gAd "_law_tell" K) ["_law_tree_here"] (spTell d) := by
  have C_ratio := c_ratio (P := P) (w := w) (base := base) T
  intro d
  induction d with
  | zero =>
    refine cal_of (d := d_l_tell) (N := ["_law_tree_here", "_law_word", "_law_part"]) (a_l_tell T.c) rfl sc_l_tell (g_l_tell T) (fun _ _ _ _ _ _ us hl => match us, hl with | [_], _ => rfl) (fun vs H Q E h => ?_) (fun cdv A outer s H vs Q E hr h => ?_)
    · obtain ⟨t, x, rfl, _⟩ := h
      rfl
    · obtain ⟨t, x, rfl, ht, _⟩ := h
      exact nomatch ht
  | succ d ih =>
    refine cal_of (d := d_l_tell) (N := ["_law_tree_here", "_law_word", "_law_part"]) (a_l_tell T.c) rfl sc_l_tell (g_l_tell T) (fun _ _ _ _ _ _ us hl => match us, hl with | [_], _ => rfl) (fun vs H Q E h => ?_) (fun cdv A outer s H vs Q E hr h => ?_)
    · obtain ⟨t, x, rfl, _⟩ := h
      rfl
    · obtain ⟨t, x, rfl, ht, hd, k⟩ := h
      refine ⟨_, (pss_cons (ps_set (i := 1) sc_l_tell.nd rfl (.inl rfl) (pe_ix ix_tup (pv 0) pe_int (fun _ _ => rfl)))
 (pss_cons (ps_if (pt_cmpR op_eq (pv 1) pe_str (nomark _))
 (pss_one (ps_ret (pe_ix ix_tup (pv 0) pe_int (fun _ _ => rfl))))
 pss_nil)
 (pss_cons (ps_if (pt_cmpR op_eq (pv 1) pe_str (nomark _))
 (pss_one (ps_ret (pe_op op_add_str (pe_op op_add_str pe_str (pe_join pe_str (pe_lc (own := [("_law_part", 2)]) (g := gName 2) (tt := tYes) rfl sc_l_tell.nd (pi_tup (pe_slice sl_tup (pv 0) (po_some pe_int) po_none)) (blkOk_by (N := ["_law_tree_here", "_law_word", "_law_part"]) (sc := defScope s_l_tell) (by decide +kernel)) (fun _ _ _ _ _ => pg_name (i := 2) sc_l_tell.nd rfl (.inl rfl)) (fun _ _ _ _ _ => pts_nil) (fun _ _ _ _ _ => (pe_c ih hr (pa_cons (pv 2) pa_nil)))))) pe_str)))
 pss_nil)
 (pss_cons (ps_if (pt_cmpR op_eq (pv 1) pe_str (nomark _))
 (pss_one (ps_ret (pe_op op_add_str (pe_op op_add_str (pe_op op_add_str (pe_op op_add_str pe_str (pe_c C_ratio (hr.mono (by omega)) (pa_cons (pe_ix ix_tup (pv 0) pe_int (fun _ _ => rfl)) pa_nil))) pe_str) (pe_c ih hr (pa_cons (pe_ix ix_tup (pv 0) pe_int (fun _ _ => rfl)) pa_nil))) pe_str)))
 pss_nil)
 (pss_one (ps_ret (pe_op op_add_str (pe_op op_add_str (pe_op op_add_str (pe_op op_add_str (pe_op op_add_str (pv 1) pe_str) (pe_c ih hr (pa_cons (pe_ix ix_tup (pv 0) pe_int (fun _ _ => rfl)) pa_nil))) pe_str) (pe_callTy call_str_int (by rfl) (n_str T) bo_str (pa_cons (pe_ix ix_tup (pv 0) pe_int (fun _ _ => rfl)) pa_nil))) pe_str))))))), ?_⟩
      have h6 : 40 * 6 ^ d ≤ 40 * 6 ^ 5 := Nat.mul_le_mul_left _ (Nat.pow_le_pow_right (by decide) (by omega))
      have big : ∀ n : Nat, n ≤ 400000 → n ≤ sizeLine := fun n h => Nat.le_trans h (by decide)
      have h7 : 40 * 6 ^ (d + 1) ≤ 40 * 6 ^ 5 := Nat.mul_le_mul_left _ (Nat.pow_le_pow_right (by decide) hd)
      have htl := tell_le ht
      have c2 : (40 : Nat) * 6 ^ 5 = 311040 := by decide
      cases ht with
      | @name d t p nm h =>
        refine ⟨_, rfl, p, _, 0, _, rfl, rfl, .inl (.inl h), rfl, ?_⟩
        exact ⟨_, rfl, rfl, _, rfl, iteTd rfl ⟨_, rfl, p, _, 1, _, rfl, rfl, .inl (.inl h), rfl, by have q := k H (Same.refl H); rw [Tree.tell] at q; exact q⟩⟩
      | @sum d ts xs p h n1 n5 hl hk =>
        refine ⟨_, rfl, p, _, 0, _, rfl, rfl, .inl (.inl h), atI_nat (j := 0) rfl, ?_⟩
        refine ⟨_, rfl, rfl, _, rfl, iteFd (by decide) ?_⟩
        refine ⟨_, rfl, rfl, _, rfl, iteTd rfl ?_⟩
        refine ⟨⟨_, rfl⟩, _, rfl, 1, rfl, p, _, rfl, .inl (.inl h), ?_, fun q nq => ?_⟩
        · rintro ⟨z, _⟩
          have : HT.sIx (V.str "sum" :: xs).length 0 (some 1) = 1 := cut1 (by simp)
          rw [this] at z
          cases z
        · rw [cutV1]
          have e1 := same_upd (o := .tup xs) nq
          refine ⟨q, rfl, ⟨_, .inl (.inl upd_same)⟩, fun D nD => ?_⟩
          refine lc_idxT (ts.map fun c => .str c.tell) (by rw [List.length_map]; exact hl) nD (.inl (.inl upd_same)) (by omega) (fun j c y hc hy H2 R s2 qq => ?_) (fun H2 s2 hD => ?_)
          · rw [List.getElem?_map] at hy
            obtain ⟨tc, h1, rfl⟩ := Option.map_eq_some_iff.mp hy
            exact ⟨_, rfl, tc, c, rfl, (hk j c tc hc h1).same (e1.trans s2), by omega, fun H3 s3 => qq H3 s3⟩
          · have hT : (Txt.join (", " : Str) (ts.map Tree.tell)) = Str.join (", " : Str) (ts.map Tree.tell) := StrLaws.glued_eq_join _ _
            have hs := len_join_ge_sum (", " : Str) (ts.map Tree.tell)
            rw [hT] at hs
            have q1 := k H2 (e1.trans s2)
            rw [tell_sum] at htl q1
            rw [str_len, str_len] at htl
            have l1 : ("sum(" : Str).length = 4 := rfl
            have l2 : (")" : Str).length = 1 := rfl
            have l3 : (", " : Str).length = 2 := rfl
            refine ⟨", ", D, ts.map Tree.tell, rfl, rfl, .inl (.inl (.inl ?_)), ?_, ?_⟩
            · rw [hD, List.map_map]
              rfl
            · rw [List.length_map, l3]
              omega
            · rw [hT]
              refine ⟨_, _, rfl, rfl, big _ (by omega), _, _, rfl, rfl, big _ (by rw [str_len]; omega), ?_⟩
              exact q1
      | @times d t b x v p g ok h hg hk =>
        have hx := tell_le hk
        have hf := fl_len ok
        refine ⟨_, rfl, p, _, 0, _, rfl, rfl, .inl (.inl h), rfl, ?_⟩
        refine ⟨_, rfl, rfl, _, rfl, iteFd (by decide) ?_⟩
        refine ⟨_, rfl, rfl, _, rfl, iteFd (by decide) ?_⟩
        refine ⟨_, rfl, rfl, _, rfl, iteTd rfl ?_⟩
        refine ⟨_, rfl, p, _, 1, _, rfl, rfl, .inl (.inl h), rfl, g, t, b, rfl, hg, Nat.lt_of_le_of_lt ok.t1 (by decide +kernel), Nat.lt_of_le_of_lt ok.b1 (by decide +kernel), ?_⟩
        have eS : (S (fL t b)).length = (fL t b).length := by rw [S_len]
        have l1 : ("times(" : Str).length = 6 := rfl
        have l2 : (")" : Str).length = 1 := rfl
        have l3 : (", " : Str).length = 2 := rfl
        refine ⟨_, _, rfl, rfl, big _ (by omega), _, _, rfl, rfl, big _ (by rw [str_len]; omega), ?_⟩
        refine ⟨_, rfl, p, _, 2, _, rfl, rfl, .inl (.inl h), rfl, x, v, rfl, hk, by omega, fun H2 s2 => ?_⟩
        refine ⟨_, _, rfl, rfl, big _ (by rw [str_len, str_len]; omega), _, _, rfl, rfl, big _ (by rw [str_len, str_len, str_len]; omega), ?_⟩
        have q1 := k H2 s2
        rw [Tree.tell] at q1
        exact q1
      | @pair d w n x v p hw n0 n6 n1 h hk =>
        have hx := tell_le hk
        have hf := il_len n0 n6
        obtain ⟨f1, f2, f3⟩ := word_ne hw
        refine ⟨_, rfl, p, _, 0, _, rfl, rfl, .inl (.inl h), rfl, ?_⟩
        refine ⟨_, rfl, rfl, _, rfl, iteFd f1 ?_⟩
        refine ⟨_, rfl, rfl, _, rfl, iteFd f2 ?_⟩
        refine ⟨_, rfl, rfl, _, rfl, iteFd f3 ?_⟩
        have eS : (S (iL n)).length = (iL n).length := by rw [S_len]
        have hw6 := word_len (w := w)
        have szn : Sz n := Nat.lt_of_le_of_lt (show n.natAbs ≤ 6 by omega) (by decide +kernel)
        have l1 : ("(" : Str).length = 1 := rfl
        have l2 : (")" : Str).length = 1 := rfl
        have l3 : (", " : Str).length = 2 := rfl
        refine ⟨_, rfl, _, _, rfl, rfl, big _ (by omega), ?_⟩
        refine ⟨_, rfl, p, _, 1, _, rfl, rfl, .inl (.inl h), rfl, x, v, rfl, hk, by omega, fun H2 s2 => ?_⟩
        refine ⟨_, _, rfl, rfl, big _ (by rw [str_len]; omega), _, _, rfl, rfl, big _ (by rw [str_len, str_len]; omega), ?_⟩
        refine ⟨_, rfl, p, _, 2, _, rfl, rfl, .inl (.inl (s2 _ _ h)), rfl, _, rfl, Hk.log2_small szn, ?_⟩
        have q1 := k H2 s2
        rw [Tree.tell, ← toS] at q1
        rw [← toS] at eS
        refine ⟨_, _, rfl, rfl, big _ (by rw [str_len, str_len, str_len]; omega), _, _, rfl, rfl, big _ (by rw [str_len, str_len, str_len, str_len]; omega), ?_⟩
        exact q1
end
end K09

namespace K09
open PySem PySem.Spec PyProof.Rows L2 Hk NumM NumT SX
theorem bo_tuple : bootBuiltins "tuple" = some (.type "tuple") := by decide +kernel
/-- so many draws at most -/
def cost (d : Nat) : Nat := 10 * 6 ^ d
theorem cost_succ (d : Nat) : cost (d + 1) = 6 * cost d := by
  unfold cost
  rw [Nat.pow_succ]
  omega
theorem cost_ge (d : Nat) : 10 ≤ cost d := by
  have := six_pos d
  unfold cost
  omega
structure TagsAt (g : Addr) (ts : List (List Nat)) (H : Hp) : Prop where
  at_ : H g = some (.lst (ts.map fun t => .str (S t)))
  nm : ∀ t ∈ ts, Nm t
  ne : 1 ≤ ts.length
  le : ts.length ≤ 12
theorem treeAt_old {a : Addr} {n d : Nat} {t : Tree} {v : V} {H H' : Hp} (I : TreeAt H d t v) (s : SrcAt a n H) (o : Old a H H') : TreeAt H' d t v :=
  I.kp (a := 0) (n := 0) fun b xs h => o _ _ h (fun z => by
    subst z
    obtain ⟨d, e, c, h1, _⟩ := s
    rw [h] at h1
    cases h1)
theorem treeAt_put {l : Addr} {xs : List V} {o : HO} {d : Nat} {t : Tree} {v : V} {H : Hp} (I : TreeAt H d t v) (hl : H l = some (.lst xs)) : TreeAt (upd H l o) d t v :=
  I.kp (a := 0) (n := 0) fun b ys h => by
    rw [upd_ne (ne_of h hl (by intro z; exact nomatch z))]
    exact h
theorem kids_snoc {H : Hp} {d : Nat} {us : List Tree} {xs : List V} {t : Tree} {v : V} (kd : Kids H d us xs) (ht : TreeAt H d t v) : Kids H d (us ++ [t]) (xs ++ [v]) := by
  refine ⟨by simp [kd.1], fun i x u h1 h2 => ?_⟩
  by_cases hi : i < us.length
  · rw [List.getElem?_append_left (by rw [kd.1]; exact hi)] at h1
    rw [List.getElem?_append_left hi] at h2
    exact kd.2 i x u h1 h2
  · rw [List.getElem?_append_right (by have := kd.1; omega)] at h1
    rw [List.getElem?_append_right (by omega)] at h2
    have e : i - xs.length = i - us.length := by rw [kd.1]
    rw [e] at h1
    cases q : i - us.length with
    | zero =>
      rw [q] at h1 h2
      cases h1
      cases h2
      exact ht
    | succ j =>
      rw [q] at h1
      simp at h1
theorem srcAt_put {a l : Addr} {n : Nat} {o : HO} {H : Hp} (s : SrcAt a n H) (h : a ≠ l) : SrcAt a n (upd H l o) := by
  obtain ⟨d, e, c, h1, h2⟩ := s
  exact ⟨d, e, c, by rw [upd_ne h]; exact h1, h2⟩
theorem tags_at {g : Addr} {ts : List (List Nat)} {H : Hp} (tg : TagsAt g ts H) {v : Int} (h0 : 0 ≤ v) (h1 : v < ((ts.map fun t => V.str (S t)).length : Int)) : ∃ l, atI (ts.map fun t => V.str (S t)) v = some (V.str (S l)) ∧ l ∈ ts := by
  obtain ⟨j, rfl⟩ := Int.eq_ofNat_of_zero_le h0
  rw [List.length_map] at h1
  have hj : j < ts.length := by omega
  exact ⟨ts[j], atI_nat (by rw [List.getElem?_map, List.getElem?_eq_getElem hj]; rfl), List.getElem_mem hj⟩
section
variable {P : Program} {w : World} {K : Fr} {mg : Str → Option Value} {base : Heap}
def spTree (d : Nat) : Sp := fun vs H Q _ => ∃ (a g : Addr) (dd room : Int) (n : Nat) (ts : List (List Nat)), vs = [.ref a, .ref g, .int dd, .int room] ∧ dd = d ∧ 1 ≤ d ∧ d ≤ 5 ∧ SrcAt a n H ∧ a ≠ g ∧ TagsAt g ts H ∧ n + cost d < 2 ^ 40 ∧ 1 ≤ room ∧
  ∀ (t : Tree) (v : V) (H' : Hp), TreeAt H' d t v → (t.parts : Int) ≤ room → (∀ l ∈ t.leaves, l ∈ ts) → Old a H H' → SrcAt a (n + cost d) H' → Q v H'
theorem c_tree (T : Tx K mg) : ∀ d : Nat, Cal P w K mg base (d + 3) "_law_tree" (gAd "_law_tree" K) ["_law_source_here", "_law_tags_here", "_law_deep", "_law_room"] (spTree d) := by
  have C_pick := c_pick (P := P) (w := w) (base := base) T
  have C_gain := c_gain (P := P) (w := w) (base := base) T
  have C_parts := c_parts (P := P) (w := w) (base := base) T
  intro d
  induction d with
  | zero =>
    refine cal_of (d := d_l_tree) (N := ["_law_source_here", "_law_tags_here", "_law_deep", "_law_room", "_law_way", "_law_some", "_law_many", "_law_left", "_law_turn", "_law_part", "_law_gain_here"]) (a_l_tree T.c) rfl sc_l_tree (g_l_tree T) (fun _ _ _ _ _ _ us hl => match us, hl with | [_, _, _, _], _ => rfl) (fun vs H Q E h => ?_) (fun cdv A outer s H vs Q E hr h => ?_)
    · obtain ⟨a, g, dd, room, n, ts, rfl, _⟩ := h
      rfl
    · obtain ⟨a, g, dd, room, n, ts, rfl, _, h1, _⟩ := h
      omega
  | succ d ih =>
    refine cal_of (d := d_l_tree) (N := ["_law_source_here", "_law_tags_here", "_law_deep", "_law_room", "_law_way", "_law_some", "_law_many", "_law_left", "_law_turn", "_law_part", "_law_gain_here"]) (a_l_tree T.c) rfl sc_l_tree (g_l_tree T) (fun _ _ _ _ _ _ us hl => match us, hl with | [_, _, _, _], _ => rfl) (fun vs H Q E h => ?_) (fun cdv A outer s H vs Q E hr h => ?_)
    · obtain ⟨a, g, dd, room, n, ts, rfl, _⟩ := h
      rfl
    · obtain ⟨a, g, dd, room, n, ts, rfl, hdd, h1, h5, hs, ag, tg, hn, hroom, k⟩ := h
      have r1 := hr.mono (show 1 ≤ d + 3 by omega)
      refine ⟨_, (pss_cons (ps_set (i := 4) sc_l_tree.nd rfl (.inl rfl) (pe_c C_pick r1 (pa_cons (pv 0) (pa_cons pe_int pa_nil))))
 (pss_cons (ps_if (PW.pt (pw_or (pt_cmpR op_lt (pv 2) pe_int (nomark _)) (pw_or (pt_cmpR op_lt (pv 3) pe_int (nomark _)) (pw_or1 (pt_cmpR op_eq (pv 4) pe_int (nomark _))))))
 (pss_one (ps_ret (pe_tup (pa_cons pe_str (pa_cons (pe_ix ix_list (pv 1) (pe_c C_pick r1 (pa_cons (pv 0) (pa_cons (pe_callB call_len_seq (by rfl) (n_len T) bo_len (pa_cons (pv 1) pa_nil)) pa_nil))) (fun _ _ => rfl)) pa_nil)))))
 pss_nil)
 (pss_cons (ps_if (pt_cmpR op_lt (pv 4) pe_int (nomark _))
 (pss_cons (ps_par3 (i := 5) (j := 6) (l := 7) (by rfl) sc_l_tree.nd rfl rfl rfl (by decide) (by decide) (by decide) rfl rfl rfl (pa_cons (pe_lst pa_nil) (pa_cons (pe_op op_add pe_int (pe_c C_pick r1 (pa_cons (pv 0) (pa_cons pe_int pa_nil)))) (pa_cons (pe_op op_sub (pv 3) pe_int) pa_nil))) (by rfl))
 (pss_cons (ps_for PassesOwn.never rfl (pi_range1 (by rfl) (n_range T) (pa_cons (pv 6) pa_nil)) (pg_name (i := 8) sc_l_tree.nd rfl (.inl rfl))
 (pss_one (ps_if (pt_cmpR op_gt (pv 7) pe_int (nomark _))
 (pss_cons (ps_set (i := 9) sc_l_tree.nd rfl (.inl rfl) (pe_c ih hr (pa_cons (pv 0) (pa_cons (pv 1) (pa_cons (pe_op op_sub (pv 2) pe_int) (pa_cons (pe_callB (call_max2 rfl) (by rfl) (n_max T) bo_max (pa_cons pe_int (pa_cons (pe_op op_fdivW (pv 7) (pe_op op_sub (pv 6) (pv 8))) pa_nil))) pa_nil))))))
 (pss_cons (ps_expr (pe_bm PySem.F.plainAttrs_list PySem.F.slot_list_append PySem.F.type_list_append mt_append (pv 5) (pa_cons (pv 9) pa_nil)))
 (pss_one (ps_set (i := 7) sc_l_tree.nd rfl (.inl rfl) (pe_op op_sub (pv 7) (pe_c (C_parts d) (hr.mono (by omega)) (pa_cons (pv 9) pa_nil)))))))
 pss_nil)))
 (pss_one (ps_ret (pe_callTy call_tuple_of (by rfl) (n_tuple T) bo_tuple (pa_cons (pe_op op_cat (pe_lst (pa_cons pe_str pa_nil)) (pv 5)) pa_nil))))))
 pss_nil)
 (pss_cons (ps_if (pt_cmpR op_lt (pv 4) pe_int (nomark _))
 (pss_cons (ps_set (i := 10) sc_l_tree.nd rfl (.inl rfl) (pe_c C_gain (hr.mono (by omega)) (pa_cons (pv 0) pa_nil)))
 (pss_one (ps_ret (pe_tup (pa_cons pe_str (pa_cons (pv 10) (pa_cons (pe_c ih hr (pa_cons (pv 0) (pa_cons (pv 1) (pa_cons (pe_op op_sub (pv 2) pe_int) (pa_cons (pe_op op_sub (pv 3) pe_int) pa_nil))))) pa_nil)))))))
 pss_nil)
 (pss_cons (ps_set (i := 9) sc_l_tree.nd rfl (.inl rfl) (pe_c ih hr (pa_cons (pv 0) (pa_cons (pv 1) (pa_cons (pe_op op_sub (pv 2) pe_int) (pa_cons (pe_op op_sub (pv 3) pe_int) pa_nil))))))
 (pss_cons (ps_if (pt_cmpR op_eq (pv 4) pe_int (nomark _))
 (pss_one (ps_ret (pe_tup (pa_cons pe_str (pa_cons (pv 9) (pa_cons (pe_c C_pick r1 (pa_cons (pv 0) (pa_cons pe_int pa_nil))) pa_nil))))))
 pss_nil)
 (pss_one (ps_ret (pe_tup (pa_cons (pe_ix ix_list (pe_lst (pa_cons pe_str (pa_cons pe_str pa_nil))) (pe_op op_sub (pv 4) pe_int) (fun _ _ => rfl)) (pa_cons (pv 9) (pa_cons (pe_op op_add pe_int (pe_c C_pick r1 (pa_cons (pv 0) (pa_cons pe_int pa_nil)))) pa_nil)))))))))))), ?_⟩
      have cs := cost_succ d
      have cg := cost_ge d
      refine ⟨_, rfl, a, 9, n, rfl, hs, by omega, by decide, by decide, fun v H1 v0 v1 o1 s1 => ?_⟩
      have hg1 := o1 _ _ tg.at_ (Ne.symm ag)
      have tl := tg.le
      have tn := tg.ne
      refine ⟨_, rfl, _, _, rfl, rfl, _, rfl, ?_⟩
      refine ite2 (fun z1 => ?_) (fun z1 => ?_)
      · refine iteT ?_
        refine ⟨_, rfl, _, rfl, _, rfl, g, _, rfl, .inl (.inl (.inl hg1)), a, _, n + 1, rfl, s1, by omega, by rw [List.length_map]; omega, by rw [List.length_map]; omega, fun v2 H2 v20 v21 o2 s2 => ?_⟩
        obtain ⟨l, hl, lm⟩ := tags_at tg v20 v21
        refine ⟨g, _, _, _, rfl, rfl, .inl (.inl (o2 _ _ hg1 (Ne.symm ag))), hl, (by show 2 ≤ sizeLine; decide), fun p np => ?_⟩
        exact k (.name l) (.ref p) _ (.name (tg.nm l lm) upd_same) (by rw [parts_eq]; simp [Tree.kids]; omega) (fun l' h' => by rw [Tree.leaves] at h'; rw [List.mem_singleton.mp h']; exact lm) ((o1.trans o2).trans (Old.new np)) ((s2.same (same_upd np)).le (by omega))
      refine ⟨_, rfl, _, _, rfl, rfl, _, rfl, ?_⟩
      refine ite2 (fun z2 => ?_) (fun z2 => ?_)
      · refine iteT ?_
        refine ⟨_, rfl, _, rfl, _, rfl, g, _, rfl, .inl (.inl (.inl hg1)), a, _, n + 1, rfl, s1, by omega, by rw [List.length_map]; omega, by rw [List.length_map]; omega, fun v2 H2 v20 v21 o2 s2 => ?_⟩
        obtain ⟨l, hl, lm⟩ := tags_at tg v20 v21
        refine ⟨g, _, _, _, rfl, rfl, .inl (.inl (o2 _ _ hg1 (Ne.symm ag))), hl, (by show 2 ≤ sizeLine; decide), fun p np => ?_⟩
        exact k (.name l) (.ref p) _ (.name (tg.nm l lm) upd_same) (by rw [parts_eq]; simp [Tree.kids]; omega) (fun l' h' => by rw [Tree.leaves] at h'; rw [List.mem_singleton.mp h']; exact lm) ((o1.trans o2).trans (Old.new np)) ((s2.same (same_upd np)).le (by omega))
      refine ⟨_, rfl, rfl, _, rfl, ?_⟩
      refine ite2 (fun z3 => ?_) (fun z3 => ?_)
      · refine ⟨_, rfl, _, rfl, _, rfl, g, _, rfl, .inl (.inl (.inl hg1)), a, _, n + 1, rfl, s1, by omega, by rw [List.length_map]; omega, by rw [List.length_map]; omega, fun v2 H2 v20 v21 o2 s2 => ?_⟩
        obtain ⟨l, hl, lm⟩ := tags_at tg v20 v21
        refine ⟨g, _, _, _, rfl, rfl, .inl (.inl (o2 _ _ hg1 (Ne.symm ag))), hl, (by show 2 ≤ sizeLine; decide), fun p np => ?_⟩
        exact k (.name l) (.ref p) _ (.name (tg.nm l lm) upd_same) (by rw [parts_eq]; simp [Tree.kids]; omega) (fun l' h' => by rw [Tree.leaves] at h'; rw [List.mem_singleton.mp h']; exact lm) ((o1.trans o2).trans (Old.new np)) ((s2.same (same_upd np)).le (by omega))
      have d1 : 1 ≤ d := by
        have : ¬ (dd < 2) := fun q => z1 (decide_eq_true q)
        omega
      have r2 : 2 ≤ room := by
        have : ¬ (room < 2) := fun q => z2 (decide_eq_true q)
        omega
      refine ⟨_, rfl, _, _, rfl, rfl, _, rfl, ?_⟩
      refine ite2 (fun z4 => ?_) (fun z4 => ?_)
      · refine ⟨(by show 0 ≤ sizeLine; decide), fun l nl => ?_⟩
        have sl := same_upd (o := .lst []) nl
        have al : a ≠ l := by
          obtain ⟨_, _, _, y1, _⟩ := s1
          exact ne_of_none y1 nl
        have gl : g ≠ l := ne_of_none hg1 nl
        have Hl : H l = none := by
          cases e : H l with
          | none => rfl
          | some o =>
            have := o1 _ _ e (Ne.symm al)
            rw [nl] at this
            cases this
        refine ⟨_, rfl, a, 5, n + 1, rfl, s1.same sl, by omega, by decide, by decide, fun v3 H3 v30 v31 o3 s3 => ?_⟩
        refine ⟨_, _, rfl, rfl, _, rfl, _, _, rfl, rfl, _, _, _, rfl, ?_⟩
        refine ⟨_, rfl, _, rfl, by omega, by omega, ?_⟩
        refine for_range (lo := 0) (n := (1 + v3).toNat) (fun i σ H' => ∃ (xs : List V) (us : List Tree) (left : Int) (x8 x9 : Option V), H' l = some (.lst xs) ∧ Kids H' d us xs ∧ us.length ≤ i ∧ (((us.map Tree.parts).sum : Nat) : Int) + left = room - 1 ∧ 0 ≤ left ∧ (1 ≤ i → 1 ≤ us.length) ∧ (∀ u ∈ us, ∀ m ∈ u.leaves, m ∈ ts) ∧ Old a H H' ∧ SrcAt a (n + 2 + i * cost d) H' ∧ H' g = some (.lst (ts.map fun t => .str (S t))) ∧
          σ = [some (.ref a), some (.ref g), some (.int dd), some (.int room), some (.int v), some (.ref l), some (.int (1 + v3)), some (.int left), x8, x9, none])
          ⟨[], [], room - 1, none, none, o3 _ _ upd_same (Ne.symm al), ⟨rfl, fun i x t h => by simp at h⟩, by simp, by simp, by omega, fun h => absurd h (by decide), (fun u h => absurd h List.not_mem_nil), (o1.trans (Old.same sl)).trans o3, by rw [Nat.zero_mul]; exact s3, o3 _ _ (sl _ _ hg1) (Ne.symm ag), rfl⟩ ?_ ?_
        · rintro i σ H' hi ⟨xs, us, left, x8, x9, hl', kd, ul, hsum, hleft, hne, hlv, oo, ss, hg', rfl⟩
          have ci : i * cost d ≤ 4 * cost d := Nat.mul_le_mul_right _ (by omega)
          have ci1 : (i + 1) * cost d = i * cost d + cost d := by rw [Nat.add_mul, Nat.one_mul]
          refine ⟨_, rfl, _, _, rfl, rfl, _, rfl, ?_⟩
          refine ite2 (fun y1 => ?_) (fun y1 => ?_)
          · have hp0 : 0 < left := of_decide_eq_true y1
            have den : (0 : Int) < 1 + v3 - (0 + (i : Int)) := by omega
            have q0 : left / (1 + v3 - (0 + (i : Int))) ≤ left := Int.ediv_le_self _ hleft
            refine ⟨_, rfl, _, rfl, _, rfl, _, _, rfl, rfl, _, rfl, _, rfl, _, rfl, _, _, rfl, rfl, _, _, rfl, rfl, wide_div (b := 4) den (by omega) (by decide) (by decide), _, _, rfl, a, g, _, _, n + 2 + i * cost d, ts, rfl, by omega, d1, by omega, ss, ag, ⟨hg', tg.nm, tn, tl⟩, by omega, ?_, fun t' v' H4 ht' hp' hlv' o4 s4 => ?_⟩
            · split <;> omega
            have hp2 : (t'.parts : Int) ≤ left := by
              refine Int.le_trans hp' ?_
              split <;> omega
            have hl4 := o4 _ _ hl' (Ne.symm al)
            have hg4 := o4 _ _ hg' (Ne.symm ag)
            refine ⟨_, rfl, .inl ⟨rfl, _, .inl (.inl hl4)⟩, _, rfl, l, xs, v', rfl, rfl, hl4, ?_, ?_⟩
            · have := kd.1
              exact Nat.lt_of_lt_of_le (show xs.length < 1000 by omega) (by decide)
            refine ⟨_, rfl, _, rfl, t', v', rfl, treeAt_put ht' hl4, fun H6 s6 => ⟨_, _, rfl, rfl, ?_⟩⟩
            refine ⟨xs ++ [v'], us ++ [t'], left - t'.parts, some (.int (0 + (i : Int))), some v', s6 _ _ upd_same, ?_, by simp; omega, ?_, by omega, fun _ => by simp, ?_, fun b o hb hn => ?_, ?_, s6 _ _ (by rw [upd_ne gl]; exact hg4), rfl⟩
            · exact kids_snoc ⟨kd.1, fun j x t h1 h2 => (treeAt_put (treeAt_old (kd.2 j x t h1 h2) ss o4) hl4).same s6⟩ ((treeAt_put ht' hl4).same s6)
            · rw [List.map_append, List.sum_append]
              simp
              omega
            · intro u hu m hm
              rcases List.mem_append.mp hu with h | h
              · exact hlv u h m hm
              · rw [List.mem_singleton.mp h] at hm
                exact hlv' m hm
            · refine s6 _ _ ?_
              rw [upd_ne (ne_of_none hb Hl)]
              exact o4 _ _ (oo _ _ hb hn) hn
            · have z := (srcAt_put (o := .lst (xs ++ [v'])) s4 al).same s6
              exact z.le (by omega)
          · have y2 : ¬ (0 < left) := fun q => y1 (decide_eq_true q)
            refine ⟨xs, us, left, some (.int (0 + (i : Int))), x9, hl', kd, by omega, hsum, hleft, fun _ => ?_, hlv, oo, ss.le (by omega), hg', rfl⟩
            rcases Nat.eq_zero_or_pos i with e | e
            · subst e
              have : us = [] := List.length_eq_zero_iff.mp (by omega)
              subst this
              simp at hsum
              omega
            · exact hne e
        · rintro σ H' ⟨xs, us, left, x8, x9, hl', kd, ul, hsum, hleft, hne, hlv, oo, ss, hg', rfl⟩
          have n5 : us.length ≤ 5 := by omega
          have ci : (1 + v3).toNat * cost d ≤ 5 * cost d := Nat.mul_le_mul_right _ (by omega)
          have m1 := hne (by omega)
          refine ⟨(by show 1 ≤ sizeLine; decide), fun q nq => ?_⟩
          have sq := same_upd (o := .lst [.str "sum"]) nq
          refine ⟨_, rfl, q, l, [.str "sum"], xs, rfl, rfl, upd_same, sq _ _ hl', ?_, fun c nc => ?_⟩
          · have := kd.1
            exact Nat.le_trans (show 1 + xs.length ≤ 1000 by omega) (by decide)
          · have sc := same_upd (o := .lst ([.str "sum"] ++ xs)) nc
            refine ⟨c, _, rfl, .inl ⟨.inl (.inl upd_same), fun p np => ?_⟩⟩
            have sp := same_upd (o := .tup ([.str "sum"] ++ xs)) np
            have S3 := (sq.trans sc).trans sp
            refine k (.sum us) (.ref p) _ (.sum upd_same m1 n5 kd.1 (fun i x t h1 h2 => (kd.2 i x t h1 h2).same S3)) ?_ (fun m hm => ?_) (oo.trans (Old.same S3)) ((ss.same S3).le (by omega))
            · rw [parts_eq, Tree.kids]
              omega
            · rw [leaves_eq (fun l => by simp), Tree.kids] at hm
              obtain ⟨ll, h1, h2⟩ := List.mem_flatten.mp hm
              obtain ⟨u, h3, rfl⟩ := List.mem_map.mp h1
              exact hlv u h3 m h2
      refine ⟨_, rfl, _, _, rfl, rfl, _, rfl, ?_⟩
      refine ite2 (fun z5 => ?_) (fun z5 => ?_)
      · refine ⟨_, rfl, a, n + 1, rfl, s1, by omega, fun p t b H2 ok o2 s2 hp => ?_⟩
        have hg2 := o2 _ _ hg1 (Ne.symm ag)
        refine ⟨_, rfl, _, rfl, _, rfl, _, rfl, _, _, rfl, rfl, _, rfl, _, _, rfl, rfl, a, g, _, _, n + 1 + 3, ts, rfl, by omega, d1, by omega, s2, ag, ⟨hg2, tg.nm, tn, tl⟩, by omega, by omega, fun t' v' H3 ht' hp' hl' o3 s3 => ?_⟩
        refine ⟨(by show 3 ≤ sizeLine; decide), fun q nq => ?_⟩
        have ap : p ≠ a := fun z => by
          subst z
          obtain ⟨_, _, _, y1, _⟩ := s2
          rw [hp] at y1
          cases y1
        have sq := same_upd (o := .tup [.str "times", .ref p, v']) nq
        refine k (.times t b t') (.ref q) _ (.times ok upd_same (sq _ _ (o3 _ _ hp ap)) (ht'.same sq)) (by rw [parts_eq]; simp [Tree.kids]; omega) (fun l' h' => by rw [Tree.leaves] at h'; exact hl' l' h') (((o1.trans o2).trans o3).trans (Old.new nq)) ((s3.same sq).le (by omega))
      refine ⟨_, rfl, _, rfl, _, rfl, _, _, rfl, rfl, _, rfl, _, _, rfl, rfl, a, g, _, _, n + 1, ts, rfl, by omega, d1, by omega, s1, ag, ⟨hg1, tg.nm, tn, tl⟩, by omega, by omega, fun t' v' H3 ht' hp' hl' o3 s3 => ?_⟩
      refine ⟨_, rfl, rfl, _, rfl, ?_⟩
      refine ite2 (fun z6 => ?_) (fun z6 => ?_)
      · refine ⟨_, rfl, _, rfl, a, 7, n + 1 + cost d, rfl, s3, by omega, by decide, by decide, fun v2 H2 v20 v21 o2 s2 => ?_⟩
        refine ⟨(by show 3 ≤ sizeLine; decide), fun q nq => ?_⟩
        have sq := same_upd (o := .tup [.str "late", v', .int v2]) nq
        exact k (.pair 2 t' v2) (.ref q) _ (.pair (by decide) v20 (by omega) (fun z => absurd z (by decide)) upd_same ((treeAt_old ht' s3 o2).same sq)) (by rw [parts_eq]; simp [Tree.kids]; omega) (fun l' h' => by rw [Tree.leaves] at h'; exact hl' l' h') (((o1.trans o3).trans o2).trans (Old.new nq)) ((s2.same sq).le (by omega))
      · have v78 : v = 7 ∨ v = 8 := by
          have a1 : ¬ (v < 4) := fun q => z4 (decide_eq_true q)
          have a2 : ¬ (v < 6) := fun q => z5 (decide_eq_true q)
          have a3 : v ≠ 6 := fun q => z6 (decide_eq_true (by rw [q]))
          omega
        rcases v78 with rfl | rfl
        · refine ⟨(by show 2 ≤ sizeLine; decide), fun w nw => ?_⟩
          have sw := same_upd (o := .lst [.str "every", .str "spread"]) nw
          refine ⟨_, rfl, _, _, rfl, rfl, w, _, _, V.str "every", rfl, rfl, .inl (.inl upd_same), rfl, _, rfl, _, rfl, a, 6, n + 1 + cost d, rfl, s3.same sw, by omega, by decide, by decide, fun v2 H2 v20 v21 o2 s2 => ?_⟩
          refine ⟨_, _, rfl, rfl, (by show 3 ≤ sizeLine; decide), fun q nq => ?_⟩
          have sq := same_upd (o := .tup [.str "every", v', .int (1 + v2)]) nq
          exact k (.pair 0 t' (1 + v2)) (.ref q) _ (.pair (by decide) (by omega) (by omega) (fun _ => by omega) upd_same ((treeAt_old (ht'.same sw) (s3.same sw) o2).same sq)) (by rw [parts_eq]; simp [Tree.kids]; omega) (fun l' h' => by rw [Tree.leaves] at h'; exact hl' l' h') ((((o1.trans o3).trans (Old.same sw)).trans o2).trans (Old.new nq)) ((s2.same sq).le (by omega))
        · refine ⟨(by show 2 ≤ sizeLine; decide), fun w nw => ?_⟩
          have sw := same_upd (o := .lst [.str "every", .str "spread"]) nw
          refine ⟨_, rfl, _, _, rfl, rfl, w, _, _, V.str "spread", rfl, rfl, .inl (.inl upd_same), rfl, _, rfl, _, rfl, a, 6, n + 1 + cost d, rfl, s3.same sw, by omega, by decide, by decide, fun v2 H2 v20 v21 o2 s2 => ?_⟩
          refine ⟨_, _, rfl, rfl, (by show 3 ≤ sizeLine; decide), fun q nq => ?_⟩
          have sq := same_upd (o := .tup [.str "spread", v', .int (1 + v2)]) nq
          exact k (.pair 1 t' (1 + v2)) (.ref q) _ (.pair (by decide) (by omega) (by omega) (fun _ => by omega) upd_same ((treeAt_old (ht'.same sw) (s3.same sw) o2).same sq)) (by rw [parts_eq]; simp [Tree.kids]; omega) (fun l' h' => by rw [Tree.leaves] at h'; exact hl' l' h') ((((o1.trans o3).trans (Old.same sw)).trans o2).trans (Old.new nq)) ((s2.same sq).le (by omega))
end
end K09

namespace K09
open PySem PySem.Spec PyProof.Rows L2 Hk NumM NumT SX
/-- of more different things than others, one is none of these -/
theorem fresh_of {α : Type} [DecidableEq α] : ∀ (l f : List α), l.Nodup → f.length < l.length → ∃ x ∈ l, x ∉ f
  | [], f, _, h => absurd h (by simp)
  | a :: r, f, nd, h => by
    by_cases ha : a ∈ f
    · have nd' := List.nodup_cons.mp nd
      have h2 : (f.erase a).length < r.length := by
        have := List.length_erase_of_mem ha
        have : 0 < f.length := List.length_pos_of_mem ha
        simp only [List.length_cons] at h
        omega
      obtain ⟨x, hx, hn⟩ := fresh_of r (f.erase a) nd'.2 h2
      refine ⟨x, List.mem_cons_of_mem _ hx, fun q => hn ?_⟩
      have xa : x ≠ a := fun e => nd'.1 (e ▸ hx)
      exact (List.mem_erase_of_ne xa).mpr q
    · exact ⟨a, List.mem_cons_self, ha⟩
theorem signs_nd : signsL.Nodup := by decide +kernel
/-- the first seven and a sign -/
def cand (t : List Nat) (c : Nat) : List Nat := t.take 7 ++ [c]
theorem cand_nm {t : List Nat} {c : Nat} (h : Nm t) (hc : c ∈ signsL) : Nm (cand t c) := by
  have h1 := h.lo
  have e : (t.take 7)[0]? = t[0]? := by
    rw [List.getElem?_take]
    rfl
  have hl : 0 < (t.take 7).length := by
    rw [List.length_take]
    omega
  refine ⟨?_, ?_, fun d hd => ?_, fun d hd => ?_⟩
  · unfold cand
    simp
  · unfold cand
    rw [List.length_append, List.length_take, List.length_singleton]
    omega
  · unfold cand at hd
    rw [List.getElem?_append_left hl, e] at hd
    exact h.hd d hd
  · unfold cand at hd
    rcases List.mem_append.mp hd with q | q
    · exact h.al d (List.mem_of_mem_take q)
    · rw [List.mem_singleton.mp q]
      exact hc
/-- the names that may be taken -/
def cands (t : List Nat) : List (List Nat) := t :: signsL.map (cand t)
theorem cands_nm {t : List Nat} (h : Nm t) : ∀ x ∈ cands t, Nm x := fun x hx => by
  rcases List.mem_cons.mp hx with rfl | q
  · exact h
  · obtain ⟨c, hc, rfl⟩ := List.mem_map.mp q
    exact cand_nm h hc
theorem cands_fresh {t : List Nat} {f : List (List Nat)} (hf : f.length ≤ 12) : ∃ x ∈ cands t, x ∉ f := by
  have nd : (signsL.map (cand t)).Nodup := by
    refine List.pairwise_map.mpr (List.Pairwise.imp (fun {a b} h e => h ?_) signs_nd)
    have := List.append_cancel_left e
    simpa using this
  obtain ⟨x, hx, hn⟩ := fresh_of (signsL.map (cand t)) f nd (by rw [List.length_map, signs_len]; omega)
  exact ⟨x, List.mem_cons_of_mem _ hx, hn⟩
theorem cut7 (t : List Nat) : cutS (S t) none (some 7) = S (t.take 7) := by
  have h : (S t).length = t.length := by rw [S_len]
  unfold cutS
  rw [HT.sIx_none, show (some (7 : Int)) = some ((7 : Nat) : Int) from rfl, HT.sIx_nat, h, Nat.sub_zero, List.drop_zero]
  have e : (S t).cps.toList = t := by simp
  rw [e]
  have : t.take (min 7 t.length) = t.take 7 := by
    rw [Nat.min_def]
    split
    · rfl
    · rw [List.take_length, List.take_of_length_le (by omega)]
  rw [this]
theorem S_inj {x y : List Nat} (h : S x = S y) : x = y := by
  have := congrArg (fun z : Str => z.cps.toList) h
  simpa using this
theorem sign_small : ∀ c ∈ signsL, c < 128 := by decide +kernel
theorem nm_asc {t : List Nat} (h : Nm t) : Asc (S t) := S_asc fun c hc => sign_small c (h.al c hc)
def strD (t : List Nat) : PyData := .str (S t)
theorem any_eqv {ts : List (List Nat)} {x : List Nat} : ((ts.map strD).any fun z => PyData.eqv z (strD x)) = decide (x ∈ ts) := by
  induction ts with
  | nil => rfl
  | cons t r ih =>
    rw [List.map_cons, List.any_cons, ih]
    by_cases h : t = x
    · subst h
      simp [strD, PyData.eqv]
    · have : PyData.eqv (strD t) (strD x) = false := by
        have : S t ≠ S x := fun e => h (S_inj e)
        simp [strD, PyData.eqv, this]
      rw [this, Bool.false_or]
      simp [List.mem_cons, Ne.symm h]
theorem strs_shaped {ts : List (List Nat)} (h : ∀ t ∈ ts, Nm t) : SeqAt.shaped (.list (ts.map strD)) = true := by
  have h1 : PyData.canLayAll0 (ts.map strD) = true := by
    induction ts with
    | nil => rfl
    | cons t r ih =>
      have a := (nm_asc (h t List.mem_cons_self)).ok
      have b := ih fun x hx => h x (List.mem_cons_of_mem _ hx)
      simp [PyData.canLayAll0, PyData.canLay0, strD, a] at b ⊢
      exact b
  have h2 : PyData.depthAll (ts.map strD) ≤ 1 := by
    clear h1 h
    induction ts with
    | nil => simp [PyData.depthAll]
    | cons t r ih =>
      simp [PyData.depthAll, PyData.depth, strD] at ih ⊢
      try omega
  simp [SeqAt.shaped, PyData.canLay0, PyData.depth, h1]
  omega
theorem str_shaped {t : List Nat} (h : Nm t) : SeqAt.shaped (strD t) = true := by
  have := (nm_asc h).ok
  simp [SeqAt.shaped, strD, PyData.canLay0, PyData.depth, this]
theorem dp_names {K : Fr} {H : Hp} : ∀ ts : List (List Nat), DpAll K H (ts.map fun t => V.str (S t)) (ts.map strD)
  | [] => .nil
  | t :: r => .cons (.str _) (dp_names r)
section
variable {P : Program} {w : World} {K : Fr} {mg : Str → Option Value} {base : Heap}
def spTags : Sp := fun vs H Q _ => ∃ (a : Addr) (m : Int) (n : Nat), vs = [.ref a, .int m] ∧ 1 ≤ m ∧ m ≤ 12 ∧ SrcAt a n H ∧ n + 200 < 2 ^ 40 ∧ ∀ (g : Addr) (ts : List (List Nat)) (H' : Hp), TagsAt g ts H' → H g = none → (ts.length : Int) = m → Old a H H' → SrcAt a (n + 120) H' → Q (.ref g) H'
theorem c_tags (T : Tx K mg) : Cal P w K mg base 3 "_law_tags" (gAd "_law_tags" K) ["_law_source_here", "_law_many"] spTags := by
  have C_tag := c_tag (P := P) (w := w) (base := base) T
  refine cal_of (d := d_l_tags) (N := ["_law_source_here", "_law_many", "_law_signs", "_law_found", "_law_turn", "_law_tag_here", "_law_some", "_law_sign", "_law_each"]) (a_l_tags T.c) rfl sc_l_tags (g_l_tags T) (fun _ _ _ _ _ _ us hl => match us, hl with | [_, _], _ => rfl) (fun vs H Q E h => ?_) (fun cdv A outer s H vs Q E hr h => ?_)
  · obtain ⟨a, m, n, rfl, _⟩ := h
    rfl
  · obtain ⟨a, m, n, rfl, m0, m1, hs, hn, k⟩ := h
    have hu : (A.deeper (envOfC d_l_tags.ql (defScope d_l_tags.st) s.heap.objs.size (d_l_tags.ad K) cdv)).units + 65 < cLine := by
      have := hr.un
      omega
    refine ⟨_, (pss_cons (ps_set (i := 2) sc_l_tags.nd rfl (.inl rfl) pe_str)
 (pss_cons (ps_set (i := 3) sc_l_tags.nd rfl (.inr rfl) (pe_lst pa_nil))
 (pss_cons (ps_for PassesOwn.never rfl (pi_range1 (by rfl) (n_range T) (pa_cons (pv 1) pa_nil)) (pg_name (i := 4) sc_l_tags.nd rfl (.inl rfl))
 (pss_cons (ps_set (i := 5) sc_l_tags.nd rfl (.inr rfl) (pe_c C_tag hr (pa_cons (pv 0) pa_nil)))
 (pss_cons (ps_set (i := 6) sc_l_tags.nd rfl (.inl rfl) (pe_op op_cat (pe_lst (pa_cons (pv 5) pa_nil)) (pe_lc (own := [("_law_sign", 7)]) (g := gName 7) (tt := tYes) rfl sc_l_tags.nd (pi_str (pv 2)) (blkOk_by (N := ["_law_source_here", "_law_many", "_law_signs", "_law_found", "_law_turn", "_law_tag_here", "_law_some", "_law_sign", "_law_each"]) (sc := defScope s_l_tags) (by decide +kernel)) (fun _ _ _ _ _ => pg_name (i := 7) sc_l_tags.nd rfl (.inl rfl)) (fun _ _ _ _ _ => pts_nil) (fun _ _ _ _ _ => (pe_op op_add_str (pe_slice sl_str (pv 5) po_none (po_some pe_int)) (pv 7))))))
 (pss_one (ps_expr (pe_bm PySem.F.plainAttrs_list PySem.F.slot_list_append PySem.F.type_list_append mt_append (pv 3) (pa_cons (pe_ix ix_list (pe_lc (own := [("_law_each", 8)]) (g := gName 8) rfl sc_l_tags.nd (pi_list (pv 6)) (blkOk_by (N := ["_law_source_here", "_law_many", "_law_signs", "_law_found", "_law_turn", "_law_tag_here", "_law_some", "_law_sign", "_law_each"]) (sc := defScope s_l_tags) (by decide +kernel)) (fun _ _ _ _ _ => pg_name (i := 8) sc_l_tags.nd rfl (.inl rfl)) (fun _ _ _ _ _ => (pts_one (pt_cmpR (op_notInD (by exact hu) : OpR _ _ (rNotInD K)) (pv 8) (pv 3) (by rfl)))) (fun _ _ _ _ _ => (pv 8))) pe_int (fun _ _ => rfl)) pa_nil)))))))
 (pss_one (ps_ret (pv 3)))))), ?_⟩
    refine ⟨(by show 0 ≤ sizeLine; decide), fun g ng => ?_⟩
    have sg := same_upd (o := .lst []) ng
    have ag := hs.ne ng
    refine ⟨_, rfl, _, rfl, by omega, by omega, ?_⟩
    refine for_range (lo := 0) (n := m.toNat) (fun i σ H' => ∃ (ts : List (List Nat)) (x4 x5 x6 x7 x8 : Option V), H' g = some (.lst (ts.map fun t => .str (S t))) ∧ (∀ t ∈ ts, Nm t) ∧ ts.length = i ∧ Old a H H' ∧ SrcAt a (n + 10 * i) H' ∧
      σ = [some (.ref a), some (.int m), some (.str signsZ), some (.ref g), x4, x5, x6, x7, x8]) ⟨[], none, none, none, none, none, upd_same, fun t h => absurd h List.not_mem_nil, rfl, Old.same sg, hs.same sg, rfl⟩ ?_ ?_
    · rintro i σ H' hi ⟨ts, x4, x5, x6, x7, x8, hg, nm, tl, oo, ss, rfl⟩
      refine ⟨_, rfl, a, n + 10 * i, rfl, ss, by omega, fun t H1 nt o1 s1 => ?_⟩
      have hg1 := o1 _ _ hg (Ne.symm ag)
      refine ⟨_, rfl, (by show 1 ≤ sizeLine; decide), fun q nq => ?_⟩
      refine ⟨_, rfl, signsZ, rfl, fun D nD => ?_⟩
      refine lc_fnS (z := signsZ) (fun c => .str (S (cand t c))) nD (by decide +kernel) (fun c hc H2 R s2 qq => ?_) (fun H2 s2 hD => ?_)
      · refine ⟨_, rfl, 7, rfl, S t, rfl, ?_, _, rfl, _, ⟨#[c]⟩, rfl, rfl, ?_, ?_⟩
        · rw [S_len]
          exact line_ge (by have := nt.hi; omega)
        · rw [cut7, S_len]
          exact line_ge (by rw [List.length_take]; show min 7 t.length + 1 ≤ _; omega)
        · rw [cut7]
          have e : S (t.take 7) ++ (⟨#[c]⟩ : Str) = S (cand t c) := by
            unfold cand
            rw [← S_cat]
          rw [e]
          exact qq _ (Same.refl _)
      · refine ⟨q, D, [.str (S t)], _, rfl, rfl, s2 _ _ upd_same, hD, ?_, fun l nl => ?_⟩
        · rw [List.length_map]
          exact Nat.le_trans (show 1 + signsZ.cps.toList.length ≤ 1000 by decide +kernel) (by decide)
        · have sl := same_upd (o := .lst ([V.str (S t)] ++ signsZ.cps.toList.map fun c => V.str (S (cand t c)))) nl
          have hl : upd H2 l (.lst ([V.str (S t)] ++ signsZ.cps.toList.map fun c => V.str (S (cand t c)))) l = some (.lst ((cands t).map fun x => V.str (S x))) := by
            rw [upd_same]
            unfold cands
            rw [List.map_cons, List.map_map]
            rfl
          have S3 := ((same_upd (o := .lst [V.str (S t)]) nq).trans s2).trans sl
          have hg3 := S3 _ _ hg1
          have ss3 := s1.same S3
          generalize upd H2 l (.lst ([V.str (S t)] ++ signsZ.cps.toList.map fun c => V.str (S (cand t c)))) = H3 at *
          refine ⟨_, rfl, .inl ⟨rfl, _, .inl (.inl hg3)⟩, _, rfl, l, rfl, ⟨_, .inl (.inl hl)⟩, fun D2 nD2 => ?_⟩
          refine lc_list (a := l) (xs := (cands t).map fun x => V.str (S x)) (fun j H' => Same H3 H' ∧ H' D2 = some (.lst ((((cands t).take j).filter fun x => !decide (x ∈ ts)).map fun x => V.str (S x)))) ⟨same_upd nD2, upd_same⟩ (fun j H' _ h => .inl (.inl (h.1 _ _ hl))) ?_ ?_
          · rintro j x H4 hx ⟨s4, hD4⟩
            rw [List.getElem?_map] at hx
            obtain ⟨y, hy, rfl⟩ := Option.map_eq_some_iff.mp hx
            have ny := cands_nm nt y (List.mem_of_getElem? hy)
            refine ⟨rfl, ?_⟩
            refine ⟨_, rfl, _, rfl, strD y, ts.map strD, .str _, .lst (.inl (.inl (s4 _ _ hg3))) (dp_names ts), str_shaped ny, strs_shaped nm, ?_⟩
            rw [any_eqv]
            have tk : (((cands t).take (j + 1)).filter fun x => !decide (x ∈ ts)) = (((cands t).take j).filter fun x => !decide (x ∈ ts)) ++ ([y].filter fun x => !decide (x ∈ ts)) := by
              rw [List.take_add_one, hy, List.filter_append]
              rfl
            refine ⟨_, rfl, ?_⟩
            by_cases hm : y ∈ ts
            · rw [decide_eq_true hm]
              refine iteF ⟨s4, ?_⟩
              rw [tk, hD4]
              simp [hm]
            · rw [decide_eq_false hm]
              refine iteT ⟨_, rfl, _, hD4, ?_, same_upd' s4 nD2, ?_⟩
              · rw [List.length_map]
                refine Nat.lt_of_le_of_lt (List.length_filter_le _ _) ?_
                rw [List.length_take]
                have : (cands t).length = 37 := by
                  unfold cands
                  rw [List.length_cons, List.length_map, signs_len]
                exact Nat.lt_of_le_of_lt (show min j (cands t).length ≤ 37 by omega) (by decide)
              · rw [upd_same, tk]
                simp [hm]
          · rintro H4 ⟨s4, hD4⟩
            rw [List.length_map, List.take_length] at hD4
            obtain ⟨x, hx, hn⟩ := cands_fresh (t := t) (f := ts) (by omega)
            have hf : x ∈ (cands t).filter fun x => !decide (x ∈ ts) := List.mem_filter.mpr ⟨hx, by simp [hn]⟩
            have hall : ∀ y ∈ (cands t).filter fun x => !decide (x ∈ ts), Nm y := fun y hy => cands_nm nt y (List.mem_filter.mp hy).1
            generalize (cands t).filter (fun x => !decide (x ∈ ts)) = fl at hD4 hf hall
            cases fl with
            | nil => exact absurd hf List.not_mem_nil
            | cons y r =>
              have hg4 := s4 _ _ hg3
              refine ⟨D2, _, 0, .str (S y), rfl, rfl, .inl (.inl hD4), atI_nat (j := 0) rfl, g, _, .str (S y), rfl, rfl, hg4, ?_, ?_⟩
              · rw [List.length_map]
                exact Nat.lt_of_le_of_lt (show ts.length ≤ 12 by omega) (by decide)
              · refine ⟨ts ++ [y], some (.int (0 + (i : Int))), some (.str (S t)), some (.ref l), x7, x8, ?_, fun z hz => ?_, by simp; omega, fun b o hb hn => ?_, ?_, rfl⟩
                · rw [upd_same, List.map_append]
                  rfl
                · rcases List.mem_append.mp hz with q | q
                  · exact nm z q
                  · rw [List.mem_singleton.mp q]
                    exact hall y List.mem_cons_self
                · rw [upd_ne (ne_of_none hb ng)]
                  exact s4 _ _ (S3 _ _ (o1 _ _ (oo _ _ hb hn) hn))
                · exact (srcAt_put (ss3.same s4) ag).le (by omega)
    · rintro σ H' ⟨ts, x4, x5, x6, x7, x8, hg, nm, tl, oo, ss, rfl⟩
      exact ⟨_, rfl, k g ts H' ⟨hg, nm, by omega, by omega⟩ ng (by omega) oo (ss.le (by omega))⟩
end
end K09

/-! Operands of a Number's operators, their promises. -/
namespace Hk
open PySem PySem.Spec PyProof.Rows L2 NumM NumT SX
/-- a Number u/c, or the int u (c = 1) -/
def Opd (C : Addr) (H : Hp) (y : V) (u c : Int) : Prop := (∃ q, y = .ref q ∧ NumAt C H q u c) ∨ (y = .int u ∧ c = 1)
theorem Opd.same {C : Addr} {H H' : Hp} {y : V} {u c : Int} (o : Opd C H y u c) (s : Same H H') : Opd C H' y u c := by
  rcases o with ⟨q, rfl, N⟩ | ⟨rfl, rfl⟩
  · exact .inl ⟨q, rfl, N.same s⟩
  · exact .inr ⟨rfl, rfl⟩
theorem Opd.pos {C : Addr} {H : Hp} {y : V} {u c : Int} (o : Opd C H y u c) : 0 < c := by
  rcases o with ⟨q, rfl, N⟩ | ⟨rfl, rfl⟩
  · exact N.pos
  · decide
/-- small enough to be multiplied -/
abbrev Sm (n : Int) : Prop := n.natAbs < 2 ^ 450
theorem sm_mul {x y : Int} (h : Sm x) (g : Sm y) : (x * y).natAbs < 2 ^ 900 := wide_lt h g
theorem sm_sz {x : Int} (h : Sm x) : Sz x := Nat.lt_of_lt_of_le h (by decide +kernel)
theorem p900 : (2 : Nat) ^ 900 + 2 ^ 900 ≤ 2 ^ 1000 := by decide +kernel
theorem sz_mulS {x y : Int} (h : Sm x) (g : Sm y) : Sz (x * y) := by
  have := sm_mul h g
  have := p900
  exact Nat.lt_of_lt_of_le (sm_mul h g) (by omega)
theorem sz_add {x y z u : Int} (h : Sm x) (g : Sm y) (h' : Sm z) (g' : Sm u) : Sz (x * y + z * u) := by
  have a := sm_mul h g
  have b := sm_mul h' g'
  have e := p900
  have t : (x * y + z * u).natAbs ≤ (x * y).natAbs + (z * u).natAbs := Int.natAbs_add_le _ _
  exact Nat.lt_of_lt_of_le (show (x * y + z * u).natAbs < 2 ^ 900 + 2 ^ 900 by omega) e
theorem sz_sub {x y z u : Int} (h : Sm x) (g : Sm y) (h' : Sm z) (g' : Sm u) : Sz (x * y - z * u) := by
  have a := sm_mul h g
  have b := sm_mul h' g'
  have e := p900
  have t : (x * y - z * u).natAbs ≤ (x * y).natAbs + (z * u).natAbs := Int.natAbs_sub_le _ _
  exact Nat.lt_of_lt_of_le (show (x * y - z * u).natAbs < 2 ^ 900 + 2 ^ 900 by omega) e
theorem cm {x y : Int} (h : Sm x) (g : Sm y) : CMulW x y := wide_mul h g (by decide) (by decide) (by decide)
/-- as_number -/
def spAsN (C : Addr) : Sp := fun vs H Q _ => ∃ (y : V) (u c : Int), vs = [y] ∧ Opd C H y u c ∧ Sz u ∧ ∀ (H' : Hp) (q : Addr), Same H H' → NumAt C H' q u c → Q (.ref q) H'
/-- a two-place method: num and den of the new fraction -/
def spBin (C : Addr) (num : Int → Int → Int → Int → Int) (den : Int → Int → Int → Int → Int) (ok : Int → Int → Int → Int → Prop) : Sp := fun vs H Q _ => ∃ (p : Addr) (y : V) (t b u c : Int), vs = [.ref p, y] ∧ NumAt C H p t b ∧ Opd C H y u c ∧ Sm t ∧ Sm b ∧ Sm u ∧ Sm c ∧ ok t b u c ∧
  ∀ (H' : Hp) (q : Addr), Same H H' → NumAt C H' q (lowT (num t b u c) (den t b u c)) (lowB (num t b u c) (den t b u c)) → Q (.ref q) H'
/-- the reflected one: an int first -/
def spRbin (C : Addr) (num : Int → Int → Int → Int) : Sp := fun vs H Q _ => ∃ (p : Addr) (i t b : Int), vs = [.ref p, .int i] ∧ NumAt C H p t b ∧ Sm t ∧ Sm b ∧ Sm i ∧
  ∀ (H' : Hp) (q : Addr), Same H H' → NumAt C H' q (lowT (num i t b) (1 * b)) (lowB (num i t b) (1 * b)) → Q (.ref q) H'
def spUn (C : Addr) (g : Int → Int) : Sp := fun vs H Q _ => ∃ (p : Addr) (t b : Int), vs = [.ref p] ∧ NumAt C H p t b ∧ Sm t ∧ Sm b ∧ ∀ (H' : Hp) (q : Addr), Same H H' → NumAt C H' q (g t) b → Q (.ref q) H'
end Hk

namespace K09
open PySem PySem.Spec PyProof.Rows L2 Hk NumM NumT SX
open TL (numL)
section
variable {P : Program} {w : World} {K : Fr} {mg : Str → Option Value} {base : Heap}
abbrev CN (K : Fr) : Addr := He.ga K "Number"
theorem c_isint (T : Tx K mg) : Cal P w K mg base 1 "is_integer" (gAd "is_integer" K) ["value"] spIsInt := by
  refine cal_of (d := d_is_integer) (N := ["value"]) (a_is_integer T.c) rfl sc_is_integer (g_is_integer T) (fun _ _ _ _ _ _ us hl => match us, hl with | [_], _ => rfl) (fun vs H Q E h => ?_) (fun cdv A outer s H vs Q E hr h => ?_)
  · obtain ⟨i, rfl, _⟩ := h
    rfl
  · obtain ⟨i, rfl, k⟩ := h
    refine ⟨_, (pss_one (ps_ret (pe_and (pe_callB call_isi (by rfl) (n_isinstance T) bo_isinstance (pa_cons (pv 0) (pa_cons (pe_bltn (v := .ty "int") (by rfl) (n_int T) (by decide +kernel) rfl) pa_nil)))
      (pe_one (pe_not (pe_callB call_isi (by rfl) (n_isinstance T) bo_isinstance (pa_cons (pv 0) (pa_cons (pe_bltn (v := .ty "bool") (by rfl) (n_bool T) (by decide +kernel) rfl) pa_nil)))))))), ?_⟩
    refine ⟨_, rfl, _, _, .type "int", .type "int", true, rfl, .ty _, .base (.int i), kit_ty (by decide +kernel), true, rfl, iteT ?_⟩
    exact ⟨_, rfl, _, _, .type "int", .type "bool", false, rfl, .ty _, .base (.int i), kit_ty (by decide +kernel), false, rfl, k⟩
theorem f_init (T : Tx K mg) : ∃ fd, DAt K d_Number_init fd ∧ FnOk P w K mg base CX0 2 (d_Number_init.ad K) fd ["self", "top", "bottom"] (spInit (CN K)) := by
  obtain ⟨fd, D⟩ := a_Number_init T.c
  have C_is_integer := c_isint (P := P) (w := w) (base := base) T
  refine ⟨fd, D, ok_of (N := ["self", "top", "bottom", "shared"]) D sc_Number_init (fun vs H Q E h => ?_) (fun cdv A outer s H vs Q E hr h => ?_)⟩
  · obtain ⟨p, dx, h, b, rfl, _⟩ := h
    rfl
  · obtain ⟨p, dx, h, b, rfl, hp, hb, sb, k⟩ := h
    refine ⟨_, (pss_cons (ps_if (pt_not (pt_val (pe_c C_is_integer hr (pa_cons (pv 1) pa_nil)))) (pss_one ps_never) pss_nil)
      (pss_cons (ps_if (pt_not (pt_val (pe_c C_is_integer hr (pa_cons (pv 2) pa_nil)))) (pss_one ps_never) pss_nil)
      (pss_cons (ps_if (pt_cmpR op_eq (pv 2) pe_int (nomark _)) (pss_one ps_never) pss_nil)
      (pss_cons (ps_set (i := 3) sc_Number_init.nd rfl (.inl rfl) (pe_callBfun cr_gcd rfl (m_gcd T) (pa_cons (pv 1) (pa_cons (pv 2) pa_nil))))
      (pss_cons (ps_if (pt_cmpR op_lt (pv 2) pe_int (nomark _)) (pss_one (ps_set (i := 3) sc_Number_init.nd rfl (.inl rfl) (pe_un un_neg (pv 3)))) pss_nil)
      (pss_cons (ps_fld (pv 0) (pe_op op_fdivG (pv 1) (pv 3)) rfl)
      (pss_one (ps_fld (pv 0) (pe_op op_fdivG (pv 2) (pv 3)) rfl)))))))), ?_⟩
    refine ⟨_, rfl, h, rfl, _, rfl, iteF ?_⟩
    refine ⟨_, rfl, b, rfl, _, rfl, iteF ?_⟩
    refine ⟨_, rfl, rfl, _, rfl, ?_⟩
    refine ite2 (fun z => absurd (V.int.inj (of_decide_eq_true z)) hb) (fun _ => ?_)
    refine ⟨_, rfl, _, rfl, h, b, rfl, ?_⟩
    have cl := He.cls_ok (f_cls_Number T.c)
    have sz : CDivG h (shr h b) := ⟨shr_ne hb, by
      have := log2_sz (i := shr h b) (Nat.lt_of_le_of_lt (shr_le (h := h) hb) sb)
      omega⟩
    have szb : CDivG b (shr h b) := sz
    refine ⟨_, rfl, _, _, rfl, rfl, _, rfl, ?_⟩
    have fin : ∀ x : Int, x = shr h b → (fun (σ : L2.St) (H : Hp) => L2.tSeq (sFld K (tVar 0) (tOp (rI CDivG fun i j => .int (i.fdiv j)) (tVar 1) (tVar 3)) "_top") (sFld K (tVar 0) (tOp (rI CDivG fun i j => .int (i.fdiv j)) (tVar 2) (tVar 3)) "_bottom") { nx := fun _ H' => Q .non H', rt := Q } σ H) [some (.ref p), some (.int h), some (.int b), some (.int x)] H := by
      rintro x rfl
      refine ⟨_, rfl, _, rfl, h, _, rfl, rfl, sz, _, rfl, p, CN K, dx, _, rfl, hp, cl, He.noat_ok (f_noat_top T.c), (by show 0 < 1000; decide), ?_⟩
      refine ⟨_, rfl, _, rfl, b, _, rfl, rfl, szb, _, rfl, p, CN K, dx, _, rfl, upd_same, cl, He.noat_ok (f_noat_bot T.c), (by show 1 < 1000; decide), ?_⟩
      show Q .non _
      rw [upd_upd]
      rw [numF_eq, init_top hb, init_bot hb]
      exact k
    refine ite2 (fun z => ?_) (fun z => ?_)
    · refine ⟨_, rfl, _, rfl, ?_⟩
      exact fin _ (by unfold shr; rw [if_pos (of_decide_eq_true z)]; rfl)
    · exact fin _ (by unfold shr; rw [if_neg (fun q => z (decide_eq_true q))]; rfl)
theorem cl (T : Tx K mg) : Cls K (CN K) := He.cls_ok (f_cls_Number T.c)
theorem nT (T : Tx K mg) : NoAttr K (CN K) "_top" := He.noat_ok (f_noat_top T.c)
theorem nB (T : Tx K mg) : NoAttr K (CN K) "_bottom" := He.noat_ok (f_noat_bot T.c)
theorem f_top (T : Tx K mg) : ∃ fd, DAt K d_Number_top fd ∧ FnOk P w K mg base CX0 1 (d_Number_top.ad K) fd ["self"] (spGet (CN K) fun t _ => .int t) := by
  obtain ⟨fd, D⟩ := a_Number_top T.c
  refine ⟨fd, D, ok_of (N := ["self"]) D sc_Number_top (fun vs H Q E h => ?_) (fun cdv A outer s H vs Q E hr h => ?_)⟩
  · obtain ⟨p, t, b, rfl, _⟩ := h
    rfl
  · obtain ⟨p, t, b, rfl, ⟨⟨dx, hp⟩, _, _⟩, _, _, k⟩ := h
    exact ⟨_, pss_one (ps_ret (pe_fld (pv 0) rfl)), _, rfl, p, CN K, dx, _, _, rfl, hp, cl T, nT T, numF_top _ _, k⟩
theorem f_bottom (T : Tx K mg) : ∃ fd, DAt K d_Number_bottom fd ∧ FnOk P w K mg base CX0 1 (d_Number_bottom.ad K) fd ["self"] (spGet (CN K) fun _ b => .int b) := by
  obtain ⟨fd, D⟩ := a_Number_bottom T.c
  refine ⟨fd, D, ok_of (N := ["self"]) D sc_Number_bottom (fun vs H Q E h => ?_) (fun cdv A outer s H vs Q E hr h => ?_)⟩
  · obtain ⟨p, t, b, rfl, _⟩ := h
    rfl
  · obtain ⟨p, t, b, rfl, ⟨⟨dx, hp⟩, _, _⟩, _, _, k⟩ := h
    exact ⟨_, pss_one (ps_ret (pe_fld (pv 0) rfl)), _, rfl, p, CN K, dx, _, _, rfl, hp, cl T, nB T, numF_bot _ _, k⟩
theorem f_str (T : Tx K mg) : ∃ fd, DAt K d_Number_str fd ∧ FnOk P w K mg base CX0 1 (d_Number_str.ad K) fd ["self"] (spGet (CN K) fun t b => .str (S (fL t b))) := by
  obtain ⟨fd, D⟩ := a_Number_str T.c
  refine ⟨fd, D, ok_of (N := ["self"]) D sc_Number_str (fun vs H Q E h => ?_) (fun cdv A outer s H vs Q E hr h => ?_)⟩
  · obtain ⟨p, t, b, rfl, _⟩ := h
    rfl
  · obtain ⟨p, t, b, rfl, ⟨⟨dx, hp⟩, _, _⟩, st, sb, k⟩ := h
    refine ⟨_, (pss_cons (ps_if (pt_cmpR op_eq (pe_fld (pv 0) rfl) pe_int (nomark _)) (pss_one (ps_ret (pe_callTy call_str_int (by rfl) (n_str T) bo_str (pa_cons (pe_fld (pv 0) rfl) pa_nil)))) pss_nil)
      (pss_one (ps_ret (pe_joined (.cons (pe_fmt (pe_fld (pv 0) rfl)) (.cons pe_str (.cons (pe_fmt (pe_fld (pv 0) rfl)) .nil))))))), ?_⟩
    refine ⟨_, rfl, p, CN K, dx, _, _, rfl, hp, cl T, nB T, numF_bot _ _, rfl, _, rfl, ?_⟩
    have l1 := i_len st
    have l2 := i_len sb
    refine ite2 (fun z => ?_) (fun z => ?_)
    · have e : b = 1 := V.int.inj (of_decide_eq_true z)
      refine ⟨_, rfl, p, CN K, dx, _, _, rfl, hp, cl T, nT T, numF_top _ _, _, rfl, log2_small st, ?_⟩
      show Q (.str _) H
      rw [toS]
      have k' : Q (.str (S (fL t b))) H := k
      unfold fL at k'
      rw [if_pos e] at k'
      exact k'
    · have e : ¬ b = 1 := fun q => z (decide_eq_true (by rw [q]))
      refine ⟨_, rfl, p, CN K, dx, _, _, rfl, hp, cl T, nT T, numF_top _ _, .inr ⟨_, rfl, log2_small st, _, rfl, ?_, _, rfl, ?_, ?_⟩⟩
      · rw [toS, empty_S, S_cat, S_len]
        exact line_ge (by rw [List.nil_append]; omega)
      · rw [toS, empty_S, slash_S, S_cat, S_cat, S_len]
        exact line_ge (by rw [List.nil_append, List.length_append]; simp; omega)
      · refine ⟨_, rfl, p, CN K, dx, _, _, rfl, hp, cl T, nB T, numF_bot _ _, .inr ⟨_, rfl, log2_small sb, _, rfl, ?_, ?_⟩⟩
        · rw [toS, toS, empty_S, slash_S, S_cat, S_cat, S_cat, S_len]
          exact line_ge (by rw [List.nil_append, List.length_append, List.length_append]; simp; omega)
        · show Q (.str _) H
          rw [toS, toS, empty_S, slash_S, S_cat, S_cat, S_cat, List.nil_append, List.append_assoc]
          have k' : Q (.str (S (fL t b))) H := k
          unfold fL at k'
          rw [if_neg e] at k'
          exact k'
theorem mkN (T : Tx K mg) : Mk K (CN K) (d_Number_init.ad K) := He.mkr_ok (f_mkr_Number T.c)
theorem b_init2 {fd : FuncData} (D : DAt K d_Number_init fd) : Binds K fd ["self", "top", "bottom"] [] := by
  obtain ⟨ds, r, b⟩ := FunD.binds1 (ps := ["self", "top", "bottom"]) D 3 1 (by intro z; exact nomatch z) rfl (fun T kV doc pm an cdv ct us its hu hi => match us, its, hu, hi with | [_, _, _], [_], _, _ => ⟨_, rfl, rfl⟩)
  cases r
  exact b
theorem b_init1 {fd : FuncData} (D : DAt K d_Number_init fd) : ∃ ds, Vals [.int 1] ds ∧ Binds K fd ["self", "top", "bottom"] ds :=
  FunD.binds1 (ps := ["self", "top", "bottom"]) D 2 0 (by intro z; exact nomatch z) rfl (fun T kV doc pm an cdv ct us its hu hi => match us, its, hu, hi with | [_, _], [_], _, _ => ⟨_, rfl, rfl⟩)
theorem sz1 : Sz 1 := by decide +kernel
theorem low_one (u : Int) : lowT u 1 = u ∧ lowB u 1 = 1 := low_red (t := u) (b := 1) (by decide) (by simp)
theorem NumAt.lo {C : Addr} {H : Hp} {p : Addr} {t b : Int} (n : NumAt C H p t b) : lowT t b = t ∧ lowB t b = b := low_red n.pos n.cop
theorem c_asnum (T : Tx K mg) : Cal P w K mg base 4 "as_number" (gAd "as_number" K) ["value"] (spAsN (CN K)) := by
  have C_is_integer := c_isint (P := P) (w := w) (base := base) T
  obtain ⟨f0, D0, F0⟩ := f_init (P := P) (w := w) (base := base) T
  refine cal_of (d := d_as_number) (N := ["value"]) (a_as_number T.c) rfl sc_as_number (g_as_number T) (fun _ _ _ _ _ _ us hl => match us, hl with | [_], _ => rfl) (fun vs H Q E h => ?_) (fun cdv A outer s H vs Q E hr h => ?_)
  · obtain ⟨y, u, c, rfl, _⟩ := h
    rfl
  · obtain ⟨y, u, c, rfl, o, su, k⟩ := h
    obtain ⟨ds, Vd, B0⟩ := b_init1 D0
    refine ⟨_, (pss_cons (ps_if (pt_val (pe_callB call_isi (by rfl) (n_isinstance T) bo_isinstance (pa_cons (pv 0) (pa_cons (pe_glob (v := .ref (gAd "Number" K)) rfl (g_Number T) rfl) pa_nil))))
      (pss_one (ps_ret (pv 0))) pss_nil)
      (pss_cons (ps_if (pt_val (pe_c C_is_integer (hr.mono (by decide)) (pa_cons (pv 0) pa_nil)))
      (pss_one (ps_ret (pe_num (He.mkr_ok (f_mkr_Number T.c)) F0 hr (g_Number T) B0 Vd (pa_cons (pv 0) pa_nil)))) pss_nil)
      (pss_one ps_never))), ?_⟩
    rcases o with ⟨q, rfl, N⟩ | ⟨rfl, rfl⟩
    · obtain ⟨dx, hp⟩ := id N.at_
      refine ⟨_, rfl, _, _, _, _, true, rfl, .own _, .base (ins_ok (f_ins T.c) hp (cl T)), of_decide_eq_true (f_kitO T.c), true, rfl, iteT ?_⟩
      exact ⟨_, rfl, k _ _ (Same.refl H) N⟩
    · refine ⟨_, rfl, _, _, _, _, false, rfl, .own _, .base (.int _), of_decide_eq_true (f_kit_int T.c), false, rfl, iteF ?_⟩
      refine ⟨_, rfl, u, rfl, true, rfl, iteT ?_⟩
      refine ⟨_, rfl, u, 1, rfl, by decide, sz1, fun H' p s np N => ?_⟩
      rw [(low_one u).1, (low_one u).2] at N
      exact k _ _ s N
end
end K09

/-! set(xs) of a list of texts, sorted(set). -/
namespace Hst
open PySem PySem.Spec PyProof.Rows L2 PySem.Froz
/-- the text of a value -/
def strOf (v : Value) : Str := match v with
  | .str k _ => k
  | _ => Str.empty
/-- the payload holds the texts l, can be walked -/
structure TxW (P : Program) (w : World) (D : SD) (l : List Str) : Prop where
  tx : TxOk P w D l
  vls : ∀ e ∈ D.1.toList, ∃ k t, e.2 = Value.str k t
  pm : (D.1.toList.map fun e => strOf e.2).Perm l
  ris : Ris D.2.2.place.toList
  led : w.params.followText "set-order" = true ∨ D.2.2.led = true
section
variable {P : Program} {w : World} {A : Around} {E : Value → Shared → Prop} {s : Shared}
theorem TxW.add {D : SD} {l : List Str} {k : Str} (u : Tok) (F : TxW P w D l) : TxW P w (addTx (hashStr w k) (.str k u) D) (k :: l) := by
  have tx := add_ok (k := k) u F.tx
  obtain ⟨es, ep, t⟩ := D
  have hp := layNew_perm t es (hashStr w k) (.str k u)
  have hr := layNew_ris t es (hashStr w k) (.str k u) F.ris
  have hl := layNew_led t es (hashStr w k) (.str k u)
  have hled := F.led
  have hs := F.vls
  have hpm := F.pm
  unfold addTx at tx ⊢
  dsimp only at tx ⊢ hled hs hpm
  generalize layNew t es (hashStr w k) (.str k u) = Z at hp hr hl tx ⊢
  obtain ⟨es1, t1, wd, gave⟩ := Z
  dsimp only at hp hr hl tx ⊢
  rw [Array.toList_push] at hp
  have s1 : ∀ e ∈ es1.toList, ∃ k t, e.2 = Value.str k t := fun e he => by
    rcases List.mem_append.mp (hp.mem_iff.mp he) with z | z
    · exact hs e z
    · rw [List.mem_singleton] at z
      rw [z]
      exact ⟨k, u, rfl⟩
  have p1 : (es1.toList.map fun e => strOf e.2).Perm (k :: l) := by
    refine (hp.map _).trans ?_
    rw [List.map_append]
    exact (List.perm_append_singleton _ _).trans (hpm.cons _)
  have r1 : Ris (if t1.plain = true then { t1 with plain := false } else t1).place.toList := by
    split <;> exact hr
  have l1 : w.params.followText "set-order" = true ∨ (if t1.plain = true then { t1 with plain := false } else t1).led = true := by
    rcases hled with z | z
    · exact .inl z
    · refine .inr ?_
      split <;> exact hl.trans z
  generalize (if t1.plain = true then { t1 with plain := false } else t1) = t2 at r1 l1 tx ⊢
  unfold tailTx at tx ⊢
  split
  · rename_i c
    rw [if_pos c] at tx
    have pm := relayAll_perm t2 es1 (SetTable.grown es1.size)
    refine ⟨tx, fun e he => s1 e (pm.mem_iff.mp he), (pm.map _).trans p1, relayAll_ris _ _ _, l1.imp id fun z => (relayAll_led t2 es1 (SetTable.grown es1.size)).trans z⟩
  · rename_i c
    rw [if_neg c] at tx
    exact ⟨tx, s1, p1, r1, l1⟩
/-- the set of texts at a: l its members -/
def SetX (P : Program) (w : World) (h : Heap) (a : Addr) (l : List Str) : Prop := ∃ D, h.get? a = some (sObj "set" D) ∧ TxW P w D l ∧ l.Nodup
theorem SetX.at {h h' : Heap} {a : Addr} {l : List Str} (R : SetX P w h a l) (k : ∀ o, h.get? a = some o → h'.get? a = some o) : SetX P w h' a l := by
  obtain ⟨D, ho, r⟩ := R
  exact ⟨D, k _ ho, r⟩
theorem add_dup {a : Addr} {D : SD} {l : List Str} {k : Str} {u : Tok} {Q : Bool → Shared → Prop} (ho : s.heap.get? a = some (sObj "set" D)) (F : TxOk P w D l) (hk : k ∈ l) (hb : l.length < scanBound) (h : Q false s) :
    wpAny (model P w) A (setAddHashed a (.str k u) (hashStr w k)) Q E s := by
  obtain ⟨es, ep, t⟩ := D
  have hd : (sObj "set" (es, ep, t)).data = .set es ep t := rfl
  have hf : t.fits es.size = true := F.fit
  have hel : ElemsOf (strKind P w) es.toList := F.el
  have hsz : es.size = l.length := F.sz
  have hb0 : es.size < scanBound := by omega
  have hkey : (strKind P w).is k (.str k u) = true := is_str k u
  unfold setAddHashed setAddHashedIn
  refine wpAny_holding (wpAny_bind (wpAny_setState_of ho hd hf ?_))
  dsimp only
  rw [byScan_of rfl hb0 hel]
  simp only [↓reduceIte]
  unfold setAddByScan
  refine wpAny_bind ?_
  refine wpAny_bind (wpAny_rule ?_)
  refine wpAny_bind (wpAny_setScan_of (knd := strKind P w) (k := k) hkey ho hd hf hel ?_)
  cases hfi : List.findIdx? (fun e => (strKind P w).is k e.2) es.toList with
  | some j =>
    dsimp only
    exact wpAny_pure (wpAny_pure h)
  | none =>
    obtain ⟨e, he, q⟩ := (F.mem k).mp hk
    have c := List.findIdx?_eq_none_iff.mp hfi e he
    rw [q] at c
    cases c
/-- an added text -/
def ins1 (l : List Str) (k : Str) : List Str := if k ∈ l then l else k :: l
theorem add_one {a : Addr} {l : List Str} {k : Str} {u : Tok} {Q : Bool → Shared → Prop} (R : SetX P w s.heap a l) (hb : l.length + 1 < scanBound) (h : ∀ h' b, Heap.SameBut a s.heap h' → SetX P w h' a (ins1 l k) → Q b { s with heap := h' }) :
    wpAny (model P w) A (setAddHashed a (.str k u) (hashStr w k)) Q E s := by
  obtain ⟨D, ho, F, nd⟩ := R
  by_cases c : k ∈ l
  · refine add_dup ho F.tx c (by omega) (h s.heap false (Heap.SameBut.refl a s.heap) ?_)
    unfold ins1
    rw [if_pos c]
    exact ⟨D, ho, F, nd⟩
  · refine add_x ho F.tx c hb (h _ true (Heap.SameBut.update s.heap a _) ?_)
    unfold ins1
    rw [if_neg c]
    exact ⟨_, get_upd _ ho rfl, F.add u, List.nodup_cons.mpr ⟨c, nd⟩⟩
theorem mem_ins1 {l : List Str} {k j : Str} : j ∈ ins1 l k ↔ j = k ∨ j ∈ l := by
  unfold ins1
  split
  · rename_i c
    exact ⟨.inr, fun z => z.elim (fun e => e ▸ c) id⟩
  · exact List.mem_cons
theorem len_ins1 {l : List Str} {k : Str} : (ins1 l k).length ≤ l.length + 1 := by
  unfold ins1
  split
  · omega
  · exact Nat.le_refl _
theorem loopX {I : Addr} {fp wr : List Addr} {G : Array GenState → Array GenState → Prop} {n : Nat} {Pv : Nat → Value → Prop} {St : Nat → Shared → Prop} {R : Result → Shared → Prop}
    (W : WalksS P w A.in1 I fp wr G n Pv St) (S : Addr) (hSf : S ∉ fp) (xs : List Str) (hn : n = xs.length) (hb : xs.length + 1 < scanBound) (hval : ∀ i v, Pv i v → ∃ k t, xs[i]? = some k ∧ v = .str k t) :
    ∀ (k i : Nat) (s : Shared) (l : List Str), n - i = k → i ≤ n → St i s → l.length ≤ i → (∀ j, j ∈ l ↔ j ∈ xs.take i) → SetX P w s.heap S l →
      (∀ s' l', Moved (S :: wr) G s s' → (∀ j, j ∈ l' ↔ j ∈ xs) → SetX P w s'.heap S l' → R (.ok (.ret .none)) s') →
      codeAny (model P w) A (.builtin "set.update.loop" ⟨[.ref S, .ref I], []⟩) R s := by
  have hSw : S ∉ wr := fun h => hSf (W.sub _ h)
  have hsub : ∀ b ∈ wr, b ∈ S :: wr := fun b hb => List.mem_cons_of_mem _ hb
  intro k
  induction k with
  | zero =>
    intro i s l hk' hi hst hl hm hS hR
    have hin : i = n := by omega
    subst hin
    refine codeAny_builtin PyProof.Rows.F.entry_set_update_loop ?_
    rw [Around.under_plainId PyProof.Rows.F.plain_set_update_loop _]
    show wpAny _ A.in1 (pyNext (.ref I) >>= _) _ _ s
    refine wpAny_bind (W.done s _ _ hst fun s' hmv => ?_)
    show wpAny _ A.in1 (ret Value.none) _ _ s'
    have e : xs.take i = xs := List.take_of_length_le (by omega)
    rw [e] at hm
    exact wpAny_pure (hR s' l (hmv.mono hsub) hm (hS.at fun o e => hmv.heap S o hSw e))
  | succ k ih =>
    intro i s l hk' hi hst hl hm hS hR
    have hlt : i < n := by omega
    refine codeAny_builtin PyProof.Rows.F.entry_set_update_loop ?_
    rw [Around.under_plainId PyProof.Rows.F.plain_set_update_loop _]
    show wpAny _ A.in1 (pyNext (.ref I) >>= _) _ _ s
    refine wpAny_bind (W.item i s _ _ hlt hst fun v s' hP hst' hmv => ?_)
    obtain ⟨z, t, hz, rfl⟩ := hval i v hP
    have hS' : SetX P w s'.heap S l := hS.at fun o e => hmv.heap S o hSw e
    show wpAny _ A.in1 (holding [Value.str z t] (setAdd S (.str z t)) >>= _) _ _ s'
    refine wpAny_bind (wpAny_holding ?_)
    unfold setAdd
    refine wpAny_holding ?_
    refine wpAny_bind ((strKind P w).pyHash (k := z) (is_str _ _) ?_)
    refine add_one (s := { s' with toks := s'.toks + 1 }) hS' (by omega) fun h' b hsb hS2 => ?_
    have hm2 : ∀ j, j ∈ ins1 l z ↔ j ∈ xs.take (i + 1) := fun j => by
      rw [mem_ins1, List.take_add_one, hz, List.mem_append, hm j]
      simp
      exact Or.comm
    have hl2 : (ins1 l z).length ≤ i + 1 := Nat.le_trans len_ins1 (by omega)
    refine wpAny_pure ⟨plainId_quiet PyProof.Rows.F.plain_set_update_loop _, ih (i + 1) _ _ (by omega) hlt (W.frame _ s' _ _ hst' (Nat.le_succ _) fun b hb o e => ?_) hl2 hm2 hS2 fun s'' l2 hm'' hc'' hS'' => ?_⟩
    · rw [hsb.2 b (fun h : b = S => hSf (by rw [← h]; exact hb))]; exact e
    · refine hR s'' l2 (Moved.trans W.gtrans ((hmv.mono hsub).then_heap (Nat.le_succ _) fun b o hb e => ?_) hm'') hc'' hS''
      rw [hsb.2 b (fun h : b = S => hb (by rw [h]; exact List.mem_cons_self))]; exact e
theorem fresh_at {h : Heap} {a : Addr} (ho : h.get? a = some { cls := .type "set", dict := none, data := .set #[] 0 (.fresh 0 0 (!w.params.followText "set-order")) }) : SetX P w h a [] := by
  refine ⟨(#[], 0, .fresh 0 0 (!w.params.followText "set-order")), ho, ⟨TxOk.nil (by rfl), fun e he => by simp at he, List.Perm.refl _, List.Pairwise.nil, ?_⟩, List.nodup_nil⟩
  show _ ∨ (!w.params.followText "set-order") = true
  cases w.params.followText "set-order"
  · exact .inr rfl
  · exact .inl rfl
end
end Hst

namespace Hst
open PySem PySem.Spec PyProof.Rows L2 PySem.Froz
section
variable {P : Program} {w : World} {A : Around} {E : Value → Shared → Prop} {s : Shared}
/-- the new set, empty -/
abbrev set0 (w : World) : Obj := { cls := .type "set", dict := none, data := .set #[] 0 (.fresh 0 0 (!w.params.followText "set-order")) }
/-- what the making of the set of xs leaves: its members -/
abbrev Got (P : Program) (w : World) (s : Shared) (xs : List Str) (h' : Heap) (l : List Str) : Prop :=
  SetX P w h' s.heap.objs.size l ∧ (∀ j, j ∈ l ↔ j ∈ xs) ∧ ∀ b o, s.heap.get? b = some o → h'.get? b = some o
theorem init_strs {l : Addr} {items : Array Value} {xs : List Str} (hh : A.handled = none) (hl : s.heap.IsList l items) (hi : StrsAre items.toList xs) (hb : xs.length + 1 < scanBound) {Q : Value → Shared → Prop}
    (h : ∀ h' tk l', Got P w s xs h' l' → Q .none { s with heap := h', toks := tk }) :
    wpAny (model P w) A.in1.in1 (Builtin.«set.__init__» ⟨[.ref s.heap.objs.size, .ref l], []⟩) (fun fin s₂ => match fin with
      | .done f => (match (Except.ok f : Result) with | .ok (.ret v) => Q v s₂ | .ok _ => False | .error e => E e s₂)
      | .again c' => c'.quiet = true ∧ codeAny (model P w) A.in1 c' (fun r s' => match r with | .ok (.ret v) => Q v s' | .ok _ => False | .error e => E e s') s₂) E { s with heap := s.heap.push (set0 w) } := by
  have hS : (s.heap.push (set0 w)).get? s.heap.objs.size = some (set0 w) := Heap.get?_push_size _ rfl
  obtain ⟨ol, hol, hcl, nl, hdl⟩ := hl
  obtain ⟨ocls, odict, odata, oslots⟩ := ol
  simp only at hcl hdl
  subst hcl; subst hdl
  have hol' : (s.heap.push (set0 w)).get? l = some { cls := .type "list", dict := odict, data := .seq items nl, slots := oslots } := Heap.get?_push_of_some _ hol
  have hsls := PySem.F.sub_list_set
  have hslf := PySem.F.sub_list_frozenset
  have hne : (Value.type "list" == Value.type "dict") = false := by decide
  have hl1 : (s.heap.push (set0 w)).IsList l items := ⟨_, hol', rfl, nl, rfl⟩
  unfold Builtin.«set.__init__» noKeywords Builtin.Frozenset.updateFrom
  generalize hPI : pyIter = PI
  wp_walk
  subst hPI
  refine wpAny_pyIter_list hl1 ?_
  refine wpAny_bind (wpAny_runValue ?_)
  have hlS : l < s.heap.objs.size := Heap.lt_size hol
  have hsz : (s.heap.push (set0 w)).objs.size = s.heap.objs.size + 1 := Heap.size_push ..
  have hneI : l ≠ (s.heap.push (set0 w)).objs.size := by
    rw [hsz]
    exact Nat.ne_of_lt (Nat.lt_succ_of_lt hlS)
  have hSf : s.heap.objs.size ∉ [(s.heap.push (set0 w)).objs.size, l] := by
    rw [hsz]
    simp only [List.mem_cons, List.not_mem_nil, or_false, not_or]
    exact ⟨Nat.ne_of_lt (Nat.lt_succ_self _), Nat.ne_of_gt hlS⟩
  have hxz : items.size = xs.length := by rw [← StrsAre.len_eq hi, Array.length_toList]
  have hval : ∀ (i : Nat) (v : Value), items[i]? = some v → ∃ k t, xs[i]? = some k ∧ v = .str k t := fun i v hv => by
    have hi2 : i < xs.length := by rw [← hxz]; exact (Array.getElem?_eq_some_iff.mp hv).1
    obtain ⟨t, e⟩ := SS.strs_at hi i v (by rw [Array.getElem?_toList]; exact hv)
    refine ⟨xs[i], t, List.getElem?_eq_getElem hi2, ?_⟩
    rw [e, List.getD_eq_getElem?_getD, List.getElem?_eq_getElem hi2] <;> rfl
  refine loopX (P := P) (w := w) ((Walks.list (by simp [hh]) _ l hneI items).toS) s.heap.objs.size hSf xs hxz hb hval items.size 0 _ [] (by omega) (Nat.zero_le _)
    ⟨⟨_, Heap.get?_push_size _ rfl, rfl, rfl⟩, (hl1.push _)⟩ (Nat.le_refl _) (fun j => by simp) (fresh_at (Heap.get?_push_of_some _ hS)) (fun s' l' hm hm' hS' => ?_)
  obtain ⟨h', g2, d', tk', os'⟩ := s'
  have eg : g2 = s.gens := hm.gens
  have ed : d' = s.drawn := hm.drawn
  have eo : os' = s.os := hm.os
  subst eg; subst ed; subst eo
  show wpAny _ _ _ _ _ _
  refine wpAny_pure ?_
  show wpAny _ _ (ret Value.none) _ _ _
  refine wpAny_pure (h h' tk' l' ⟨hS', hm', fun b o e => ?_⟩)
  have hb0 : b < s.heap.objs.size := Heap.lt_size e
  refine hm.heap b o ?_ (Heap.get?_push_of_some _ (Heap.get?_push_of_some _ e))
  rw [hsz]
  simp only [List.mem_cons, List.not_mem_nil, or_false, not_or]
  exact ⟨Nat.ne_of_lt hb0, Nat.ne_of_lt (Nat.lt_succ_of_lt hb0)⟩
theorem call_set_strs {l : Addr} {items : Array Value} {xs : List Str} (hh : A.handled = none) (hl : s.heap.IsList l items) (hi : StrsAre items.toList xs) (hb : xs.length + 1 < scanBound) {Q : Value → Shared → Prop}
    (h : ∀ h' tk l', Got P w s xs h' l' → Q (.ref s.heap.objs.size) { s with heap := h', toks := tk }) : wpAny (model P w) A (call (.type "set") [.ref l]) Q E s := by
  obtain ⟨c, tl, hmro⟩ := PySem.F.called_set.mro
  have hmade := PySem.F.called_set.made
  have hsub := PySem.F.called_set.sub
  refine wpAny_call (codeAny_of_tree ?_)
  show wpAny _ _ (callAny (.type "set") _) _ _ _
  refine wpAny_pure ⟨Code.quiet_builtin _ (by decide +kernel), codeAny_builtin PySem.F.entry_type_call ?_⟩
  rw [Around.under_plain (weight_type_call_type "set" [.ref l] []) rfl]
  have h1 := PySem.F.called_set.notType
  have h2 := PySem.F.called_set.canCreate
  have hct := PySem.F.typeCall_set_1 (.ref l)
  repeat (any_goals (first | assumption | wp_step))
  refine codeAny_mono (code_set_led1 (.ref l) (E := E) (Q₁ := fun obj s₁ => obj = .ref s.heap.objs.size ∧ s₁ = { s with heap := s.heap.push (set0 w) }) ⟨rfl, rfl⟩) fun r s₁ hr => ?_
  cases r with
  | error e => exact hr
  | ok fl =>
    cases fl with
    | ret obj =>
      obtain ⟨rfl, rfl⟩ := hr
      have hS : (s.heap.push (set0 w)).get? s.heap.objs.size = some (set0 w) := Heap.get?_push_size _ rfl
      have hT : Shared.TypeIs { s with heap := s.heap.push (set0 w) } (.ref s.heap.objs.size) "set" := ⟨_, hS, rfl⟩
      have hli := PySem.F.called_set.init.lookup
      have hbi := PySem.F.called_set.init.bind (.ref s.heap.objs.size)
      repeat (any_goals (first | assumption | wp_step))
      refine codeAny_mono (codeAny_call_builtin (R := wants (fun r s₂ => r = .none ∧ ∃ h' tk l', s₂ = { s with heap := h', toks := tk } ∧ Got P w s xs h' l') E) PySem.F.called_set.init.plain PySem.F.entry_set_init (check_set_init_1 hT ?_)) fun r₂ s₂ hr₂ => ?_
      · exact init_strs (E := E) (Q := fun r s₂ => r = .none ∧ ∃ h' tk l', s₂ = { s with heap := h', toks := tk } ∧ Got P w s xs h' l') hh hl hi hb fun h' tk l' g => ⟨rfl, h', tk, l', rfl, g⟩
      · cases r₂ with
        | error e => exact hr₂
        | ok fl₂ =>
          cases fl₂ with
          | ret r =>
            obtain ⟨rfl, h', tk, l', rfl, g⟩ := hr₂
            repeat (any_goals (first | assumption | wp_step))
            exact h _ _ _ g
          | _ => exact hr₂.elim
    | _ => exact hr.elim
/-! ### sorted -/
theorem strs_of : ∀ (l : List Value), (∀ v ∈ l, ∃ k tk, v = Value.str k tk) → StrsAre l (l.map strOf)
  | [], _ => .nil
  | v :: l, h => by
    obtain ⟨k, tk, rfl⟩ := h v List.mem_cons_self
    exact .cons k tk (strs_of l fun u hu => h u (List.mem_cons_of_mem _ hu))
theorem sorted_setX {a : Addr} {l : List Str} {Q : Value → Shared → Prop} (R : SetX P w s.heap a l) (hh : A.handled = none) (hb : l.length < 1000)
    (hQ : ∀ s' p (out : Array Value) (c : Nat) (ys : List Str), (∀ b o, s.heap.get? b = some o → s'.heap.get? b = some o) → s'.gens = s.gens → s'.os = s.os → s.heap.objs.size ≤ p →
      s'.heap.get? p = some (seqObj "list" out c) → StrsAre out.toList ys → ys.Perm l → sortedS ys = true → Q (.ref p) s') :
    wpAny (model P w) A (call (.builtin "sorted") [.ref a]) Q E s := by
  obtain ⟨D, ho, F, nd⟩ := R
  obtain ⟨es, ep, t⟩ := D
  have hsz : es.size = l.length := F.tx.sz
  have hsb : scanBound ≥ 2000 := by decide
  have hes : es.size < scanBound := by omega
  refine Calls.call_function_entry kind_sorted plain_sorted entry_sorted (args_sorted1 _) ?_
  unfold Builtin.«sorted»
  refine wpAny_bind (m := checkCount "sorted" 1 1 _) (wpAny_pure ?_)
  refine wpAny_bind (collect_set (A := A.in1) hh ⟨_, ho, rfl, rfl⟩ F.tx.fit hes F.ris F.led fun s1 vs k1 hz g1 o1 pm => ?_)
  have hvl : vs.length = l.length := by rw [pm.length_eq, List.length_map, Array.length_toList]; exact hsz
  have hI : StrsAre vs (vs.map strOf) := strs_of vs fun v hv => by
    obtain ⟨e, he, q⟩ := List.mem_map.mp (pm.mem_iff.mp hv)
    obtain ⟨k, tk, h1⟩ := F.vls e he
    exact ⟨k, tk, by rw [← q]; exact h1⟩
  have pk : (vs.map strOf).Perm l := by
    have q := pm.map strOf
    rw [List.map_map] at q
    exact q.trans F.pm
  have hL : vs.length ≤ sizeLine := by
    rw [hvl, sizeLine_eq]
    omega
  refine wpAny_bind (wpAny_newList ?_ hL)
  have hoL : (s1.heap.push (seqObj "list" vs.toArray 0)).get? s1.heap.objs.size = some (seqObj "list" vs.toArray 0) := Heap.get?_push_size _ rfl
  refine wpAny_bind (wpAny_holding (wpAny_call_entry slot_list_sort ⟨_, hoL, rfl⟩ entry_list_sort (list_sort_treeKAny strKind_oneLt hoL hI.keysOf (fun v₁ v₂ rest e => keyKind_strs (by rw [← e]; exact hI)) hL fun st' hp hs => ⟨_, rfl, ?_⟩) (args_list_sort _)))
  obtain ⟨ys, a1, a2, a3⟩ := sorted_out_str hI hp hs
  obtain ⟨c, hc⟩ := sortedHeap_at (vs := vs) (out := (arrOf st').map (·.2)) hoL
  refine wpAny_pure ⟨_, rfl, hQ _ s1.heap.objs.size _ c ys (fun b u e => ?_) g1 o1 hz hc a1 (a2.trans pk) a3⟩
  have q := k1 b u e
  have hlt := Heap.lt_size q
  show (sortedHeap (s1.heap.push (seqObj "list" vs.toArray 0)) s1.heap.objs.size vs _).get? b = some u
  rw [sortedHeap_old (Nat.ne_of_lt hlt) (by rw [PyProof.Rows.size_push']; exact Nat.lt_succ_of_lt hlt)]
  exact Heap.get?_push_of_some _ q
end
end Hst
namespace Hk
open PySem PySem.Spec PyProof.Rows L2 Hst
/-- the set of texts at a -/
def SetXO (P : Program) (w : World) (a : Addr) (l : List Str) : HO := .ext fun h => SetX P w h a l
theorem setXO_new {P : Program} {w : World} {H : Hp} {h : Heap} {a : Addr} {l : List Str} (R : SetX P w h a l) : ObjOk P w H h a (SetXO P w a l) := by
  obtain ⟨D, ho, r⟩ := id R
  refine ⟨R, ⟨_, ho⟩, fun h1 h2 p k => ?_⟩
  obtain ⟨D', ho', r'⟩ := id (show SetX P w h1 a l from p)
  exact ⟨D', k _ ho', r'⟩
/-- set(xs) of a list of texts; sorted(set) -/
def rSetOfS (K : Fr) (P : Program) (w : World) : List V → Hp → VK → Prop := fun xs H Q => ∃ (l : Addr) (ys : List Str), xs = [V.ref l] ∧ SqL K H l (ys.map V.str) ∧ ys.length < 1000 ∧ ∀ a zs, H a = none → zs.Nodup → (∀ j, j ∈ zs ↔ j ∈ ys) → Q (.ref a) (upd H a (SetXO P w a zs))
def rSortedX (P : Program) (w : World) : List V → Hp → VK → Prop := fun xs H Q => ∃ (a : Addr) (l : List Str), xs = [V.ref a] ∧ H a = some (SetXO P w a l) ∧ l.length < 1000 ∧ ∀ p ys, H p = none → ys.Perm l → sortedS ys = true → Q (.ref p) (upd H p (.lst (ys.map V.str)))
section
variable {X : Cx}
theorem cr_setOfS (hc : X.calm = true) : CallR X (.type "set") (rSetOfS X.K X.prog X.w) := by
  intro pins s σ H xs us Q I r h
  obtain ⟨l, ys, rfl, hl, hf, q⟩ := h
  rw [Vals.ref1 r]
  obtain ⟨its, rv, pl, hz⟩ := I.list hl
  have hn : H s.heap.objs.size = none := I.hok.fresh (Nat.le_refl _)
  have hsb : scanBound ≥ 2000 := by decide
  refine call_set_strs (P := X.prog) (w := X.w) (xs := ys) (I.ok.hd hc) pl.isList (strsAre_of rv) (by omega) fun h' tk l' g => ?_
  have hnd : l'.Nodup := by
    obtain ⟨D, _, _, nd⟩ := g.1
    exact nd
  exact ⟨.ref s.heap.objs.size, upd H s.heap.objs.size (SetXO X.prog X.w s.heap.objs.size l'), I.laid (t' := tk) g.2.2 (Nat.le_refl _) (setXO_new g.1), rfl, q _ l' hn hnd g.2.1⟩
theorem cr_sortedX (hc : X.calm = true) : CallR X (.builtin "sorted") (rSortedX X.prog X.w) := by
  intro pins s σ H vs us Q I r h
  obtain ⟨a, l, rfl, ha, hl, q⟩ := h
  have R : SetX X.prog X.w s.heap a l := (I.hok a _ ha).1
  rw [Vals.ref1 r]
  have hsb : scanBound ≥ 2000 := by decide
  refine sorted_setX R (I.ok.hd hc) hl fun s' p out c ys k g o hp hg hout pm so => ?_
  have hn : H p = none := I.hok.fresh hp
  have hv : Vals (ys.map V.str) out.toList := by
    clear hg pm so q
    generalize out.toList = os at hout
    induction hout with
    | nil => exact .nil
    | cons n t hr ih => exact .cons ⟨t, rfl⟩ ih
  have hlen : (ys.map V.str).length ≤ sizeLine := by
    rw [List.length_map, pm.length_eq, sizeLine_eq]
    omega
  have J : Inv X pins σ (upd H p (.lst (ys.map V.str))) { s with heap := s'.heap, gens := s'.gens, drawn := s'.drawn, toks := s'.toks } :=
    I.call (ch := []) (Un.laid k hp hn) (I.hok.laid k hp ⟨hlen, out.toList, c, hv, hg⟩) (by rw [g]; exact I.bare) (fun _ z => nomatch z)
  have e : s' = { s with heap := s'.heap, gens := s'.gens, drawn := s'.drawn, toks := s'.toks } := by
    cases s'
    cases s
    cases o
    rfl
  rw [e]
  exact ⟨.ref p, _, J, rfl, q p ys hn pm so⟩
end
end Hk

/-! max(xs, default=d) of a list of ints, empty or not. -/
namespace Hmx
open PySem PySem.Spec PyProof.Rows
section
variable {prog : Program} {w : World} {A : Around} {R : Result → Shared → Prop} {I : Addr} {fp wr : List Addr} {n : Nat} {P : Nat → Value → Prop} {St : Nat → Heap → Prop}
/-- the greatest of the first j -/
def Bst (P : Nat → Value → Prop) (val : Nat → Int) (j : Nat) (v : Value) : Prop := ∃ i, i < j ∧ P i v ∧ ∀ m, m < j → val m ≤ val i
def OldOk (P : Nat → Value → Prop) (val : Nat → Int) (j : Nat) : Option Value → Prop
  | none => j = 0
  | some v => Bst P val j v
def oldA : Option Value → Array Value
  | none => #[]
  | some v => #[v, v]
abbrev bestObj (old : Option Value) (c : Nat) : Obj := { cls := .type "list", dict := none, data := .seq (oldA old) c, slots := #[] }
theorem loopD (W : Walks prog w A.in1 I fp wr n P St) (val : Nat → Int) (hval : ∀ i v, P i v → ∃ t, v = .int (val i) t) (S : Addr) (hSf : S ∉ fp) (d : Value) :
    ∀ (k j : Nat) (s : Shared) (old : Option Value) (c : Nat), n - j = k → j ≤ n → St j s.heap → OldOk P val j old → s.heap.get? S = some (bestObj old c) →
    (∀ v h' tk, ((n = 0 ∧ v = d) ∨ Bst P val n v) → (∀ b o, b ∉ wr → b ≠ S → s.heap.get? b = some o → h'.get? b = some o) → R (.ok (.ret v)) { s with heap := h', toks := tk }) →
    codeAny (model prog w) A (.builtin "max.loop" ⟨[.ref I, .none, .ref S], [("default", d)]⟩) R s := by
  have hSw : S ∉ wr := fun h => hSf (W.sub _ h)
  have hname : (toString "max" ++ toString ".loop" : String) = "max.loop" := by decide
  intro k
  induction k with
  | zero =>
    intro j s old c hk hj hst hold hS hR
    have hin : j = n := by omega
    refine codeAny_builtin PySem.F.entry_max_loop ?_
    rw [Around.under_plainId PySem.F.plain_max_loop _]
    show wpAny _ A.in1 (seqItems? (.ref S) >>= _) _ _ s
    have h2 : (oldA old).size ≤ sizeLine := by
      cases old with
      | none => exact (show (0 : Nat) ≤ sizeLine by decide)
      | some vb => exact (show (2 : Nat) ≤ sizeLine by decide)
    refine wpAny_bind (wpAny_seqItems hS rfl ?_)
    show wpAny _ A.in1 (tryCatch (pyNext (.ref I)) _ >>= _) _ _ s
    refine wpAny_bind (wpAny_tryCatch (W.done s _ _ (hin ▸ hst) fun h' tk hk' => ?_))
    cases old with
    | none =>
      refine wpAny_bind (wpAny_rule ?_)
      exact wpAny_pure (hR d h' tk (.inl ⟨by have : j = 0 := hold; omega, rfl⟩) fun b o hbw _ e => hk' b o hbw e)
    | some vb =>
      have hS' := hk' S _ hSw hS
      show wpAny _ A.in1 (updateSeq S (fun _ => #[]) >>= _) _ _ _
      refine wpAny_bind ?_
      refine wpAny_updateSeq (hz := h2) hS' rfl (wpAny_bind (wpAny_letGo (wpAny_pure ?_)))
      refine hR vb _ tk (.inr (hin ▸ hold)) fun b o hbw hbS e => (Heap.get?_update_other _ _ (Ne.symm hbS)).trans (hk' b o hbw e)
  | succ k ih =>
    intro j s old c hk hj hst hold hS hR
    have hlt : j < n := by omega
    refine codeAny_builtin PySem.F.entry_max_loop ?_
    rw [Around.under_plainId PySem.F.plain_max_loop _]
    show wpAny _ A.in1 (seqItems? (.ref S) >>= _) _ _ s
    have h2 : (oldA old).size ≤ sizeLine := by
      cases old with
      | none => exact (show (0 : Nat) ≤ sizeLine by decide)
      | some vb => exact (show (2 : Nat) ≤ sizeLine by decide)
    refine wpAny_bind (wpAny_seqItems hS rfl ?_)
    show wpAny _ A.in1 (tryCatch (pyNext (.ref I)) _ >>= _) _ _ s
    refine wpAny_bind (wpAny_tryCatch (W.item j s _ _ hlt hst fun v h' tk hP hst' hk' => ?_))
    have hS' := hk' S _ hSw hS
    cases old with
    | none =>
      have j0 : j = 0 := hold
      subst j0
      show wpAny _ A.in1 (updateSeq S (fun _ => #[v, v]) >>= _) _ _ _
      refine wpAny_bind ?_
      refine wpAny_updateSeq hS' rfl ?_
      rw [hname]
      refine wpAny_pure ⟨plainId_quiet PySem.F.plain_max_loop _, ih 1 _ (some v) _ (by omega) (by omega) (W.frame _ _ _ hst' fun b hbf o e => ?_) ⟨0, by omega, hP, fun m hm => ?_⟩ (Heap.get?_update_self _ hS' rfl) fun v' h'' tk'' hP' hk'' => ?_⟩
      · exact (Heap.get?_update_other _ _ (fun h : S = b => hSf (by rw [h]; exact hbf))).trans e
      · have : m = 0 := by omega
        subst this
        exact Int.le_refl _
      · exact hR v' h'' tk'' hP' fun b o hbw hbS e => hk'' b o hbw hbS ((Heap.get?_update_other _ _ (Ne.symm hbS)).trans (hk' b o hbw e))
    | some vb =>
      obtain ⟨i, hi, hPi, hmax⟩ := (show Bst P val j vb from hold)
      show wpAny _ A.in1 (tryCatch (holding [v, v] (richCompare .Gt v vb >>= _)) _ >>= _) _ _ _
      refine wpAny_bind (wpAny_tryCatch (wpAny_holding (wpAny_bind (CmpOf.ints_gt val hval j i v vb _ _ _ hP hPi ?_))))
      refine wpAny_bind (wpAny_holding (wpAny_truthy_bool ?_))
      refine wpAny_bind (wpAny_letGo (wpAny_pure ?_))
      by_cases hb : val j > val i
      · simp only [decide_eq_true hb, if_true]
        refine wpAny_bind ?_
        refine wpAny_updateSeq (hz := h2) hS' rfl (wpAny_bind (wpAny_letGo ?_))
        rw [hname]
        refine wpAny_pure ⟨plainId_quiet PySem.F.plain_max_loop _, ih (j + 1) _ (some v) _ (by omega) hlt (W.frame _ _ _ hst' fun b hbf o e => ?_) ⟨j, by omega, hP, fun m hm => ?_⟩ (Heap.get?_update_self _ hS' rfl) fun v' h'' tk'' hP' hk'' => ?_⟩
        · exact (Heap.get?_update_other _ _ (fun h : S = b => hSf (by rw [h]; exact hbf))).trans e
        · rcases Nat.lt_or_ge m j with q | q
          · have := hmax m q
            omega
          · have : m = j := by omega
            subst this
            exact Int.le_refl _
        · exact hR v' h'' tk'' hP' fun b o hbw hbS e => hk'' b o hbw hbS ((Heap.get?_update_other _ _ (Ne.symm hbS)).trans (hk' b o hbw e))
      · simp only [decide_eq_false hb, Bool.false_eq_true, if_false]
        refine wpAny_bind (wpAny_letGo ?_)
        rw [hname]
        refine wpAny_pure ⟨plainId_quiet PySem.F.plain_max_loop _, ih (j + 1) _ (some vb) c (by omega) hlt hst' ⟨i, by omega, hPi, fun m hm => ?_⟩ hS' fun v' h'' tk'' hP' hk'' => ?_⟩
        · rcases Nat.lt_or_ge m j with q | q
          · exact hmax m q
          · have : m = j := by omega
            subst this
            omega
        · exact hR v' h'' tk'' hP' fun b o hbw hbS e => hk'' b o hbw hbS (hk' b o hbw e)
end
section
variable {prog : Program} {w : World} {A : Around} {E : Value → Shared → Prop} {s : Shared} {l : Addr} {xs : Array (Int × Tok)}
theorem args_maxd (a d : Value) : argsOk "max" ⟨[a], [("default", d)]⟩ := by unfold argsOk; kernel_rfl
theorem call_maxD {d : Value} {Q : Value → Shared → Prop} (hh : A.handled = none) (hl : s.heap.IsList l (intItems xs))
    (h : ∀ v h' tk, ((xs.size = 0 ∧ v = d) ∨ ∃ i, i < xs.size ∧ (intItems xs)[i]? = some v ∧ ∀ m, m < xs.size → numAt xs m ≤ numAt xs i) → (∀ b o, s.heap.get? b = some o → h'.get? b = some o) → Q v { s with heap := h', toks := tk }) :
    wpAny (model prog w) A (call (.builtin "max") [.ref l] [("default", d)]) Q E s := by
  have hname : (toString "max" ++ toString ".loop" : String) = "max.loop" := by decide
  have fin : wpAny (model prog w) A.in1 (Builtin.«max» ⟨[.ref l], [("default", d)]⟩) (fun fin s' => match fin with
      | .done f => (match (Except.ok f : Result) with | .ok (.ret v) => Q v s' | .ok _ => False | .error e => E e s')
      | .again c' => c'.quiet = true ∧ codeAny (model prog w) A c' (fun r s' => match r with | .ok (.ret v) => Q v s' | .ok _ => False | .error e => E e s') s') E s := by
    show wpAny _ A.in1 (Builtin.Builtins.bindParams "max" ["key", "default"] 0 ⟨[], [("default", d)]⟩ >>= _) _ _ s
    refine wpAny_bind (wpAny_of_eq (show Builtin.Builtins.bindParams "max" ["key", "default"] 0 ⟨[], [("default", d)]⟩ = pure [none, some d] from rfl) ?_)
    refine wpAny_bind (wpAny_pure ?_)
    refine wpAny_bind (iter_intList hl fun s₂ e st hfp hlI => ?_)
    subst e
    refine wpAny_bind (wpAny_newObj_type ?_)
    rw [hname]
    have W := Walks.list (prog := prog) (w := w) (A := A.in1) hh s.heap.objs.size l hlI (intItems xs)
    have hSf : (s.heap.push { cls := .type "list_iterator", data := .fields #[.ref l, .int 0 0] }).objs.size ∉ [s.heap.objs.size, l] := fun hm => Nat.lt_irrefl _ (hfp _ hm)
    have hsz : (intItems xs).size = xs.size := by simp [intItems]
    refine wpAny_pure ⟨plainId_quiet PySem.F.plain_max_loop _, loopD W (numAt xs) (fun _ _ => intItems_at) _ hSf d _ 0 _ none _ rfl (Nat.zero_le _) (W.frame _ _ _ st fun b _ o e => Heap.get?_push_of_some _ e) rfl (Heap.get?_push_size _ rfl) fun v h' tk hP hk => ?_⟩
    refine h v h' tk ?_ (old_kept fun b o hbw e => hk b o hbw (Nat.ne_of_lt (Heap.lt_size e)) (Heap.get?_push_of_some _ e))
    rw [hsz] at hP
    rcases hP with hP | ⟨i, hi, hPi, hm⟩
    · exact .inl hP
    · exact .inr ⟨i, hi, hPi, hm⟩
  refine wpAny_call (codeAny_call_builtin PySem.F.plain_max PySem.F.entry_max ?_)
  simp only [checkBuiltinCall, PySem.F.kind_max]
  cases hsig : Manifest.signature? "max" with
  | none => exact wpAny_pure fin
  | some sig =>
    have ha' : Bind.checkArgs "max" sig ⟨[.ref l], [("default", d)]⟩ = pure () := by simpa only [argsOk, hsig] using args_maxd (.ref l) d
    simp only [ha']
    exact wpAny_pure fin
end
end Hmx
namespace Hk
open PySem PySem.Spec PyProof.Rows L2
/-- max(xs, default=d) -/
def rMaxD (K : Fr) : List V → List V → Hp → VK → Prop := fun vs zs H Q => ∃ (a : Addr) (ns : List Int) (d : Int), vs = [.ref a] ∧ zs = [.int d] ∧ SqL K H a (ns.map V.int) ∧ ∀ m, ((ns = [] ∧ m = d) ∨ (m ∈ ns ∧ ∀ y, y ∈ ns → y ≤ m)) → Q (.int m) H
theorem cr_maxD {X : Cx} (hc : X.calm = true) : CallRK X (.builtin "max") ["default"] (rMaxD X.K) := by
  intro pins s σ H xs zs us ws Q I r rz h
  obtain ⟨a, ns, d, rfl, rfl, hs, q0⟩ := h
  obtain ⟨its, rv, hl, _⟩ := I.list hs
  rw [Vals.ref1 r]
  obtain ⟨w0, rfl, rw0⟩ := rz.one
  obtain ⟨t, rfl⟩ := rw0
  have hli := hl.isList
  obtain ⟨ys, e⟩ := rv.ints.allInts.items
  have hn : numsOf (intItems ys).toList = ns := by rw [← e]; exact rv.ints.numsOf
  rw [nums_intItems] at hn
  subst hn
  rw [e] at hli
  refine Hmx.call_maxD (I.ok.hd hc) hli fun v h' tk hv hk => ?_
  rcases hv with ⟨h0, rfl⟩ | ⟨i, hi, hvi, hm⟩
  · refine ⟨.int d, H, I.kept hk, ⟨_, rfl⟩, q0 d (.inl ⟨?_, rfl⟩)⟩
    have : ys.toList = [] := by
      cases q : ys.toList with
      | nil => rfl
      | cons a r =>
        have := congrArg List.length q
        rw [Array.length_toList] at this
        simp at this
        omega
    rw [this]
    rfl
  · obtain ⟨t2, rfl⟩ := intItems_at hvi
    refine ⟨.int _, H, I.kept hk, ⟨_, rfl⟩, q0 _ (.inr ⟨?_, fun y hy => ?_⟩)⟩
    · rw [numAt_eq]
      exact PySem.getD_mem (by rw [List.length_map, Array.length_toList]; omega)
    · obtain ⟨j, hj, rfl⟩ := mem_getD hy
      rw [List.length_map, Array.length_toList] at hj
      rw [← numAt_eq]
      exact hm j hj
end Hk

namespace K09
open PySem PySem.Spec PyProof.Rows L2 Hk NumM NumT SX
/-- the class of an expression, its word -/
def clsOf (w : Nat) : Str := if w = 0 then "Every" else if w = 1 then "Spread" else "Late"
def Tree.cls : Tree → Str
  | .name _ => "Name"
  | .sum _ => "Sum"
  | .times _ _ _ => "Times"
  | .pair w _ _ => clsOf w
def Tree.word : Tree → Str
  | .name _ => "name"
  | .sum _ => "sum"
  | .times _ _ _ => "times"
  | .pair w _ _ => wordOf w
abbrev FL : List Str := ["_text", "_inside", "_amount", "_parts", "_depth"]
abbrev PL : List Str := ["names", "parts", "depth"]
abbrev ML : List Str := ["__str__", "__repr__", "__eq__"]
abbrev CT (K : Fr) (t : Tree) : Addr := He.ga K t.cls
/-- the fields -/
def sgF (t : Tree) (tp : Addr) (am : V) : List (Str × V) := [("_text", .str t.tell), ("_inside", .ref tp), ("_amount", am), ("_parts", .int t.parts), ("_depth", .int t.deep)]
/-- at x: the object of the expression t -/
inductive SigAt (K : Fr) (H : Hp) : Nat → Tree → Addr → Prop
  | mk {d : Nat} {t : Tree} {x dx tp : Addr} {am : V} {xs : List Addr} (h : H x = some (.ins (CT K t) dx (sgF t tp am))) (ht : H tp = some (.tup (xs.map V.ref))) (hl : xs.length = t.kids.length) (n5 : t.kids.length ≤ 5)
      (ne : t.kids = [] → ∃ l, t = .name l) (tl : t.tell.length ≤ 1000000) (hk : ∀ (i : Nat) (y : Addr) (c : Tree), xs[i]? = some y → t.kids[i]? = some c → SigAt K H d c y) : SigAt K H (d + 1) t x
theorem SigAt.kp {K : Fr} {H H' : Hp} {d : Nat} {t : Tree} {x : Addr} (I : SigAt K H d t x) (k : ∀ b o, H b = some o → (∀ xs, o ≠ .lst xs) → (∀ C dx, o ≠ .ins C dx []) → H' b = some o) : SigAt K H' d t x := by
  induction I with
  | mk h ht hl n5 ne tl hk ih => exact .mk (k _ _ h (fun xs z => nomatch z) (fun C dx z => by cases z)) (k _ _ ht (fun xs z => nomatch z) (fun C dx z => nomatch z)) hl n5 ne tl ih
theorem SigAt.same {K : Fr} {H H' : Hp} {d : Nat} {t : Tree} {x : Addr} (I : SigAt K H d t x) (s : Same H H') : SigAt K H' d t x := I.kp fun b o h _ _ => s b o h
theorem SigAt.old {K : Fr} {H H' : Hp} {a : Addr} {n d : Nat} {t : Tree} {x : Addr} (I : SigAt K H d t x) (s : SrcAt a n H) (o : Old a H H') : SigAt K H' d t x := I.kp fun b u h nl _ => o _ _ h (fun z => by
  subst z
  obtain ⟨d, e, c, h1, _⟩ := s
  rw [h] at h1
  exact nl _ (Option.some.inj h1))
theorem SigAt.put {K : Fr} {H : Hp} {l : Addr} {xs : List V} {o : HO} {d : Nat} {t : Tree} {x : Addr} (I : SigAt K H d t x) (hl : H l = some (.lst xs)) : SigAt K (upd H l o) d t x := I.kp fun b u h nl _ => by
  rw [upd_ne (fun z => by
    subst z
    rw [h] at hl
    exact nl _ (Option.some.inj hl))]
  exact h
theorem SigAt.up {K : Fr} {H : Hp} {d : Nat} {t : Tree} {x : Addr} (I : SigAt K H d t x) : SigAt K H (d + 1) t x := by
  induction I with
  | mk h ht hl n5 ne tl hk ih => exact .mk h ht hl n5 ne tl ih
section
variable {P : Program} {w : World} {K : Fr} {mg : Str → Option Value} {base : Heap}
theorem sub_of (T : Tx K mg) (t : Tree) : tSub t.cls "Signal" t.word FL PL ML K = true := by
  cases t with
  | name l => exact f_sub_Name T.c
  | sum ts => exact f_sub_Sum T.c
  | times t b x => exact f_sub_Times T.c
  | pair w x n =>
    show tSub (clsOf w) "Signal" (wordOf w) FL PL ML K = true
    unfold clsOf wordOf
    by_cases h0 : w = 0
    · rw [if_pos h0, if_pos h0]
      exact f_sub_Every T.c
    · rw [if_neg h0, if_neg h0]
      by_cases h1 : w = 1
      · rw [if_pos h1, if_pos h1]
        exact f_sub_Spread T.c
      · rw [if_neg h1, if_neg h1]
        exact f_sub_Late T.c
theorem cl_of (T : Tx K mg) (t : Tree) : Cls K (CT K t) := sub_cls (sub_of T t)
theorem na_of (T : Tx K mg) (t : Tree) {f : Str} (h : f ∈ FL) : NoAttr K (CT K t) f := sub_noat (sub_of T t) h
/-- a getter of a signal -/
def spSg (K : Fr) (f : Tree → V) : Sp := fun vs H Q _ => ∃ (d : Nat) (t : Tree) (x : Addr), vs = [.ref x] ∧ SigAt K H d t x ∧ Q (f t) H
theorem f_sgparts (T : Tx K mg) : ∃ fd, DAt K d_Signal_parts fd ∧ FnOk P w K mg base CX0 1 (d_Signal_parts.ad K) fd ["self"] (spSg K fun t => .int t.parts) := by
  obtain ⟨fd, D⟩ := a_Signal_parts T.c
  refine ⟨fd, D, ok_of (N := ["self"]) D sc_Signal_parts (fun vs H Q E h => ?_) (fun cdv A outer s H vs Q E hr h => ?_)⟩
  · obtain ⟨d, t, x, rfl, _⟩ := h
    rfl
  · obtain ⟨d, t, x, rfl, I, k⟩ := h
    cases I with
    | mk h ht hl n5 ne tl hk => exact ⟨_, pss_one (ps_ret (pe_fld (pv 0) rfl)), _, rfl, x, _, _, _, _, rfl, h, cl_of T t, na_of T t (by simp), rfl, k⟩
theorem f_sgdepth (T : Tx K mg) : ∃ fd, DAt K d_Signal_depth fd ∧ FnOk P w K mg base CX0 1 (d_Signal_depth.ad K) fd ["self"] (spSg K fun t => .int t.deep) := by
  obtain ⟨fd, D⟩ := a_Signal_depth T.c
  refine ⟨fd, D, ok_of (N := ["self"]) D sc_Signal_depth (fun vs H Q E h => ?_) (fun cdv A outer s H vs Q E hr h => ?_)⟩
  · obtain ⟨d, t, x, rfl, _⟩ := h
    rfl
  · obtain ⟨d, t, x, rfl, I, k⟩ := h
    cases I with
    | mk h ht hl n5 ne tl hk => exact ⟨_, pss_one (ps_ret (pe_fld (pv 0) rfl)), _, rfl, x, _, _, _, _, rfl, h, cl_of T t, na_of T t (by simp), rfl, k⟩
theorem f_sgstr (T : Tx K mg) : ∃ fd, DAt K d_Signal_str fd ∧ FnOk P w K mg base CX0 1 (d_Signal_str.ad K) fd ["self"] (spSg K fun t => .str t.tell) := by
  obtain ⟨fd, D⟩ := a_Signal_str T.c
  refine ⟨fd, D, ok_of (N := ["self"]) D sc_Signal_str (fun vs H Q E h => ?_) (fun cdv A outer s H vs Q E hr h => ?_)⟩
  · obtain ⟨d, t, x, rfl, _⟩ := h
    rfl
  · obtain ⟨d, t, x, rfl, I, k⟩ := h
    cases I with
    | mk h ht hl n5 ne tl hk =>
      refine ⟨_, pss_one (ps_ret (pe_callTy SkE.call_str_str (by rfl) (n_str T) bo_str (pa_cons (pe_fld (pv 0) rfl) pa_nil))), ?_⟩
      exact ⟨_, rfl, x, _, _, _, _, rfl, h, cl_of T t, na_of T t (by simp), rfl, _, rfl, k⟩
end
end K09

namespace K09
open PySem PySem.Spec PyProof.Rows L2 Hk NumM NumT SX
def Tree.shown (t : Tree) : Str := ("Signal(" : Str) ++ t.tell ++ (")" : Str)
theorem empty_app (x : Str) : Str.empty ++ x = x := by
  rw [← S_tl x]
  show S [] ++ S _ = _
  rw [S_cat]
  rfl
theorem big6 {n : Nat} (h : n ≤ 2000000) : n ≤ sizeLine := by
  rw [sizeLine_eq]
  omega
section
variable {P : Program} {w : World} {K : Fr} {mg : Str → Option Value} {base : Heap}
theorem f_sgrepr (T : Tx K mg) : ∃ fd, DAt K d_Signal_repr fd ∧ FnOk P w K mg base CX0 1 (d_Signal_repr.ad K) fd ["self"] (spSg K fun t => .str t.shown) := by
  obtain ⟨fd, D⟩ := a_Signal_repr T.c
  refine ⟨fd, D, ok_of (N := ["self"]) D sc_Signal_repr (fun vs H Q E h => ?_) (fun cdv A outer s H vs Q E hr h => ?_)⟩
  · obtain ⟨d, t, x, rfl, _⟩ := h
    rfl
  · obtain ⟨d, t, x, rfl, I, k⟩ := h
    cases I with
    | mk h ht hl n5 ne tl hk =>
      refine ⟨_, pss_one (ps_ret (pe_joined (.cons pe_str (.cons (pe_fmt (pe_fld (pv 0) rfl)) (.cons pe_str .nil))))), ?_⟩
      have l1 : ("Signal(" : Str).length = 7 := rfl
      have l2 : (")" : Str).length = 1 := rfl
      refine ⟨_, rfl, ?_, _, rfl, x, _, _, _, _, rfl, h, cl_of T t, na_of T t (by simp), rfl, .inl ⟨_, rfl, big6 (by omega), _, rfl, ?_, _, rfl, ?_, ?_⟩⟩
      · rw [empty_app]
        exact big6 (by omega)
      · rw [empty_app, str_len]
        exact big6 (by omega)
      · rw [empty_app, str_len, str_len]
        exact big6 (by omega)
      · rw [empty_app]
        exact k
theorem kit_sig (T : Tx K mg) (t : Tree) : PySem.W.kitOne K (.ref (CT K t)) (.ref (He.ga K "Signal")) = some true := by
  cases t with
  | name l => exact kitsO_ok (f_kits_Name T.c) (by simp)
  | sum ts => exact kitsO_ok (f_kits_Sum T.c) (by simp)
  | times t b x => exact kitsO_ok (f_kits_Times T.c) (by simp)
  | pair w x n =>
    show PySem.W.kitOne K (.ref (He.ga K (clsOf w))) (.ref (He.ga K "Signal")) = some true
    unfold clsOf
    split
    · exact kitsO_ok (f_kits_Every T.c) (by simp)
    · split
      · exact kitsO_ok (f_kits_Spread T.c) (by simp)
      · exact kitsO_ok (f_kits_Late T.c) (by simp)
theorem ty_sig (T : Tx K mg) {H : Hp} {d : Nat} {t : Tree} {x : Addr} (I : SigAt K H d t x) : TyOf K H (.ref x) (.ref (CT K t)) := by
  cases I with
  | mk h ht hl n5 ne tl hk => exact ins_ok (sub_ins (sub_of T t)) h (cl_of T t)
/-- == with a signal, with another thing -/
def spSgEq (K : Fr) : Sp := fun vs H Q _ => ∃ (d : Nat) (t : Tree) (x : Addr) (y : V), vs = [.ref x, y] ∧ SigAt K H d t x ∧
  ((∃ (e : Nat) (u : Tree) (z : Addr), y = .ref z ∧ SigAt K H e u z ∧ Q (.bl (decide (t.tell = u.tell))) H) ∨ (∃ ty, TyX K H y ty ∧ PySem.W.kitOne K ty (.ref (He.ga K "Signal")) = some false ∧ Q (.bl false) H))
theorem f_sgeq (T : Tx K mg) : ∃ fd, DAt K d_Signal_eq fd ∧ FnOk P w K mg base CX0 1 (d_Signal_eq.ad K) fd ["self", "other"] (spSgEq K) := by
  obtain ⟨fd, D⟩ := a_Signal_eq T.c
  refine ⟨fd, D, ok_of (N := ["self", "other"]) D sc_Signal_eq (fun vs H Q E h => ?_) (fun cdv A outer s H vs Q E hr h => ?_)⟩
  · obtain ⟨d, t, x, y, rfl, _⟩ := h
    rfl
  · obtain ⟨d, t, x, y, rfl, I, k⟩ := h
    refine ⟨_, (pss_one (ps_ret (pe_and (pe_callB call_isi (by rfl) (n_isinstance T) bo_isinstance (pa_cons (pv 1) (pa_cons (pe_glob (v := .ref (gAd "Signal" K)) rfl (g_Signal T) rfl) pa_nil))) (pe_one (pe_cmpR op_eq (pe_fld (pv 0) rfl) (pe_fld (pv 1) rfl) (nomark _)))))), ?_⟩
    rcases k with ⟨e, u, z, rfl, J, k⟩ | ⟨ty, hty, hkit, k⟩
    · refine ⟨_, rfl, _, _, _, _, true, rfl, .own _, .base (ty_sig T J), kit_sig T u, true, rfl, iteT ?_⟩
      cases I with
      | mk h ht hl n5 ne tl hk =>
        cases J with
        | mk h' ht' hl' n5' ne' tl' hk' =>
          refine ⟨_, rfl, x, _, _, _, _, rfl, h, cl_of T t, na_of T t (by simp), rfl, _, rfl, z, _, _, _, _, rfl, h', cl_of T u, na_of T u (by simp), rfl, rfl, ?_⟩
          have e1 : decide (V.str t.tell = V.str u.tell) = decide (t.tell = u.tell) := by
            by_cases q : t.tell = u.tell
            · rw [q]
              simp
            · rw [decide_eq_false q, decide_eq_false fun w => q (V.str.inj w)]
          rw [e1] at *
          exact k
    · exact ⟨_, rfl, _, _, _, _, false, rfl, .own _, hty, hkit, false, rfl, iteF k⟩
end
end K09

/-! [y for x in t for y in e(x)]: t a tuple, each e(x) a tuple. -/
namespace Hk
open PySem PySem.Spec PyProof.Rows L2
theorem Same.tupT {K : Fr} {H H' : Hp} {a : Addr} {xs : List V} (e : Same H H') (h : SqT K H a xs) : SqT K H' a xs := by
  rcases h with (h | ⟨o, h⟩) | h
  · exact .inl (.inl (e _ _ h))
  · exact .inl (.inr ⟨o, e _ _ h⟩)
  · exact .inr h
theorem lc2_tt {K : Fr} {a : Addr} {xs : List V} {i j : Nat} {ti : TE} {σ : L2.St} {H1 : Hp} {D : Addr} {Qd : Hp → Prop} (Pk : Nat → Prop) (yss : List (List V)) (hij : i ≠ j) (hj : j < σ.length) (hlen : xs.length = yss.length) (nD : H1 D = none) (hl : SqT K H1 a xs) (hz : yss.flatten.length ≤ 100000)
    (hs : ∀ (k : Nat) (x : V) (ys : List V), xs[k]? = some x → yss[k]? = some ys → ∀ (H : Hp) (R : VK), Same H1 H → (∀ q H', Same H H' → H' q = some (.tup ys) → Pk k → R (.ref q) H') → ti ((wipe σ [i, j]).set i (some x)) H R)
    (hd : ∀ H, Same H1 H → H D = some (.lst yss.flatten) → (∀ k, k < xs.length → Pk k) → Qd H) :
    ∃ W : Nat → Nat → Hp → Prop, (∃ m, W 0 m (upd H1 D (.lst []))) ∧ ∀ k m H, W k m H →
      ((Itt K a).stop k H ∧ Qd H) ∨ ((Itt K a).go k H ∧ ∃ Nx : Hp → Prop, (∀ H', Nx H' → ∃ m', m' < m ∧ W (k + 1) m' H') ∧ ∀ x H', (Itt K a).yld k H x H' → gName i x (wipe σ [i, j]) H' fun σ2 H2 => wipe σ2 [i, j] = wipe σ [i, j] ∧ tYes σ2 H2 fun b H3 =>
        if b = true then iTup K ti σ2 H3 fun J1 H4 => ∃ W1 : Nat → Nat → Hp → Prop, (∃ m, W1 0 m H4) ∧ ∀ k2 m2 H, W1 k2 m2 H →
          (J1.stop k2 H ∧ Nx H) ∨ (J1.go k2 H ∧ ∃ Nx1 : Hp → Prop, (∀ H', Nx1 H' → ∃ k', k' < m2 ∧ W1 (k2 + 1) k' H') ∧ ∀ x H', J1.yld k2 H x H' → gName j x (wipe σ2 [j]) H' fun σ3 H5 => wipe σ3 [j] = wipe σ2 [j] ∧ tYes σ3 H5 fun b H6 =>
            if b = true then tVar j σ3 H6 fun y H7 => ∃ acc, H7 D = some (.lst acc) ∧ acc.length < sizeLine ∧ Nx1 (upd H7 D (.lst (acc ++ [y]))) else Nx1 H6)
        else Nx H3) := by
  have fl : ∀ n, (yss.take n).flatten.length ≤ yss.flatten.length := fun n => by
    have e : yss.flatten = (yss.take n).flatten ++ (yss.drop n).flatten := by rw [← List.flatten_append, List.take_append_drop]
    rw [e, List.length_append]
    omega
  have big : (100000 : Nat) < sizeLine := by decide
  let Pv : Nat → Hp → Prop := fun n H => (Same H1 H ∧ H D = some (.lst (yss.take n).flatten)) ∧ ∀ k, k < n → Pk k
  refine ⟨fun k m H => m = xs.length - k ∧ k ≤ xs.length ∧ Pv k H, ⟨xs.length, by simp, Nat.zero_le _, ⟨same_upd nD, upd_same⟩, fun k hk => absurd hk (Nat.not_lt_zero _)⟩, ?_⟩
  rintro k m H ⟨rfl, hk, ⟨s1, hD⟩, hP⟩
  have hq : SqT K H a xs := Same.tupT s1 hl
  by_cases hlt : k < xs.length
  · refine .inr ⟨⟨xs, xs[k], hq, by simp [hlt]⟩, Pv (k + 1), fun H' p' => ⟨xs.length - (k + 1), by omega, rfl, hlt, p'⟩, fun x H' y => ?_⟩
    obtain ⟨e, y⟩ := y
    subst e
    have hx := y xs hq
    have hy : yss[k]? = some (yss[k]'(by omega)) := List.getElem?_eq_getElem _
    generalize yss[k]'(by omega) = ys at hy
    have tk : (yss.take (k + 1)).flatten = (yss.take k).flatten ++ ys := by
      rw [List.take_add_one, hy, List.flatten_append]
      simp
    have hl1 : (yss.take k).flatten.length + ys.length ≤ 100000 := by
      have := fl (k + 1)
      rw [tk, List.length_append] at this
      omega
    refine ⟨?_, ?_⟩
    · show (((((σ.set j none).set i none).set i (some x)).set j none).set i none) = ((σ.set j none).set i none)
      rw [List.set_set, List.set_comm _ _ hij, List.set_set, List.set_set]
    unfold tYes
    dsimp only
    rw [if_pos rfl]
    refine hs k x ys hx hy H' _ s1 fun q H2 s2 hq2 hPk => ⟨q, rfl, ⟨ys, .inl (.inl hq2)⟩, ?_⟩
    have hD2 : H2 D = some (.lst (yss.take k).flatten) := s2 _ _ hD
    refine ⟨fun k2 m2 H3 => m2 = ys.length - k2 ∧ k2 ≤ ys.length ∧ Same H1 H3 ∧ H3 q = some (.tup ys) ∧ H3 D = some (.lst ((yss.take k).flatten ++ ys.take k2)), ⟨ys.length, by simp, Nat.zero_le _, s1.trans s2, hq2, by simpa using hD2⟩, ?_⟩
    rintro k2 m2 H3 ⟨rfl, hk2, s3, hq3, hD3⟩
    by_cases hlt2 : k2 < ys.length
    · refine .inr ⟨⟨ys, ys[k2], .inl (.inl hq3), by simp [hlt2]⟩, fun H4 => Same H1 H4 ∧ H4 q = some (.tup ys) ∧ H4 D = some (.lst ((yss.take k).flatten ++ ys.take (k2 + 1))), fun H4 p' => ⟨ys.length - (k2 + 1), by omega, rfl, hlt2, p'⟩, fun z H4 y2 => ?_⟩
      obtain ⟨e, y2⟩ := y2
      subst e
      have hz2 := y2 ys (.inl (.inl hq3))
      refine ⟨?_, ?_⟩
      · show (((((wipe σ [i, j]).set i (some x)).set j none).set j (some z)).set j none) = (((wipe σ [i, j]).set i (some x)).set j none)
        rw [List.set_set, List.set_set]
      rw [if_pos rfl]
      refine ⟨z, ?_, _, hD3, ?_, same_upd' s3 nD, ?_, ?_⟩
      · refine List.getElem?_set_self ?_
        rw [wipe_length, List.length_set, wipe_length]
        exact hj
      · rw [List.length_append, List.length_take]
        omega
      · rw [upd_ne (ne_of hq3 hD3 (by intro z; exact nomatch z))]
        exact hq3
      · rw [upd_same, List.take_add_one, hz2, List.append_assoc]
        rfl
    · have e : k2 = ys.length := by omega
      subst e
      refine .inl ⟨⟨ys, .inl (.inl hq3), Nat.le_refl _⟩, ⟨s3, by
        rw [tk]
        rw [List.take_length] at hD3
        exact hD3⟩, fun z hz => ?_⟩
      rcases Nat.lt_or_ge z k with q1 | q1
      · exact hP z q1
      · have e : z = k := by omega
        subst e
        exact hPk
  · have e : k = xs.length := by omega
    subst e
    refine .inl ⟨⟨xs, hq, Nat.le_refl _⟩, hd H s1 ?_ hP⟩
    rw [hlen, List.take_length] at hD
    exact hD
end Hk

namespace K09
open PySem PySem.Spec PyProof.Rows L2 Hk NumM NumT SX
abbrev leS (a b : Str) : Prop := a.cps.toList ≤ b.cps.toList
theorem rising_pw : ∀ (l : List Str) (p : Str), risingS p l = true → (p :: l).Pairwise leS
  | [], p, _ => List.pairwise_singleton _ _
  | x :: r, p, h => by
    have h2 : (!ltCps x.cps.toList p.cps.toList && risingS x r) = true := h
    rw [Bool.and_eq_true, Bool.not_eq_true'] at h2
    have h3 := rising_pw r x h2.2
    have e : leS p x := by
      have := h2.1
      rw [ltCps_eq] at this
      exact List.not_lt.mp (of_decide_eq_false this)
    refine List.pairwise_cons.mpr ⟨fun y hy => ?_, h3⟩
    rcases List.mem_cons.mp hy with rfl | hy
    · exact e
    · exact List.le_trans e ((List.pairwise_cons.mp h3).1 y hy)
theorem sorted_pw {l : List Str} (h : sortedS l = true) : l.Pairwise leS := by
  cases l with
  | nil => exact List.Pairwise.nil
  | cons x r => exact rising_pw r x h
/-- the names of an expression, ascending, each once -/
def IsNm (t : Tree) (ys : List Str) : Prop := sortedS ys = true ∧ ys.Nodup ∧ ∀ j, j ∈ ys ↔ j ∈ t.leaves.map S
theorem IsNm.uniq {t : Tree} {ys zs : List Str} (h : IsNm t ys) (k : IsNm t zs) : ys = zs := by
  have pm : ys.Perm zs := (List.perm_ext_iff_of_nodup h.2.1 k.2.1).mpr fun j => (h.2.2 j).trans (k.2.2 j).symm
  refine List.Perm.eq_of_pairwise (le := leS) (fun a b _ _ h1 h2 => ?_) (sorted_pw h.1) (sorted_pw k.1) pm
  have e := List.le_antisymm h1 h2
  rw [← S_tl a, ← S_tl b]
  show S a.cps.toList = S b.cps.toList
  rw [e]
theorem nd_len : ∀ {ys zs : List Str}, ys.Nodup → (∀ j ∈ ys, j ∈ zs) → ys.length ≤ zs.length
  | [], _, _, _ => Nat.zero_le _
  | y :: r, zs, h, k => by
    obtain ⟨h1, h2⟩ := List.nodup_cons.mp h
    have my := k y List.mem_cons_self
    have ih := nd_len (zs := zs.erase y) h2 fun j hj => (List.mem_erase_of_ne (by intro e; subst e; exact h1 hj)).mpr (k j (List.mem_cons_of_mem _ hj))
    rw [List.length_erase_of_mem my] at ih
    have := List.length_pos_of_mem my
    rw [List.length_cons]
    omega
theorem IsNm.len {t : Tree} {ys : List Str} (h : IsNm t ys) : ys.length ≤ t.leaves.length := by
  have := nd_len h.2.1 fun j hj => (h.2.2 j).mp hj
  rwa [List.length_map] at this
open Classical in
noncomputable def nmOf (t : Tree) : List Str := if h : ∃ ys, IsNm t ys then Classical.choose h else []
theorem IsNm.eq {t : Tree} {ys : List Str} (h : IsNm t ys) : ys = nmOf t := by
  have e : ∃ ys, IsNm t ys := ⟨ys, h⟩
  unfold nmOf
  rw [dif_pos e]
  exact h.uniq (Classical.choose_spec e)
theorem nmOf_len (t : Tree) : (nmOf t).length ≤ t.leaves.length := by
  unfold nmOf
  split
  · rename_i h
    exact (Classical.choose_spec h).len
  · exact Nat.zero_le _
theorem sum_le_mem {l : List Nat} {x : Nat} (h : x ∈ l) : x ≤ l.sum := by
  induction l with
  | nil => exact nomatch h
  | cons a r ih =>
    rw [List.sum_cons]
    rcases List.mem_cons.mp h with rfl | h
    · omega
    · have := ih h
      omega
theorem kid_parts {t c : Tree} (h : c ∈ t.kids) : c.parts + 1 ≤ t.parts := by
  have := sum_le_mem (List.mem_map.mpr ⟨c, h, rfl⟩ : c.parts ∈ t.kids.map Tree.parts)
  rw [parts_eq t]
  omega
theorem sum_map_le {α : Type} {f g : α → Nat} {l : List α} (h : ∀ c ∈ l, f c ≤ g c) : (l.map f).sum ≤ (l.map g).sum := by
  induction l with
  | nil => exact Nat.le_refl _
  | cons a r ih =>
    rw [List.map_cons, List.map_cons, List.sum_cons, List.sum_cons]
    have := h a List.mem_cons_self
    have := ih fun c hc => h c (List.mem_cons_of_mem _ hc)
    omega
theorem leaves_parts {K : Fr} {H : Hp} {d : Nat} : ∀ {t : Tree} {x : Addr}, SigAt K H d t x → t.leaves.length ≤ t.parts := by
  induction d with
  | zero => intro t x I; exact nomatch I
  | succ d ih =>
    intro t x I
    cases I with
    | @mk _ _ _ dx tp am xs h ht hl n5 ne tl hk =>
      by_cases hn : ∃ l, t = .name l
      · obtain ⟨l, rfl⟩ := hn
        simp [Tree.leaves, Tree.parts]
      · rw [leaves_eq (fun l e => hn ⟨l, e⟩), parts_eq, List.length_flatten, List.map_map]
        have := sum_map_le (f := List.length ∘ Tree.leaves) (g := Tree.parts) (l := t.kids) fun c hc => by
          obtain ⟨i, hi, e⟩ := List.getElem_of_mem hc
          exact ih (hk i (xs[i]'(by omega)) c (List.getElem?_eq_getElem _) (by rw [← e]; exact List.getElem?_eq_getElem hi))
        omega
theorem bo_set : bootBuiltins "set" = some (.type "set") := by decide +kernel
theorem bo_sorted : bootBuiltins "sorted" = some (.builtin "sorted") := by decide +kernel
theorem nm_of_set {t : Tree} {zs ys : List Str} (nd : zs.Nodup) (hm : ∀ j, j ∈ zs ↔ j ∈ t.leaves.map S) (pm : ys.Perm zs) (so : sortedS ys = true) : IsNm t ys := ⟨so, pm.nodup_iff.mpr nd, fun j => pm.mem_iff.trans (hm j)⟩
section
variable {P : Program} {w : World} {K : Fr} {mg : Str → Option Value} {base : Heap}
def spNm (K : Fr) (d : Nat) : Sp := fun vs H Q _ => ∃ (t : Tree) (x : Addr), vs = [.ref x] ∧ SigAt K H d t x ∧ t.parts ≤ 12 ∧ ∀ (q : Addr) (H' : Hp), Same H H' → H' q = some (.tup ((nmOf t).map V.str)) → IsNm t (nmOf t) → Q (.ref q) H'
theorem iteE {b : Bool} {A B : Prop} (hb : b = false) (h : B) : if b = true then A else B := by
  rw [hb]
  exact iteF h
abbrev tNm (K : Fr) (d : Nat) : TE := tPropA K (He.ma K (He.ga K "Signal") "names") (d_Signal_names.ad K) "names" (spNm K d) (tVar 1)
theorem f_sgnames (T : Tx K mg) : ∀ d : Nat, ∃ fd, DAt K d_Signal_names fd ∧ FnOk P w K mg base CX0 (2 * d + 1) (d_Signal_names.ad K) fd ["self"] (spNm K d) := by
  intro d
  induction d with
  | zero =>
    obtain ⟨fd, D⟩ := a_Signal_names T.c
    refine ⟨fd, D, ok_of (N := ["self", "signal", "name"]) D sc_Signal_names (fun vs H Q E h => ?_) (fun cdv A outer s H vs Q E hr h => ?_)⟩
    · obtain ⟨t, x, rfl, _⟩ := h
      rfl
    · obtain ⟨t, x, rfl, I, _⟩ := h
      exact nomatch I
  | succ d ih =>
    obtain ⟨fd, D⟩ := a_Signal_names T.c
    obtain ⟨fn, Dn, Fn⟩ := ih
    have bn : Binds K fn ["self"] [] := FunD.bindsN Dn fun _ _ _ _ _ _ us hl => match us, hl with | [_], _ => rfl
    refine ⟨fd, D, ok_of (k := 2 * d + 2) (N := ["self", "signal", "name"]) D sc_Signal_names (fun vs H Q E h => ?_) (fun cdv A outer s H vs Q E hr h => ?_)⟩
    · obtain ⟨t, x, rfl, _⟩ := h
      rfl
    · obtain ⟨t, x, rfl, I, hp, k⟩ := h
      refine ⟨_, (pss_cons (ps_if (pt_not (pt_truth (pe_fld (pv 0) rfl) (by intro _; rfl)))
 (pss_one (ps_ret (pe_tup (pa_cons (pe_fld (pv 0) rfl) pa_nil))))
 pss_nil)
 (pss_one (ps_ret (pe_callTy call_tuple_of (by rfl) (n_tuple T) bo_tuple (pa_cons (pe_callB (cr_sortedX rfl) (by rfl) (n_sorted T) bo_sorted (pa_cons (pe_callTy (cr_setOfS rfl) (by rfl) (n_set T) bo_set (pa_cons (pe_lc2 (own := [("signal", 1), ("name", 2)]) (vs1 := [2]) (g := gName 1) (tt := tYes) (g1 := gName 2) (tt1 := tYes) (wi1 := iTup K (tNm K d)) (te := tVar 2) rfl sc_Signal_names.nd (pi_tup (pe_fld (pv 0) rfl)) (blkOk_by (N := ["self", "signal", "name"]) (sc := defScope s_Signal_names) (by decide +kernel)) (by decide) (fun _ _ _ _ _ => pg_name (i := 1) sc_Signal_names.nd rfl (.inl rfl)) (fun _ _ _ _ _ => pts_nil) (fun _ _ _ _ _ => pi_tup (tl := tNm K d) (pe_propA (pv 1) Fn hr bn)) (fun _ _ _ _ _ => pg_name (i := 2) sc_Signal_names.nd rfl (.inl rfl)) (fun _ _ _ _ _ => pts_nil) (fun _ _ _ _ _ => (pv 2))) pa_nil)) pa_nil)) pa_nil))))), ?_⟩
      have I0 := I
      cases I with
      | @mk _ _ _ dx tp am xs h ht hl n5 ne tl hk =>
        refine ⟨_, rfl, x, _, _, _, _, rfl, h, cl_of T t, na_of T t (by simp), rfl, !(xs.map V.ref).isEmpty, .inr (.inl ⟨_, .inl (.inl ht), rfl⟩), ?_⟩
        cases hx : xs with
        | nil =>
          subst hx
          have hk0 : t.kids = [] := List.length_eq_zero_iff.mp hl.symm
          obtain ⟨l, rfl⟩ := ne hk0
          have nm : IsNm (.name l) [S l] := ⟨rfl, List.pairwise_singleton _ _, fun j => by simp [Tree.leaves]⟩
          refine iteT ?_
          refine ⟨_, rfl, x, _, _, _, _, rfl, h, cl_of T _, na_of T _ (by simp), rfl, (by show 1 ≤ sizeLine; decide), fun q nq => ?_⟩
          refine k q _ (same_upd nq) ?_ (nm.eq ▸ nm)
          rw [upd_same, ← nm.eq, Tree.tell]
          rfl
        | cons y0 r0 =>
          have nn : ∀ l, t ≠ .name l := fun l e => by
            subst e
            rw [hx] at hl
            simp [Tree.kids] at hl
          rw [← hx]
          refine iteE (by rw [hx]; rfl) ?_
          refine ⟨_, rfl, x, _, _, _, _, rfl, h, cl_of T t, na_of T t (by simp), rfl, tp, rfl, ⟨_, .inl (.inl ht)⟩, fun D nD => ?_⟩
          have fl : (t.kids.map fun c => (nmOf c).map V.str).flatten = ((t.kids.map nmOf).flatten).map V.str := by
            rw [List.map_flatten, List.map_map]
            rfl
          have hlen : ((t.kids.map nmOf).flatten).length ≤ 12 := by
            rw [List.length_flatten, List.map_map]
            have := sum_map_le (f := List.length ∘ nmOf) (g := Tree.parts) (l := t.kids) fun c hc => by
              obtain ⟨i, hi, e⟩ := List.getElem_of_mem hc
              exact Nat.le_trans (nmOf_len c) (leaves_parts (hk i (xs[i]'(by omega)) c (List.getElem?_eq_getElem _) (by rw [← e]; exact List.getElem?_eq_getElem hi)))
            have := parts_eq t
            omega
          refine lc2_tt (fun m => ∀ c, t.kids[m]? = some c → IsNm c (nmOf c)) (t.kids.map fun c => (nmOf c).map V.str) (by decide) (show (2 : Nat) < 3 by decide) (by rw [List.length_map, List.length_map]; exact hl) nD (.inl (.inl ht)) (by rw [fl, List.length_map]; omega) (fun m y ys hy hys H2 R s2 q => ?_) (fun H2 s2 hD hP => ?_)
          · rw [List.getElem?_map] at hy hys
            obtain ⟨y', h1, rfl⟩ := Option.map_eq_some_iff.mp hy
            obtain ⟨c, h2, rfl⟩ := Option.map_eq_some_iff.mp hys
            have J := (hk m y' c h1 h2).same s2
            have J0 := J
            have hc : c ∈ t.kids := List.mem_of_getElem? h2
            cases J with
            | mk jh jt jl j5 jne jtl jk =>
              exact ⟨_, rfl, CT K c, y', _, _, rfl, jh, cl_of T c, sub_prop (sub_of T c) (by simp), c, y', rfl, J0, by have := kid_parts hc; omega, fun q2 H' s hq nm => q q2 H' s hq fun c' e => by
                rw [h2] at e
                cases e
                exact nm⟩
          · rw [fl] at hD
            refine ⟨D, (t.kids.map nmOf).flatten, rfl, .inl (.inl hD), by omega, fun a zs na nd hm => ?_⟩
            have hz : zs.length ≤ 12 := Nat.le_trans (nd_len nd fun j hj => (hm j).mp hj) hlen
            have hmm : ∀ j, j ∈ zs ↔ j ∈ t.leaves.map S := fun j => by
              rw [hm j, leaves_eq nn, List.map_flatten, List.map_map, List.mem_flatten, List.mem_flatten]
              constructor
              · rintro ⟨l, hl1, hj⟩
                obtain ⟨c, hc, rfl⟩ := List.mem_map.mp hl1
                obtain ⟨i, hi, e⟩ := List.getElem_of_mem hc
                have N := hP i (by rw [List.length_map]; omega) c (by rw [← e]; exact List.getElem?_eq_getElem hi)
                exact ⟨_, List.mem_map.mpr ⟨c, hc, rfl⟩, (N.2.2 j).mp hj⟩
              · rintro ⟨l, hl1, hj⟩
                obtain ⟨c, hc, rfl⟩ := List.mem_map.mp hl1
                obtain ⟨i, hi, e⟩ := List.getElem_of_mem hc
                have N := hP i (by rw [List.length_map]; omega) c (by rw [← e]; exact List.getElem?_eq_getElem hi)
                exact ⟨_, List.mem_map.mpr ⟨c, hc, rfl⟩, (N.2.2 j).mpr hj⟩
            refine ⟨a, zs, rfl, upd_same, by omega, fun p ys np pm so => ?_⟩
            have nm := nm_of_set nd hmm pm so
            refine ⟨p, _, rfl, .inl ⟨.inl (.inl upd_same), fun l nl => ?_⟩⟩
            refine k l _ (((s2.trans (same_upd na)).trans (same_upd np)).trans (same_upd nl)) ?_ (nm.eq ▸ nm)
            rw [upd_same, ← nm.eq]
end
end K09

namespace K09
open PySem PySem.Spec PyProof.Rows L2 Hk NumM NumT SX
section
variable {P : Program} {w : World} {K : Fr} {mg : Str → Option Value} {base : Heap}
/-- the objects of these expressions -/
def SigsAt (K : Fr) (H : Hp) (d : Nat) (cs : List Tree) (xs : List Addr) : Prop := xs.length = cs.length ∧ ∀ (i : Nat) (y : Addr) (c : Tree), xs[i]? = some y → cs[i]? = some c → SigAt K H d c y
theorem SigsAt.same {H H' : Hp} {d : Nat} {cs : List Tree} {xs : List Addr} (h : SigsAt K H d cs xs) (s : Same H H') : SigsAt K H' d cs xs := ⟨h.1, fun i y c h1 h2 => (h.2 i y c h1 h2).same s⟩
def sgI (txt : Str) (tp : Addr) (am : V) (cs : List Tree) : List (Str × V) := [("_text", .str txt), ("_inside", .ref tp), ("_amount", am), ("_parts", .int (1 + (cs.map Tree.parts).sum : Nat)), ("_depth", .int (1 + maxL (cs.map Tree.deep) : Nat))]
/-- Signal.__init__ on a bare object -/
def spSgI (K : Fr) : Sp := fun vs H Q _ => ∃ (d : Nat) (x dx tp C : Addr) (txt : Str) (am : V) (cs : List Tree) (xs : List Addr), vs = [.ref x, .str txt, .ref tp, am] ∧ H x = some (.ins C dx []) ∧ Cls K C ∧ (∀ f ∈ FL, NoAttr K C f) ∧ H tp = some (.tup (xs.map V.ref)) ∧
  SigsAt K H d cs xs ∧ cs.length ≤ 5 ∧ 1 + (cs.map Tree.parts).sum ≤ 12 ∧ 1 + maxL (cs.map Tree.deep) ≤ 5 ∧ ∀ H', Same H H' → Q .non (upd H' x (.ins C dx (sgI txt tp am cs)))
abbrev tPt (K : Fr) (f : Str) (g : Fr → Addr) (F : Tree → V) : TE := tPropA K (He.ma K (He.ga K "Signal") f) (g K) f (spSg K F) (tVar 5)
theorem f_sginit (T : Tx K mg) : ∃ fd, DAt K d_Signal_init fd ∧ FnOk P w K mg base CX0 3 (d_Signal_init.ad K) fd ["self", "text", "inside", "amount"] (spSgI K) := by
  obtain ⟨fd, D⟩ := a_Signal_init T.c
  obtain ⟨fp, Dp, Fp⟩ := f_sgparts (P := P) (w := w) (base := base) T
  obtain ⟨fe, De, Fe⟩ := f_sgdepth (P := P) (w := w) (base := base) T
  have bp : Binds K fp ["self"] [] := FunD.bindsN Dp fun _ _ _ _ _ _ us hl => match us, hl with | [_], _ => rfl
  have be : Binds K fe ["self"] [] := FunD.bindsN De fun _ _ _ _ _ _ us hl => match us, hl with | [_], _ => rfl
  obtain ⟨kP, iP⟩ := i_MAX_PARTS T
  obtain ⟨kD, iD⟩ := i_MAX_DEPTH T
  refine ⟨fd, D, ok_of (k := 2) (N := ["self", "text", "inside", "amount", "parts", "signal", "depth"]) D sc_Signal_init (fun vs H Q E h => ?_) (fun cdv A outer s H vs Q E hr h => ?_)⟩
  · obtain ⟨d, x, dx, tp, C, txt, am, cs, xs, rfl, _⟩ := h
    rfl
  · obtain ⟨d, x, dx, tp, C, txt, am, cs, xs, rfl, hx, hC, hN, ht, sg, n5, p12, d5, k⟩ := h
    refine ⟨_, (pss_cons (ps_set (i := 4) sc_Signal_init.nd rfl (.inl rfl) (pe_op op_add pe_int (pe_callB (cr_sum rfl) (by rfl) (n_sum T) bo_sum (pa_cons (pe_lc (own := [("signal", 5)]) (g := gName 5) (tt := tYes) (te := tPt K "parts" d_Signal_parts.ad fun t => .int t.parts) rfl sc_Signal_init.nd (pi_tup (pv 2)) (blkOk_by (N := ["self", "text", "inside", "amount", "parts", "signal", "depth"]) (sc := defScope s_Signal_init) (by decide +kernel)) (fun _ _ _ _ _ => pg_name (i := 5) sc_Signal_init.nd rfl (.inl rfl)) (fun _ _ _ _ _ => pts_nil) (fun _ _ _ _ _ => (pe_propA (pv 5) Fp hr bp))) pa_nil))))
 (pss_cons (ps_set (i := 6) sc_Signal_init.nd rfl (.inl rfl) (pe_op op_add pe_int (pe_callBK (cr_maxD rfl) (by rfl) (n_max T) bo_max (pa_cons (pe_lc (own := [("signal", 5)]) (g := gName 5) (tt := tYes) (te := tPt K "depth" d_Signal_depth.ad fun t => .int t.deep) rfl sc_Signal_init.nd (pi_tup (pv 2)) (blkOk_by (N := ["self", "text", "inside", "amount", "parts", "signal", "depth"]) (sc := defScope s_Signal_init) (by decide +kernel)) (fun _ _ _ _ _ => pg_name (i := 5) sc_Signal_init.nd rfl (.inl rfl)) (fun _ _ _ _ _ => pts_nil) (fun _ _ _ _ _ => (pe_propA (pv 5) Fe hr be))) pa_nil) (pk_cons pe_int pk_nil))))
 (pss_cons (ps_if (pt_cmpR op_gt (pv 4) (pe_glob (v := .int 12) rfl iP ⟨_, rfl⟩) (nomark _))
 (pss_one ps_never)
 pss_nil)
 (pss_cons (ps_if (pt_cmpR op_gt (pv 6) (pe_glob (v := .int 5) rfl iD ⟨_, rfl⟩) (nomark _))
 (pss_one ps_never)
 pss_nil)
 (pss_cons (ps_fld (pv 0) (pv 1) rfl)
 (pss_cons (ps_fld (pv 0) (pv 2) rfl)
 (pss_cons (ps_fld (pv 0) (pv 3) rfl)
 (pss_cons (ps_fld (pv 0) (pv 4) rfl)
 (pss_one (ps_fld (pv 0) (pv 6) rfl)))))))))), ?_⟩
    have sq : SqT K H tp (xs.map V.ref) := .inl (.inl ht)
    have hlen : ∀ F : Tree → Nat, (xs.map V.ref).length = (cs.map fun c => V.int (F c : Nat)).length := fun F => by
      rw [List.length_map, List.length_map]
      exact sg.1
    have hz : (xs.map V.ref).length ≤ 100000 := by
      rw [List.length_map, sg.1]
      omega
    refine ⟨_, rfl, tp, rfl, ⟨_, sq⟩, fun D nD => ?_⟩
    refine lc_idxT (cs.map fun c => V.int (c.parts : Nat)) (hlen Tree.parts) nD sq hz (fun j v y hv hy H2 R s2 q => ?_) (fun H2 s2 hD => ?_)
    · rw [List.getElem?_map] at hv hy
      obtain ⟨y', h1, rfl⟩ := Option.map_eq_some_iff.mp hv
      obtain ⟨c, h2, rfl⟩ := Option.map_eq_some_iff.mp hy
      have J := (sg.2 j y' c h1 h2).same s2
      have J0 := J
      cases J with
      | mk jh jt jl j5 jne jtl jk => exact ⟨_, rfl, CT K c, y', _, _, rfl, jh, cl_of T c, sub_prop (sub_of T c) (by simp), _, c, y', rfl, J0, q _ (Same.refl _)⟩
    have e1 : (1 : Int) + (cs.map fun c => (c.parts : Int)).sum = ((1 + (cs.map Tree.parts).sum : Nat) : Int) := by
      rw [sum_cast]
      omega
    refine ⟨D, cs.map fun c => (c.parts : Int), rfl, .inl (.inl ?_), _, _, rfl, rfl, ?_⟩
    · rw [hD, List.map_map]
      rfl
    have sq2 : SqT K H2 tp (xs.map V.ref) := .inl (.inl (s2 _ _ ht))
    refine ⟨_, rfl, tp, rfl, ⟨_, sq2⟩, fun D2 nD2 => ?_⟩
    refine lc_idxT (cs.map fun c => V.int (c.deep : Nat)) (hlen Tree.deep) nD2 sq2 hz (fun j v y hv hy H3 R s3 q => ?_) (fun H3 s3 hD3 => ?_)
    · rw [List.getElem?_map] at hv hy
      obtain ⟨y', h1, rfl⟩ := Option.map_eq_some_iff.mp hv
      obtain ⟨c, h2, rfl⟩ := Option.map_eq_some_iff.mp hy
      have J := (sg.2 j y' c h1 h2).same (s2.trans s3)
      have J0 := J
      cases J with
      | mk jh jt jl j5 jne jtl jk => exact ⟨_, rfl, CT K c, y', _, _, rfl, jh, cl_of T c, sub_prop (sub_of T c) (by simp), _, c, y', rfl, J0, q _ (Same.refl _)⟩
    have key : ∀ m : Int, (((cs.map fun c => (c.deep : Int)) = [] ∧ m = 0) ∨ (m ∈ (cs.map fun c => (c.deep : Int)) ∧ ∀ y, y ∈ (cs.map fun c => (c.deep : Int)) → y ≤ m)) → m = ((maxL (cs.map Tree.deep) : Nat) : Int) := by
      rintro m (⟨h0, rfl⟩ | ⟨hm, hx⟩)
      · have : cs = [] := List.map_eq_nil_iff.mp h0
        rw [this]
        rfl
      · refine max_is (List.mem_cons_of_mem _ hm) fun y hy => ?_
        rcases List.mem_cons.mp hy with rfl | hy
        · obtain ⟨c, _, rfl⟩ := List.mem_map.mp hm
          omega
        · exact hx y hy
    refine ⟨D2, cs.map fun c => (c.deep : Int), 0, rfl, rfl, .inl (.inl ?_), fun m hm => ?_⟩
    · rw [hD3, List.map_map]
      rfl
    have em := key m hm
    have e2 : (1 : Int) + m = ((1 + maxL (cs.map Tree.deep) : Nat) : Int) := by omega
    refine ⟨_, _, rfl, rfl, ?_⟩
    refine ⟨_, rfl, _, _, rfl, rfl, _, rfl, ?_⟩
    refine ite2 (fun z => absurd (of_decide_eq_true z) (by rw [e1]; omega)) (fun _ => ?_)
    refine ⟨_, rfl, _, _, rfl, rfl, _, rfl, ?_⟩
    refine ite2 (fun z => absurd (of_decide_eq_true z) (by rw [e2]; omega)) (fun _ => ?_)
    have hx3 : H3 x = some (.ins C dx []) := s3 _ _ (s2 _ _ hx)
    refine ⟨_, rfl, _, rfl, x, C, dx, _, rfl, hx3, hC, hN _ (by simp), (by show 0 < 1000; decide), ?_⟩
    refine ⟨_, rfl, _, rfl, x, C, dx, _, rfl, upd_same, hC, hN _ (by simp), (by show 1 < 1000; decide), ?_⟩
    refine ⟨_, rfl, _, rfl, x, C, dx, _, rfl, upd_same, hC, hN _ (by simp), (by show 2 < 1000; decide), ?_⟩
    refine ⟨_, rfl, _, rfl, x, C, dx, _, rfl, upd_same, hC, hN _ (by simp), (by show 3 < 1000; decide), ?_⟩
    refine ⟨_, rfl, _, rfl, x, C, dx, _, rfl, upd_same, hC, hN _ (by simp), (by show 4 < 1000; decide), ?_⟩
    show Q .non _
    rw [upd_upd, upd_upd, upd_upd, upd_upd]
    have k' := k H3 (s2.trans s3)
    unfold sgI at k'
    rw [← e1, ← e2] at k'
    exact k'
end
end K09

namespace K09
open PySem PySem.Spec PyProof.Rows L2 Hk NumM NumT SX
/-- what str says of an argument -/
inductive ArgT (K : Fr) (H : Hp) : V → Str → Prop
  | sig {d : Nat} {t : Tree} {x : Addr} (h : SigAt K H d t x) : ArgT K H (.ref x) t.tell
  | num {p : Addr} {t b : Int} (h : NumAt (CN K) H p t b) (st : Sz t) (sb : Sz b) : ArgT K H (.ref p) (S (fL t b))
  | int {n : Int} (h : Sz n) : ArgT K H (.int n) (S (iL n))
theorem ArgT.same {K : Fr} {H H' : Hp} {v : V} {s : Str} (a : ArgT K H v s) (e : Same H H') : ArgT K H' v s := by
  cases a with
  | sig h => exact .sig (h.same e)
  | num h st sb => exact .num (h.same e) st sb
  | int h => exact .int h
def wrS (w : Str) (ss : List Str) : Str := w ++ ("(" : Str) ++ Str.join (", " : Str) ss ++ (")" : Str)
section
variable {P : Program} {w : World} {K : Fr} {mg : Str → Option Value} {base : Heap}
def rArg (K : Fr) : List V → Hp → VK → Prop := fun xs H Q => rTextA K "__str__" (d_Signal_str.ad K) (spSg K fun t => .str t.tell) xs H Q ∨ (rText (CN K) (spGet (CN K) fun t b => .str (S (fL t b))) xs H Q ∨ ∃ i : Int, xs = [.int i] ∧ i.natAbs.log2 < 1920 ∧ Q (.str (toString i)) H)
theorem call_arg {X : Cx} {fs fn : FuncData} (O : Own X.K (CN X.K) "__str__" (d_Number_str.ad X.K)) (Fs : FnOk X.prog X.w X.K X.mg X.base CX0 1 (d_Signal_str.ad X.K) fs ["self"] (spSg X.K fun t => .str t.tell)) (bs : Binds X.K fs ["self"] [])
    (Fn : FnOk X.prog X.w X.K X.mg X.base CX0 1 (d_Number_str.ad X.K) fn ["self"] (spGet (CN X.K) fun t b => .str (S (fL t b)))) (bn : Binds X.K fn ["self"] []) (hr : Room 3 X.A) : CallR X (.type "str") (rArg X.K) :=
  callr_or (call_strA Fs bs hr) (callr_or (call_strO O Fn bn hr) call_str_int)
def spW (K : Fr) : Sp := fun vs H Q _ => ∃ (wd : Str) (tp : Addr) (xs : List V) (ss : List Str), vs = [.str wd, .ref tp] ∧ H tp = some (.tup xs) ∧ xs.length = ss.length ∧ ss.length ≤ 5 ∧ (∀ (i : Nat) (v : V) (s : Str), xs[i]? = some v → ss[i]? = some s → ArgT K H v s) ∧
  (wrS wd ss).length ≤ 1000000 ∧ ∀ H', Same H H' → Q (.str (wrS wd ss)) H'
theorem c_wr (T : Tx K mg) : Cal P w K mg base 4 "_written" (gAd "_written" K) ["word", "arguments"] (spW K) := by
  obtain ⟨fs, Ds, Fs⟩ := f_sgstr (P := P) (w := w) (base := base) T
  obtain ⟨fn, Dn, Fn⟩ := f_str (P := P) (w := w) (base := base) T
  have bs : Binds K fs ["self"] [] := FunD.bindsN Ds fun _ _ _ _ _ _ us hl => match us, hl with | [_], _ => rfl
  have bn : Binds K fn ["self"] [] := FunD.bindsN Dn fun _ _ _ _ _ _ us hl => match us, hl with | [_], _ => rfl
  refine cal_of (d := d_written) (N := ["word", "arguments", "between", "argument"]) (a_written T.c) rfl sc_written (g_written T) (fun _ _ _ _ _ _ us hl => match us, hl with | [_, _], _ => rfl) (fun vs H Q E h => ?_) (fun cdv A outer s H vs Q E hr h => ?_)
  · obtain ⟨wd, tp, xs, ss, rfl, _⟩ := h
    rfl
  · obtain ⟨wd, tp, xs, ss, rfl, ht, hl, n5, ha, hz, k⟩ := h
    refine ⟨_, (pss_cons (ps_set (i := 2) sc_written.nd rfl (.inl rfl) (pe_join pe_str (pe_lc (own := [("argument", 3)]) (g := gName 3) (tt := tYes) rfl sc_written.nd (pi_tup (pv 1)) (blkOk_by (N := ["word", "arguments", "between", "argument"]) (sc := defScope s_written) (by decide +kernel)) (fun _ _ _ _ _ => pg_name (i := 3) sc_written.nd rfl (.inl rfl)) (fun _ _ _ _ _ => pts_nil) (fun _ _ _ _ _ => (pe_callTy (call_arg (own_ok (f_meth_str T.c)) Fs bs Fn bn hr : CallR _ _ (rArg K)) (by rfl) (n_str T) bo_str (pa_cons (pv 3) pa_nil))))))
 (pss_one (ps_ret (pe_joined (.cons (pe_fmt (pv 0)) (.cons pe_str (.cons (pe_fmt (pv 2)) (.cons pe_str .nil)))))))), ?_⟩
    have l1 : ("(" : Str).length = 1 := rfl
    have l2 : (")" : Str).length = 1 := rfl
    have l3 : (", " : Str).length = 2 := rfl
    refine ⟨⟨_, rfl⟩, _, rfl, tp, rfl, ⟨_, .inl (.inl ht)⟩, fun D nD => ?_⟩
    refine lc_idxT (ss.map V.str) (by rw [List.length_map]; exact hl) nD (.inl (.inl ht)) (by omega) (fun j v y hv hy H2 R s2 q => ?_) (fun H2 s2 hD => ?_)
    · rw [List.getElem?_map] at hy
      obtain ⟨s, h1, rfl⟩ := Option.map_eq_some_iff.mp hy
      cases (ha j v s hv h1).same s2 with
      | @sig d t x h =>
        have J0 := h
        cases h with
        | mk jh jt jl j5 jne jtl jk => exact ⟨_, rfl, .inl ⟨CT K t, sub_own (sub_of T t) (by simp), x, _, _, rfl, jh, _, t, x, rfl, J0, _, rfl, q _ (Same.refl _)⟩⟩
      | @num p t b h st sb =>
        obtain ⟨dx, hp⟩ := id h.at_
        exact ⟨_, rfl, .inr (.inl ⟨p, dx, _, rfl, hp, p, t, b, rfl, h, st, sb, _, rfl, q _ (Same.refl _)⟩)⟩
      | @int n h =>
        refine ⟨_, rfl, .inr (.inr ⟨n, rfl, Hk.log2_small h, ?_⟩)⟩
        rw [toS]
        exact q _ (Same.refl _)
    · have hT : (Txt.join (", " : Str) ss) = Str.join (", " : Str) ss := StrLaws.glued_eq_join _ _
      have hs := len_join_ge_sum (", " : Str) ss
      rw [hT] at hs
      have hw : wd.length + 1 + (Str.join (", " : Str) ss).length + 1 ≤ 1000000 := by
        have := hz
        unfold wrS at this
        rw [str_len, str_len, str_len, l1, l2] at this
        exact this
      refine ⟨", ", D, ss, rfl, rfl, .inl (.inl (.inl hD)), ?_, ?_⟩
      · rw [l3]
        exact big6 (by omega)
      · rw [hT]
        refine ⟨_, rfl, .inl ⟨_, rfl, big6 (by omega), _, rfl, ?_, _, rfl, ?_, _, rfl, .inl ⟨_, rfl, big6 (by omega), _, rfl, ?_, _, rfl, ?_, ?_⟩⟩⟩
        · rw [empty_app]
          exact big6 (by omega)
        · rw [empty_app, str_len]
          exact big6 (by omega)
        · rw [empty_app, str_len, str_len]
          exact big6 (by omega)
        · rw [empty_app, str_len, str_len, str_len]
          exact big6 (by omega)
        · rw [empty_app]
          exact k _ s2
end
end K09

namespace K09
open PySem PySem.Spec PyProof.Rows L2 Hk NumM NumT SX
theorem letters : ("abcdefghijklmnopqrstuvwxyz" : Str).cps.toList = signsL.take 26 := by decide +kernel
theorem nsigns : ("abcdefghijklmnopqrstuvwxyz0123456789" : Str).cps.toList = signsL := by decide +kernel
section
variable {P : Program} {w : World} {K : Fr} {mg : Str → Option Value} {base : Heap}
theorem s_LETTERS (T : Tx K mg) : ∃ t, mg "LETTERS" = some (.str "abcdefghijklmnopqrstuvwxyz" t) := by
  obtain ⟨h, X, G⟩ := T.g
  exact He.str_ok X G (f_str_LETTERS T.c)
theorem s_NAME_SIGNS (T : Tx K mg) : ∃ t, mg "NAME_SIGNS" = some (.str "abcdefghijklmnopqrstuvwxyz0123456789" t) := by
  obtain ⟨h, X, G⟩ := T.g
  exact He.str_ok X G (f_str_NAME_SIGNS T.c)
def spBetween : Sp := fun vs H Q _ => ∃ i a b : Int, vs = [.int i, .int a, .int b] ∧ a ≤ i ∧ i ≤ b ∧ Q (.bl true) H
theorem c_between (T : Tx K mg) : Cal P w K mg base 2 "_is_between" (gAd "_is_between" K) ["value", "least", "greatest"] spBetween := by
  have C_is_integer := c_isint (P := P) (w := w) (base := base) T
  refine cal_of (d := d_is_between) (N := ["value", "least", "greatest"]) (a_is_between T.c) rfl sc_is_between (g_is_between T) (fun _ _ _ _ _ _ us hl => match us, hl with | [_, _, _], _ => rfl) (fun vs H Q E h => ?_) (fun cdv A outer s H vs Q E hr h => ?_)
  · obtain ⟨i, a, b, rfl, _⟩ := h
    rfl
  · obtain ⟨i, a, b, rfl, h1, h2, k⟩ := h
    refine ⟨_, (pss_one (ps_ret (pe_and (pe_c C_is_integer hr (pa_cons (pv 0) pa_nil)) (pe_one (pe_chain op_le op_le (pv 1) (pv 0) (pv 2)))))), ?_⟩
    refine ⟨_, rfl, i, rfl, true, rfl, iteT ?_⟩
    refine ⟨_, rfl, _, rfl, a, i, rfl, rfl, _, rfl, iteTd h1 ?_⟩
    refine ⟨_, rfl, i, b, rfl, rfl, ?_⟩
    show Q (.bl (decide (i ≤ b))) H
    rw [decide_eq_true h2]
    exact k
def spIsNumber (K : Fr) : Sp := fun vs H Q _ => ∃ (y : V) (u c : Int), vs = [y] ∧ Opd (CN K) H y u c ∧ Q (.bl true) H
theorem c_isnum (T : Tx K mg) : Cal P w K mg base 2 "is_number" (gAd "is_number" K) ["value"] (spIsNumber K) := by
  have C_is_integer := c_isint (P := P) (w := w) (base := base) T
  refine cal_of (d := d_is_number) (N := ["value"]) (a_is_number T.c) rfl sc_is_number (g_is_number T) (fun _ _ _ _ _ _ us hl => match us, hl with | [_], _ => rfl) (fun vs H Q E h => ?_) (fun cdv A outer s H vs Q E hr h => ?_)
  · obtain ⟨y, u, c, rfl, _⟩ := h
    rfl
  · obtain ⟨y, u, c, rfl, o, k⟩ := h
    refine ⟨_, (pss_one (ps_ret (pe_or (pe_callB call_isi (by rfl) (n_isinstance T) bo_isinstance (pa_cons (pv 0) (pa_cons (pe_glob (v := .ref (gAd "Number" K)) rfl (g_Number T) rfl) pa_nil))) (pe_one (pe_c C_is_integer hr (pa_cons (pv 0) pa_nil)))))), ?_⟩
    rcases o with ⟨q, rfl, N⟩ | ⟨rfl, rfl⟩
    · obtain ⟨dx, hp⟩ := id N.at_
      refine ⟨_, rfl, _, _, _, _, true, rfl, .own _, .base (ins_ok (f_ins T.c) hp (cl T)), of_decide_eq_true (f_kitO T.c), true, rfl, iteT k⟩
    · refine ⟨_, rfl, _, _, _, _, false, rfl, .own _, .base (.int _), of_decide_eq_true (f_kit_int T.c), false, rfl, iteF ?_⟩
      exact ⟨_, rfl, u, rfl, k⟩
def spIsName : Sp := fun vs H Q _ => ∃ l : List Nat, vs = [.str (S l)] ∧ Nm l ∧ ∀ H', Same H H' → Q (.bl true) H'
theorem c_isname (T : Tx K mg) : Cal P w K mg base 1 "is_name" (gAd "is_name" K) ["value"] spIsName := by
  obtain ⟨k1, i1⟩ := i_MAX_NAME T
  obtain ⟨k2, i2⟩ := s_LETTERS T
  obtain ⟨k3, i3⟩ := s_NAME_SIGNS T
  refine cal_of (d := d_is_name) (N := ["value", "sign"]) (a_is_name T.c) rfl sc_is_name (g_is_name T) (fun _ _ _ _ _ _ us hl => match us, hl with | [_], _ => rfl) (fun vs H Q E h => ?_) (fun cdv A outer s H vs Q E hr h => ?_)
  · obtain ⟨l, rfl, _⟩ := h
    rfl
  · obtain ⟨l, rfl, nm, k⟩ := h
    refine ⟨_, (pss_cons (ps_if (PW.pt (pw_or (pt_not (pt_val (pe_callB call_isi (by rfl) (n_isinstance T) bo_isinstance (pa_cons (pv 0) (pa_cons (pe_bltn (v := .ty "str") (by rfl) (n_str T) (by decide +kernel) rfl) pa_nil))))) (pw_or1 (pt_not (pt_chain op_le op_le pe_int (pe_callB call_len_str (by rfl) (n_len T) bo_len (pa_cons (pv 0) pa_nil)) (pe_glob (v := .int 8) rfl i1 ⟨_, rfl⟩))))))
 (pss_one (ps_ret pe_bl))
 pss_nil)
 (pss_one (ps_ret (pe_and (pe_cmpR op_in_sign (pe_ix ix_str (pv 0) pe_int (fun _ _ => rfl)) (pe_glob (v := .str "abcdefghijklmnopqrstuvwxyz") rfl i2 ⟨_, rfl⟩) (by rfl)) (pe_one (pe_callB (cr_all rfl) (by rfl) (n_all T) bo_all (pa_cons (pe_lc (own := [("sign", 1)]) (g := gName 1) (tt := tYes) rfl sc_is_name.nd (pi_str (pv 0)) (blkOk_by (N := ["value", "sign"]) (sc := defScope s_is_name) (by decide +kernel)) (fun _ _ _ _ _ => pg_name (i := 1) sc_is_name.nd rfl (.inl rfl)) (fun _ _ _ _ _ => pts_nil) (fun _ _ _ _ _ => (pe_cmpR op_in_sign (pv 1) (pe_glob (v := .str "abcdefghijklmnopqrstuvwxyz0123456789") rfl i3 ⟨_, rfl⟩) (by rfl)))) pa_nil))))))), ?_⟩
    have lo := nm.lo
    have hi := nm.hi
    refine ⟨_, rfl, _, _, .type "str", .type "str", true, rfl, .ty _, .base (.str _), kit_ty (by decide +kernel), true, rfl, iteF ?_⟩
    refine ⟨_, rfl, _, rfl, by rw [S_len]; exact big6 (by omega), 1, _, rfl, rfl, _, rfl, iteTd (by rw [S_len]; omega) ?_⟩
    refine ⟨_, _, rfl, rfl, _, rfl, ?_⟩
    rw [decide_eq_true (by rw [S_len]; omega)]
    refine iteF ?_
    obtain ⟨c, r, rfl⟩ : ∃ c r, l = c :: r := by
      cases l with
      | nil => simp at lo
      | cons c r => exact ⟨c, r, rfl⟩
    have hc : c ∈ ("abcdefghijklmnopqrstuvwxyz" : Str).cps.toList := by
      rw [letters]
      exact nm.hd c rfl
    refine ⟨_, rfl, _, 0, c, rfl, rfl, by rw [S_len]; exact big6 (by omega), atI_nat (j := 0) rfl, c, _, rfl, rfl, _, rfl, iteTd hc ?_⟩
    refine ⟨_, rfl, _, rfl, fun D nD => ?_⟩
    refine lc_fnS (z := S (c :: r)) (fun c => .bl (decide (c ∈ signsL))) nD (by show (c :: r).length ≤ _; omega) (fun d hd H2 R s2 q => ⟨_, rfl, d, _, rfl, rfl, ?_⟩) (fun H2 s2 hD => ?_)
    · have e := q H2 (Same.refl H2)
      rw [← nsigns] at e
      exact e
    · refine ⟨D, (c :: r).map fun c => decide (c ∈ signsL), rfl, .inl (.inl ?_), ?_⟩
      · rw [hD, List.map_map]
        rfl
      · have e : ((c :: r).map fun c => decide (c ∈ signsL)).all id = true := by
          rw [List.all_map]
          exact List.all_eq_true.mpr fun x hx => decide_eq_true (nm.al x hx)
        show Q (.bl _) H2
        rw [e]
        exact k H2 s2
end
end K09

namespace K09
open PySem PySem.Spec PyProof.Rows L2 Hk NumM NumT SX
section
variable {P : Program} {w : World} {K : Fr} {mg : Str → Option Value} {base : Heap}
theorem gain_sz {t b : Int} (g : GainOk t b) : Sz t ∧ Sz b := ⟨Nat.lt_of_le_of_lt g.t1 (by decide +kernel), Nat.lt_of_le_of_lt g.b1 (by decide +kernel)⟩
def spIsGain (K : Fr) : Sp := fun vs H Q _ => ∃ (y : V) (u c : Int), vs = [y] ∧ Opd (CN K) H y u c ∧ GainOk u c ∧ ∀ H', Same H H' → Q (.bl true) H'
theorem c_isgain (T : Tx K mg) : Cal P w K mg base 5 "_is_gain" (gAd "_is_gain" K) ["value"] (spIsGain K) := by
  have C_is_number := c_isnum (P := P) (w := w) (base := base) T
  have C_as_number := c_asnum (P := P) (w := w) (base := base) T
  obtain ⟨ft, Dt, Ft⟩ := f_top (P := P) (w := w) (base := base) T
  obtain ⟨fb, Db, Fb⟩ := f_bottom (P := P) (w := w) (base := base) T
  have bt : Binds K ft ["self"] [] := FunD.bindsN Dt fun _ _ _ _ _ _ us hl => match us, hl with | [_], _ => rfl
  have bb : Binds K fb ["self"] [] := FunD.bindsN Db fun _ _ _ _ _ _ us hl => match us, hl with | [_], _ => rfl
  obtain ⟨k1, i1⟩ := i_MAX_GAIN T
  refine cal_of (d := d_is_gain) (N := ["value", "number"]) (a_is_gain T.c) rfl sc_is_gain (g_is_gain T) (fun _ _ _ _ _ _ us hl => match us, hl with | [_], _ => rfl) (fun vs H Q E h => ?_) (fun cdv A outer s H vs Q E hr h => ?_)
  · obtain ⟨y, u, c, rfl, _⟩ := h
    rfl
  · obtain ⟨y, u, c, rfl, o, g, k⟩ := h
    have hr2 : Room 2 _ := hr.mono (by decide)
    refine ⟨_, (pss_cons (ps_if (pt_not (pt_val (pe_c C_is_number hr2 (pa_cons (pv 0) pa_nil))))
 (pss_one (ps_ret pe_bl))
 pss_nil)
 (pss_cons (ps_set (i := 1) sc_is_gain.nd rfl (.inl rfl) (pe_c C_as_number hr (pa_cons (pv 0) pa_nil)))
 (pss_one (ps_ret (pe_and (pe_cmpR op_le (pe_callB call_abs (by rfl) (n_abs T) bo_abs (pa_cons (pe_prop (pv 1) (cl T) (prop_ok (f_prop_top T.c)) Ft hr2 bt .nil pass0 rfl) pa_nil)) (pe_glob (v := .int 99) rfl i1 ⟨_, rfl⟩) (nomark _)) (pe_one (pe_cmpR op_le (pe_prop (pv 1) (cl T) (prop_ok (f_prop_bottom T.c)) Fb hr2 bb .nil pass0 rfl) (pe_glob (v := .int 99) rfl i1 ⟨_, rfl⟩) (nomark _)))))))), ?_⟩
    have sz := gain_sz g
    refine ⟨_, rfl, y, u, c, rfl, o, true, rfl, iteF ?_⟩
    refine ⟨_, rfl, y, u, c, rfl, o, sz.1, fun H1 q s1 N => ?_⟩
    obtain ⟨dx, hq⟩ := id N.at_
    refine ⟨_, rfl, q, dx, _, rfl, hq, q, u, c, rfl, N, sz.1, sz.2, u, rfl, _, _, rfl, rfl, _, rfl, iteTd ?_ ?_⟩
    · have := g.t1
      split <;> omega
    · refine ⟨_, rfl, q, dx, _, rfl, hq, q, u, c, rfl, N, sz.1, sz.2, _, _, rfl, rfl, ?_⟩
      show Q (.bl (decide (c ≤ 99))) H1
      rw [decide_eq_true (by have := g.b1; have := g.pos; omega)]
      exact k _ s1
end
end K09

/-! for i, x in enumerate(t), t a tuple. -/
namespace Hen
open PySem PySem.Spec PyProof.Rows L2
open AutoSeq1 (wpAny_loadPart')
theorem meets_newT (l : Addr) (items : Array Value) (n : Nat) (dct : Option Addr) (sl : Array (Option Value)) :
    Meets (Builtin.«enumerate.__new__» ⟨[.type "enumerate", .ref l], []⟩) (fun _ R s => s.heap.get? l = some { cls := .type "tuple", dict := dct, data := .seq items n, slots := sl } ∧
      R (.ok (.ret (.ref (s.heap.push { cls := .type "tuple_iterator", data := .fields #[.ref l, .int 0 0] }).objs.size)))
        { s with heap := (s.heap.push { cls := .type "tuple_iterator", data := .fields #[.ref l, .int 0 0] }).push { cls := .type "enumerate", data := .fields #[.none, .bool false, .ref s.heap.objs.size, rawInt 0, .none, .none] } }) :=
  .of_wp fun prog w A R s h => by
    obtain ⟨hp, g, d, tk, os⟩ := s
    obtain ⟨hl, h⟩ := h
    have hsub := sub_enumerate
    have hL : Heap.IsTuple (Shared.heap ⟨hp, g, d, tk, os⟩) l items := ⟨_, hl, rfl, n, rfl⟩
    wp_walk using wpAny_loadPart' hl
    refine wpAny_stack_any fun st => wpAny_pure ?_
    split
    · rename_i c _ _ _ _ _
      cases (c == Value.type "enumerate")
      · wp_walk using wpAny_loadPart' hl, wpAny_pyIter_tuple hL
        exact ⟨_, rfl, h⟩
      · wp_walk using wpAny_loadPart' hl, wpAny_pyIter_tuple hL
        exact ⟨_, rfl, h⟩
    · wp_walk using wpAny_loadPart' hl, wpAny_pyIter_tuple hL
      exact ⟨_, rfl, h⟩
theorem call_enumT {prog : Program} {w : World} {A : Around} {E : Value → Shared → Prop} {s : Shared} {l : Addr} {items : Array Value} {Q : Value → Shared → Prop} (hL : s.heap.IsTuple l items)
    (h : ∀ h', IsEnum h' (s.heap.objs.size + 1) s.heap.objs.size 0 .none → h'.IsTupleIter s.heap.objs.size l 0 → (∀ b o, s.heap.get? b = some o → h'.get? b = some o) → Q (.ref (s.heap.objs.size + 1)) { s with heap := h' }) :
    wpAny (model prog w) A (call (.type "enumerate") [.ref l]) Q E s := by
  obtain ⟨⟨c, dct, dt, sl⟩, hl, hc, n, hd⟩ := hL
  replace hc : c = .type "tuple" := hc
  replace hd : dt = .seq items n := hd
  subst hc hd
  refine callType_new PySem.F.called_enumerate (by decide) (PySem.F.typeCall_enumerate_1 _) (PySem.F.newCall_enumerate_1 _) (fun obj => PySem.F.args_object_init_2 obj _) PySem.F.entry_enumerate_new (meets_newT l items n dct sl) ⟨hl, ?_⟩
  have hz : (s.heap.push { cls := .type "tuple_iterator", data := .fields #[.ref l, .int 0 0] }).objs.size = s.heap.objs.size + 1 := Heap.size_push ..
  show _ ∧ _
  rw [hz]
  have he := Heap.get?_push_size (s.heap.push { cls := .type "tuple_iterator", data := .fields #[.ref l, .int 0 0] }) (o := { cls := .type "enumerate", data := .fields #[.none, .bool false, .ref s.heap.objs.size, rawInt 0, .none, .none] }) rfl
  rw [hz] at he
  exact ⟨⟨_, he, rfl⟩, h _ he ⟨_, Heap.get?_push_of_some _ (Heap.get?_push_size _ rfl), rfl, rfl⟩ fun b o x => Heap.get?_push_of_some _ (Heap.get?_push_of_some _ x)⟩
/-- the items of the tuple at a, each in a new pair with its index -/
def IteT (K : PySem.W.Frag) (a : Addr) : It :=
  ⟨fun i H => ∃ (xs : List V) (x : V), SqT K H a xs ∧ xs[i]? = some x, fun i H v H' => ∃ T x, v = .ref T ∧ H T = none ∧ H' = upd H T (.tup [.int (i : Nat), x]) ∧ ∀ xs, SqT K H a xs → xs[i]? = some x, fun i H => ∃ xs : List V, SqT K H a xs ∧ xs.length = i⟩
theorem turn_enumT {P : Program} {w : World} {K : PySem.W.Frag} {elts : List Expr} {kk : Nat} {tpos : Pos} (a e it : Addr) :
    Turn P w K (.Tuple elts kk tpos) (IteT K a) [e, it] e (fun i h => (∃ old, IsEnum h e it ((i : Nat) : Int) old) ∧ h.IsTupleIter it a i ∧ e ≠ it) where
  mem := by simp
  obj := fun i h st b hb => by
    obtain ⟨⟨old, he⟩, ⟨o, ho, hc, hd⟩, _⟩ := st
    have e' : b = e ∨ b = it := by simpa using hb
    rcases e' with z | z
    · rw [z]; exact ⟨_, he, fun v q => nomatch q⟩
    · rw [z]; exact ⟨o, ho, fun v q => by rw [hd] at q; cases q⟩
  keep := fun i h h' st k => let ⟨⟨old, he⟩, hi, hne⟩ := st; ⟨⟨old, k e (by simp) _ he⟩, hi.at fun o q => k it (by simp) o q, hne⟩
  item := by
    intro X hP hw hK hc i pins s σ H E I hf st hg
    subst hP hw hK
    obtain ⟨⟨old, he⟩, hit, hne⟩ := st
    obtain ⟨xs, x, hq, hx⟩ := hg
    obtain ⟨its, rv, p, hz⟩ := I.tuple hq
    obtain ⟨u, hu, ru⟩ := rv.get hx
    have hel : e < s.heap.objs.size := Heap.lt_size he
    have hil : it < s.heap.objs.size := by obtain ⟨_, q, _⟩ := hit; exact Heap.lt_size q
    have hae : e ≠ a := by
      rintro rfl
      obtain ⟨o, ho, hc, _⟩ := p
      rw [he] at ho
      rw [← Option.some.inj ho] at hc
      have z : Value.type "enumerate" = Value.type "tuple" := hc
      injection z with z
      exact absurd z (by decide)
    have hai : a ≠ it := by
      rintro rfl
      obtain ⟨o, ho, hc, _⟩ := p
      obtain ⟨o2, ho2, hc2, _⟩ := hit
      rw [ho] at ho2
      rw [Option.some.inj ho2, hc2] at hc
      injection hc with z
      exact absurd z (by decide)
    have hlt : i < its.toArray.size := by
      have := (List.getElem?_eq_some_iff.mp hu).1
      simpa using this
    refine wpAny_pyNext_enum_itemD (Draws.tuple (A := X.A.in1) (I.ok.hd hc) it a hai its.toArray) he ⟨hit, p⟩ hlt hne (by simp [hne, hae]) fun v h' tk hv ho hst hT hsz hk => ?_
    have ev : v = u := by
      have : its[i]? = some v := by simpa using hv
      rw [hu] at this
      exact (Option.some.inj this).symm
    subst ev
    refine ⟨_, rfl, wpAny_letOwnedTupleGo_enum (s := { s with heap := h', toks := tk + 1 }) ho fun h'' he' sb => ?_⟩
    have hT2 : h''.get? s.heap.objs.size = some { cls := .type "tuple", data := .seq #[.int i tk, v] } := (sb.2 _ (Nat.ne_of_gt hel)).trans hT
    have new : ObjOk X.prog X.w (upd H s.heap.objs.size (.tup [.int (i : Nat), x])) h'' s.heap.objs.size (.tup [.int (i : Nat), x]) :=
      ⟨by show 2 ≤ sizeLine; decide, [.int i tk, v], .cons ⟨_, rfl⟩ (.cons ru .nil), ⟨_, hT2, rfl, _, rfl⟩⟩
    have I1 : Inv X pins σ (upd H s.heap.objs.size (.tup [.int (i : Nat), x])) { s with heap := h'', toks := tk + 1 } :=
      I.turnedNew (ch := [e, it]) (fun b ob hb q => (sb.2 b (fun z => hb (by simp [z]))).trans (hk b ob (fun z => hb (by simp [z])) (fun z => hb (by simp [z])) q)) hf (Nat.le_refl _) new
    refine ⟨.ref s.heap.objs.size, _, I1, rfl, ⟨_, x, rfl, I.hok.fresh (Nat.le_refl _), rfl, fun ys hy => by rw [I.tuple_inj hy hq]; exact hx⟩, ⟨⟨v, ?_⟩, hst.1.at fun o q => (sb.2 it (Ne.symm hne)).trans q, hne⟩, fun b hb => ?_⟩
    · have e1 : ((i + 1 : Nat) : Int) = (i : Int) + 1 := by omega
      rw [e1]; exact he'
    · have hb' : b < s.heap.objs.size := by
        have e' : b = e ∨ b = it := by simpa using hb
        rcases e' with z | z
        · rw [z]; exact hel
        · rw [z]; exact hil
      rw [upd_ne (Nat.ne_of_lt hb')]
      exact (hf b hb).1
  done := by
    intro X hP hw hK hc i pins s σ H E I hf st hg
    subst hP hw hK
    obtain ⟨⟨old, he⟩, hit, hne⟩ := st
    obtain ⟨xs, hq, hx⟩ := hg
    obtain ⟨its, rv, p, hz⟩ := I.tuple hq
    obtain ⟨f0, f1, f2, f3, f4, f5⟩ := hf it (by simp)
    have hl := rv.length
    have hai : a ≠ it := by
      rintro rfl
      obtain ⟨o, ho, hc, _⟩ := p
      obtain ⟨o2, ho2, hc2, _⟩ := hit
      rw [ho] at ho2
      rw [Option.some.inj ho2, hc2] at hc
      injection hc with z
      exact absurd z (by decide)
    have hin : i = its.toArray.size := by
      rw [List.size_toArray, ← hl]
      exact hx.symm
    subst hin
    exact wpAny_pyNext_enum_endD (Draws.tuple (A := X.A.in1) (I.ok.hd hc) it a hai its.toArray) he ⟨hit, p⟩ fun h' eb => ⟨rfl, I.turned (t' := s.toks) (fun b o hb q => eb b o hb q) f0 f1 f3 f4 f5⟩
  self := fun A i s Q E st h => let ⟨⟨_, he⟩, _⟩ := st; wpAny_pyIter_enum he h
end Hen
namespace Hk
open PySem PySem.Spec PyProof.Rows L2 Hen
def iEnumT (K : Fr) (ta : TA) : TI := fun σ H R => ta σ H fun vs H1 => ∃ a xs, vs = [.ref a] ∧ SqT K H1 a xs ∧ R (IteT K a) H1
theorem pi_enumT {X : Cx} {e : Expr} {ta : TA} {p pos tpos : Pos} {elts : List Expr} {kk : Nat} (hg : Gl X "enumerate") (hm : X.mg "enumerate" = none) (ha : PA X [e] ta) (hs : starEach [e] X.env = [(false, eval e X.env)] := by rfl) :
    PI X (.Tuple elts kk tpos) (.Call (.Name "enumerate" p) [e] [] pos) (iEnumT X.K ta) := by
  refine ⟨fun pins s σ H R I h => ?_⟩
  refine Call_ (ld_blt I hg hm boot_enumerate (PyProof.Rows.callWith_type1 (thn (ha.run pos pins s σ H _ I h) fun us s1 ⟨vs, H1, I1, r1, q1⟩ => ?_) hs rfl))
  obtain ⟨a, xs, ex, hq, q⟩ := q1
  subst ex
  rw [Vals.ref1 r1]
  obtain ⟨its, rv, p', hz⟩ := I1.tuple hq
  refine call_enumT (show s1.heap.IsTuple a its.toArray from p') fun h' he hit hk => wpAny_pyIter_enum he ?_
  have I2 : Inv X pins σ H1 { s1 with heap := h' } := I1.kept (t' := s1.toks) hk
  refine ⟨s1.heap.objs.size + 1, [s1.heap.objs.size + 1, s1.heap.objs.size], _, _, H1, rfl, I2, turn_enumT a (s1.heap.objs.size + 1) s1.heap.objs.size, ⟨⟨.none, he⟩, hit, Nat.succ_ne_self _⟩, fun b hb => ?_, q⟩
  have e' : b = s1.heap.objs.size + 1 ∨ b = s1.heap.objs.size := by simpa using hb
  have hle : s1.heap.objs.size ≤ b := by
    rcases e' with z | z
    · rw [z]; exact Nat.le_add_right _ _
    · rw [z]; exact Nat.le_refl _
  exact I1.fpOk hle (I1.hok.fresh hle)
end Hk

namespace K09
open PySem PySem.Spec PyProof.Rows L2 Hk NumM NumT SX
theorem str_assoc (x y z : Str) : x ++ y ++ z = x ++ (y ++ z) := by
  rw [← S_tl x, ← S_tl y, ← S_tl z]
  show S _ ++ S _ ++ S _ = S _ ++ (S _ ++ S _)
  rw [S_cat, S_cat, S_cat, S_cat, List.append_assoc]
theorem join2 (a b : Str) : Str.join (", " : Str) [a, b] = a ++ (", " : Str) ++ b := by
  show a ++ (", " : Str) ++ b = _
  rfl
theorem tell_times (t b : Int) (x : Tree) : wrS "times" [S (fL t b), x.tell] = (Tree.times t b x).tell := by
  unfold wrS
  rw [join2, Tree.tell]
  have e : ("times" : Str) ++ ("(" : Str) = ("times(" : Str) := by decide +kernel
  rw [e]
  simp only [str_assoc]
theorem tell_pair (w : Nat) (x : Tree) (n : Int) : wrS (wordOf w) [x.tell, S (iL n)] = (Tree.pair w x n).tell := by
  unfold wrS
  rw [join2, Tree.tell]
  simp only [str_assoc]
theorem tell_sums (ts : List Tree) : wrS "sum" (ts.map Tree.tell) = (Tree.sum ts).tell := by
  unfold wrS
  rw [tell_sum]
  have e : ("sum" : Str) ++ ("(" : Str) = ("sum(" : Str) := by decide +kernel
  rw [e]
section
variable {P : Program} {w : World} {K : Fr} {mg : Str → Option Value} {base : Heap}
theorem sg_eq (t : Tree) (tp : Addr) (am : V) : sgI t.tell tp am t.kids = sgF t tp am := by
  unfold sgI sgF
  rw [← parts_eq, ← deep_eq]
theorem sig_made {H H' : Hp} {d : Nat} {t : Tree} {x dx tp : Addr} {am : V} {xs : List Addr} (hx : H x = some (.ins (CT K t) dx [])) (ht : H tp = some (.tup (xs.map V.ref))) (sg : SigsAt K H d t.kids xs) (n5 : t.kids.length ≤ 5) (ne : t.kids = [] → ∃ l, t = .name l) (tl : t.tell.length ≤ 1000000) (s : Same H H') :
    SigAt K (upd H' x (.ins (CT K t) dx (sgI t.tell tp am t.kids))) (d + 1) t x := by
  have hx' := s _ _ hx
  have ht' := s _ _ ht
  refine .mk (dx := dx) (tp := tp) (am := am) (xs := xs) (by rw [upd_same, sg_eq]) ?_ sg.1 n5 ne tl fun i y c h1 h2 => ?_
  · rw [upd_ne (ne_of ht' hx' (by intro z; exact nomatch z))]
    exact ht'
  · refine ((sg.2 i y c h1 h2).same s).kp fun b o h _ ni => ?_
    rw [upd_ne (fun z => by
      subst z
      rw [hx'] at h
      exact ni _ _ (Option.some.inj h).symm)]
    exact h
theorem old_made {H H' : Hp} {x : Addr} {o : HO} (s : Same H H') : Old x H (upd H' x o) := fun b u h n => by
  rw [upd_ne n]
  exact s _ _ h
def spNmI (K : Fr) : Sp := fun vs H Q _ => ∃ (x dx : Addr) (l : List Nat), vs = [.ref x, .str (S l)] ∧ H x = some (.ins (He.ga K "Name") dx []) ∧ Nm l ∧ ∀ H', Old x H H' → (∀ d, SigAt K H' (d + 1) (.name l) x) → Q .non H'
theorem f_nminit (T : Tx K mg) : ∃ fd, DAt K d_Name_init fd ∧ FnOk P w K mg base CX0 4 (d_Name_init.ad K) fd ["self", "name"] (spNmI K) := by
  obtain ⟨fd, D⟩ := a_Name_init T.c
  have C_is_name := c_isname (P := P) (w := w) (base := base) T
  obtain ⟨fi, Di, Fi⟩ := f_sginit (P := P) (w := w) (base := base) T
  have bi : Binds K fi ["self", "text", "inside", "amount"] [] := FunD.bindsN Di fun _ _ _ _ _ _ us hl => match us, hl with | [_, _, _, _], _ => rfl
  refine ⟨fd, D, ok_of (k := 3) (N := ["self", "name"]) D sc_Name_init (fun vs H Q E h => ?_) (fun cdv A outer s H vs Q E hr h => ?_)⟩
  · obtain ⟨x, dx, l, rfl, _⟩ := h
    rfl
  · obtain ⟨x, dx, l, rfl, hx, nm, k⟩ := h
    refine ⟨_, (pss_cons (ps_if (pt_not (pt_val (pe_c C_is_name (hr.mono (by decide)) (pa_cons (pv 1) pa_nil))))
 (pss_one ps_never)
 pss_nil)
 (pss_one (ps_expr (pe_unb (pe_glob (v := .ref (gAd "Signal" K)) rfl (g_Signal T) rfl) (unb_ok (f_unb T.c)) Fi bi hr (pa_cons (pv 0) (pa_cons (pv 1) (pa_cons (pe_tup pa_nil) (pa_cons pe_non pa_nil)))))))), ?_⟩
    have hi := nm.hi
    refine ⟨_, rfl, l, rfl, nm, fun H1 s1 => ⟨true, rfl, iteF ?_⟩⟩
    refine ⟨rfl, _, rfl, _, rfl, (by show 0 ≤ sizeLine; decide), fun tp ntp => ?_⟩
    have hx1 : (upd H1 tp (.tup [])) x = some (.ins (He.ga K "Name") dx []) := same_upd ntp _ _ (s1 _ _ hx)
    have tl : (Tree.name l).tell.length ≤ 1000000 := by
      rw [Tree.tell, S_len]
      omega
    refine ⟨0, x, dx, tp, _, S l, .non, [], [], rfl, hx1, cl_of T (.name l), fun f hf => na_of T (.name l) hf, upd_same, ⟨rfl, fun i y c h => by simp at h⟩, by decide, by decide, by decide, fun H2 s2 => ?_⟩
    refine k _ (fun b u h n => ?_) fun d => ?_
    · rw [upd_ne n]
      exact s2 _ _ (same_upd ntp _ _ (s1 _ _ h))
    · have e : (Tree.name l).tell = S l := by rw [Tree.tell]
      have z := sig_made (K := K) (d := d) (t := .name l) (x := x) (dx := dx) (tp := tp) (am := .non) (xs := []) hx1 upd_same ⟨rfl, fun i y c h => by simp at h⟩ (by show (0 : Nat) ≤ 5; decide) (fun _ => ⟨l, rfl⟩) tl s2
      rw [e] at z
      exact z
end
end K09

namespace K09
open PySem PySem.Spec PyProof.Rows L2 Hk NumM NumT SX
section
variable {P : Program} {w : World} {K : Fr} {mg : Str → Option Value} {base : Heap}
theorem ga_times (t b : Int) (c : Tree) : CT K (.times t b c) = He.ga K "Times" := rfl
/-- the classes with a signal and a number (w: which) -/
def spPrI (K : Fr) (w : Nat) (y : Str) : Sp := fun vs H Q _ => ∃ (d : Nat) (x dx c : Addr) (t : Tree) (n : Int), vs = [.ref x, .ref c, .int n] ∧ H x = some (.ins (He.ga K y) dx []) ∧ SigAt K H d t c ∧ 0 ≤ n ∧ n ≤ 6 ∧ (w < 2 → 1 ≤ n) ∧
  t.parts ≤ 11 ∧ t.deep ≤ 4 ∧ (Tree.pair w t n).tell.length ≤ 1000000 ∧ ∀ H', Old x H H' → SigAt K H' (d + 1) (.pair w t n) x → Q .non H'
theorem one_sum {t : Tree} (h : t.parts ≤ 11) : 1 + (([t] : List Tree).map Tree.parts).sum ≤ 12 := by
  simp
  omega
theorem one_max {t : Tree} (h : t.deep ≤ 4) : 1 + maxL (([t] : List Tree).map Tree.deep) ≤ 5 := by
  simp [maxL]
  omega
theorem sigs_one {H : Hp} {d : Nat} {t : Tree} {c : Addr} (h : SigAt K H d t c) : SigsAt K H d [t] [c] := ⟨rfl, fun i y u h1 h2 => by
  cases i with
  | zero =>
    cases h1
    cases h2
    exact h
  | succ i => simp at h1⟩
theorem f_ltinit (T : Tx K mg) : ∃ fd, DAt K d_Late_init fd ∧ FnOk P w K mg base CX0 5 (d_Late_init.ad K) fd ["self", "signal", "count"] (spPrI K 2 "Late") := by
  obtain ⟨fd, D⟩ := a_Late_init T.c
  have C_is_between := c_between (P := P) (w := w) (base := base) T
  have C_written := c_wr (P := P) (w := w) (base := base) T
  obtain ⟨fi, Di, Fi⟩ := f_sginit (P := P) (w := w) (base := base) T
  have bi : Binds K fi ["self", "text", "inside", "amount"] [] := FunD.bindsN Di fun _ _ _ _ _ _ us hl => match us, hl with | [_, _, _, _], _ => rfl
  obtain ⟨kL, iL⟩ := i_MAX_DELAY T
  refine ⟨fd, D, ok_of (k := 4) (N := ["self", "signal", "count"]) D sc_Late_init (fun vs H Q E h => ?_) (fun cdv A outer s H vs Q E hr h => ?_)⟩
  · obtain ⟨d, x, dx, c, t, n, rfl, _⟩ := h
    rfl
  · obtain ⟨d, x, dx, c, t, n, rfl, hx, sg, n0, n6, n1, p11, d4, tl, k⟩ := h
    have hr2 : Room 2 _ := hr.mono (by decide)
    have hr3 : Room 3 _ := hr.mono (by decide)
    refine ⟨_, (pss_cons (ps_if (pt_not (pt_val (pe_callB call_isi (by rfl) (n_isinstance T) bo_isinstance (pa_cons (pv 1) (pa_cons (pe_glob (v := .ref (gAd "Signal" K)) rfl (g_Signal T) rfl) pa_nil)))))
 (pss_one ps_never)
 pss_nil)
 (pss_cons (ps_if (pt_not (pt_val (pe_c C_is_between hr2 (pa_cons (pv 2) (pa_cons pe_int (pa_cons (pe_glob (v := .int 6) rfl iL ⟨_, rfl⟩) pa_nil))))))
 (pss_one ps_never)
 pss_nil)
 (pss_one (ps_expr (pe_unb (pe_glob (v := .ref (gAd "Signal" K)) rfl (g_Signal T) rfl) (unb_ok (f_unb T.c)) Fi bi hr3 (pa_cons (pv 0) (pa_cons (pe_c C_written hr (pa_cons (pe_icon (pv 0)) (pa_cons (pe_tup (pa_cons (pv 1) (pa_cons (pv 2) pa_nil))) pa_nil))) (pa_cons (pe_tup (pa_cons (pv 1) pa_nil)) (pa_cons (pv 2) pa_nil))))))))), ?_⟩
    refine ⟨_, rfl, _, _, _, _, true, rfl, .own _, .base (ty_sig T sg), kit_sig T t, true, rfl, iteF ?_⟩
    refine ⟨_, rfl, n, _, 6, rfl, n0, n6, true, rfl, iteF ?_⟩
    have cx : Cls K (He.ga K "Late") := cl_of T (.pair 2 t n)
    refine ⟨rfl, _, rfl, _, rfl, _, x, dx, [], _, rfl, hx, rfl, cx, sub_icon (sub_of T (.pair 2 t n)), _, rfl, _, rfl, (by show 2 ≤ sizeLine; decide), fun q nq => ?_⟩
    have s1 : Same H (upd H q (.tup [.ref c, .int n])) := same_upd nq
    have sn : Sz n := Nat.lt_of_le_of_lt (show n.natAbs ≤ 6 by omega) (by decide +kernel)
    have tw : wrS (wordOf 2) [t.tell, S (NumT.iL n)] = (Tree.pair 2 t n).tell := tell_pair 2 t n
    refine ⟨wordOf 2, q, [.ref c, .int n], [t.tell, S (NumT.iL n)], rfl, upd_same, rfl, by show (2 : Nat) ≤ 5; decide, fun i v s h1 h2 => ?_, by rw [tw]; exact tl, fun H2 s2 => ?_⟩
    · match i, h1, h2 with
      | 0, h1, h2 =>
        cases h1
        cases h2
        exact .sig (sg.same s1)
      | 1, h1, h2 =>
        cases h1
        cases h2
        exact .int sn
      | i + 2, h1, h2 => simp at h1
    · refine ⟨_, rfl, (by show 1 ≤ sizeLine; decide), fun tp ntp => ?_⟩
      have s3 : Same H (upd H2 tp (.tup [.ref c])) := (s1.trans s2).trans (same_upd ntp)
      rw [tw]
      refine ⟨_, rfl, d, x, dx, tp, _, _, _, [t], [c], rfl, s3 _ _ hx, cx, fun f hf => na_of T (.pair 2 t n) hf, upd_same, sigs_one (sg.same s3), by show (1 : Nat) ≤ 5; decide, one_sum p11, one_max d4, fun H3 s4 => ?_⟩
      refine k _ (fun b u h m => ?_) ?_
      · rw [upd_ne m]
        exact s4 _ _ (s3 _ _ h)
      · exact sig_made (K := K) (d := d) (t := .pair 2 t n) (x := x) (dx := dx) (tp := tp) (am := .int n) (xs := [c]) (s3 _ _ hx) upd_same (sigs_one (sg.same s3)) (by show (1 : Nat) ≤ 5; decide) (fun z => by simp [Tree.kids] at z) tl s4
theorem f_evinit (T : Tx K mg) : ∃ fd, DAt K d_Every_init fd ∧ FnOk P w K mg base CX0 5 (d_Every_init.ad K) fd ["self", "signal", "step"] (spPrI K 0 "Every") := by
  obtain ⟨fd, D⟩ := a_Every_init T.c
  have C_is_between := c_between (P := P) (w := w) (base := base) T
  have C_written := c_wr (P := P) (w := w) (base := base) T
  obtain ⟨fi, Di, Fi⟩ := f_sginit (P := P) (w := w) (base := base) T
  have bi : Binds K fi ["self", "text", "inside", "amount"] [] := FunD.bindsN Di fun _ _ _ _ _ _ us hl => match us, hl with | [_, _, _, _], _ => rfl
  obtain ⟨kL, iL⟩ := i_MAX_STEP T
  refine ⟨fd, D, ok_of (k := 4) (N := ["self", "signal", "step"]) D sc_Every_init (fun vs H Q E h => ?_) (fun cdv A outer s H vs Q E hr h => ?_)⟩
  · obtain ⟨d, x, dx, c, t, n, rfl, _⟩ := h
    rfl
  · obtain ⟨d, x, dx, c, t, n, rfl, hx, sg, n0, n6, n1, p11, d4, tl, k⟩ := h
    have hr2 : Room 2 _ := hr.mono (by decide)
    have hr3 : Room 3 _ := hr.mono (by decide)
    refine ⟨_, (pss_cons (ps_if (pt_not (pt_val (pe_callB call_isi (by rfl) (n_isinstance T) bo_isinstance (pa_cons (pv 1) (pa_cons (pe_glob (v := .ref (gAd "Signal" K)) rfl (g_Signal T) rfl) pa_nil)))))
 (pss_one ps_never)
 pss_nil)
 (pss_cons (ps_if (pt_not (pt_val (pe_c C_is_between hr2 (pa_cons (pv 2) (pa_cons pe_int (pa_cons (pe_glob (v := .int 6) rfl iL ⟨_, rfl⟩) pa_nil))))))
 (pss_one ps_never)
 pss_nil)
 (pss_one (ps_expr (pe_unb (pe_glob (v := .ref (gAd "Signal" K)) rfl (g_Signal T) rfl) (unb_ok (f_unb T.c)) Fi bi hr3 (pa_cons (pv 0) (pa_cons (pe_c C_written hr (pa_cons (pe_icon (pv 0)) (pa_cons (pe_tup (pa_cons (pv 1) (pa_cons (pv 2) pa_nil))) pa_nil))) (pa_cons (pe_tup (pa_cons (pv 1) pa_nil)) (pa_cons (pv 2) pa_nil))))))))), ?_⟩
    refine ⟨_, rfl, _, _, _, _, true, rfl, .own _, .base (ty_sig T sg), kit_sig T t, true, rfl, iteF ?_⟩
    refine ⟨_, rfl, n, _, 6, rfl, n1 (by decide), n6, true, rfl, iteF ?_⟩
    have cx : Cls K (He.ga K "Every") := cl_of T (.pair 0 t n)
    refine ⟨rfl, _, rfl, _, rfl, _, x, dx, [], _, rfl, hx, rfl, cx, sub_icon (sub_of T (.pair 0 t n)), _, rfl, _, rfl, (by show 2 ≤ sizeLine; decide), fun q nq => ?_⟩
    have s1 : Same H (upd H q (.tup [.ref c, .int n])) := same_upd nq
    have sn : Sz n := Nat.lt_of_le_of_lt (show n.natAbs ≤ 6 by omega) (by decide +kernel)
    have tw : wrS (wordOf 0) [t.tell, S (NumT.iL n)] = (Tree.pair 0 t n).tell := tell_pair 0 t n
    refine ⟨wordOf 0, q, [.ref c, .int n], [t.tell, S (NumT.iL n)], rfl, upd_same, rfl, by show (2 : Nat) ≤ 5; decide, fun i v s h1 h2 => ?_, by rw [tw]; exact tl, fun H2 s2 => ?_⟩
    · match i, h1, h2 with
      | 0, h1, h2 =>
        cases h1
        cases h2
        exact .sig (sg.same s1)
      | 1, h1, h2 =>
        cases h1
        cases h2
        exact .int sn
      | i + 2, h1, h2 => simp at h1
    · refine ⟨_, rfl, (by show 1 ≤ sizeLine; decide), fun tp ntp => ?_⟩
      have s3 : Same H (upd H2 tp (.tup [.ref c])) := (s1.trans s2).trans (same_upd ntp)
      rw [tw]
      refine ⟨_, rfl, d, x, dx, tp, _, _, _, [t], [c], rfl, s3 _ _ hx, cx, fun f hf => na_of T (.pair 0 t n) hf, upd_same, sigs_one (sg.same s3), by show (1 : Nat) ≤ 5; decide, one_sum p11, one_max d4, fun H3 s4 => ?_⟩
      refine k _ (fun b u h m => ?_) ?_
      · rw [upd_ne m]
        exact s4 _ _ (s3 _ _ h)
      · exact sig_made (K := K) (d := d) (t := .pair 0 t n) (x := x) (dx := dx) (tp := tp) (am := .int n) (xs := [c]) (s3 _ _ hx) upd_same (sigs_one (sg.same s3)) (by show (1 : Nat) ≤ 5; decide) (fun z => by simp [Tree.kids] at z) tl s4
theorem f_spinit (T : Tx K mg) : ∃ fd, DAt K d_Spread_init fd ∧ FnOk P w K mg base CX0 5 (d_Spread_init.ad K) fd ["self", "signal", "step"] (spPrI K 1 "Spread") := by
  obtain ⟨fd, D⟩ := a_Spread_init T.c
  have C_is_between := c_between (P := P) (w := w) (base := base) T
  have C_written := c_wr (P := P) (w := w) (base := base) T
  obtain ⟨fi, Di, Fi⟩ := f_sginit (P := P) (w := w) (base := base) T
  have bi : Binds K fi ["self", "text", "inside", "amount"] [] := FunD.bindsN Di fun _ _ _ _ _ _ us hl => match us, hl with | [_, _, _, _], _ => rfl
  obtain ⟨kL, iL⟩ := i_MAX_STEP T
  refine ⟨fd, D, ok_of (k := 4) (N := ["self", "signal", "step"]) D sc_Spread_init (fun vs H Q E h => ?_) (fun cdv A outer s H vs Q E hr h => ?_)⟩
  · obtain ⟨d, x, dx, c, t, n, rfl, _⟩ := h
    rfl
  · obtain ⟨d, x, dx, c, t, n, rfl, hx, sg, n0, n6, n1, p11, d4, tl, k⟩ := h
    have hr2 : Room 2 _ := hr.mono (by decide)
    have hr3 : Room 3 _ := hr.mono (by decide)
    refine ⟨_, (pss_cons (ps_if (pt_not (pt_val (pe_callB call_isi (by rfl) (n_isinstance T) bo_isinstance (pa_cons (pv 1) (pa_cons (pe_glob (v := .ref (gAd "Signal" K)) rfl (g_Signal T) rfl) pa_nil)))))
 (pss_one ps_never)
 pss_nil)
 (pss_cons (ps_if (pt_not (pt_val (pe_c C_is_between hr2 (pa_cons (pv 2) (pa_cons pe_int (pa_cons (pe_glob (v := .int 6) rfl iL ⟨_, rfl⟩) pa_nil))))))
 (pss_one ps_never)
 pss_nil)
 (pss_one (ps_expr (pe_unb (pe_glob (v := .ref (gAd "Signal" K)) rfl (g_Signal T) rfl) (unb_ok (f_unb T.c)) Fi bi hr3 (pa_cons (pv 0) (pa_cons (pe_c C_written hr (pa_cons (pe_icon (pv 0)) (pa_cons (pe_tup (pa_cons (pv 1) (pa_cons (pv 2) pa_nil))) pa_nil))) (pa_cons (pe_tup (pa_cons (pv 1) pa_nil)) (pa_cons (pv 2) pa_nil))))))))), ?_⟩
    refine ⟨_, rfl, _, _, _, _, true, rfl, .own _, .base (ty_sig T sg), kit_sig T t, true, rfl, iteF ?_⟩
    refine ⟨_, rfl, n, _, 6, rfl, n1 (by decide), n6, true, rfl, iteF ?_⟩
    have cx : Cls K (He.ga K "Spread") := cl_of T (.pair 1 t n)
    refine ⟨rfl, _, rfl, _, rfl, _, x, dx, [], _, rfl, hx, rfl, cx, sub_icon (sub_of T (.pair 1 t n)), _, rfl, _, rfl, (by show 2 ≤ sizeLine; decide), fun q nq => ?_⟩
    have s1 : Same H (upd H q (.tup [.ref c, .int n])) := same_upd nq
    have sn : Sz n := Nat.lt_of_le_of_lt (show n.natAbs ≤ 6 by omega) (by decide +kernel)
    have tw : wrS (wordOf 1) [t.tell, S (NumT.iL n)] = (Tree.pair 1 t n).tell := tell_pair 1 t n
    refine ⟨wordOf 1, q, [.ref c, .int n], [t.tell, S (NumT.iL n)], rfl, upd_same, rfl, by show (2 : Nat) ≤ 5; decide, fun i v s h1 h2 => ?_, by rw [tw]; exact tl, fun H2 s2 => ?_⟩
    · match i, h1, h2 with
      | 0, h1, h2 =>
        cases h1
        cases h2
        exact .sig (sg.same s1)
      | 1, h1, h2 =>
        cases h1
        cases h2
        exact .int sn
      | i + 2, h1, h2 => simp at h1
    · refine ⟨_, rfl, (by show 1 ≤ sizeLine; decide), fun tp ntp => ?_⟩
      have s3 : Same H (upd H2 tp (.tup [.ref c])) := (s1.trans s2).trans (same_upd ntp)
      rw [tw]
      refine ⟨_, rfl, d, x, dx, tp, _, _, _, [t], [c], rfl, s3 _ _ hx, cx, fun f hf => na_of T (.pair 1 t n) hf, upd_same, sigs_one (sg.same s3), by show (1 : Nat) ≤ 5; decide, one_sum p11, one_max d4, fun H3 s4 => ?_⟩
      refine k _ (fun b u h m => ?_) ?_
      · rw [upd_ne m]
        exact s4 _ _ (s3 _ _ h)
      · exact sig_made (K := K) (d := d) (t := .pair 1 t n) (x := x) (dx := dx) (tp := tp) (am := .int n) (xs := [c]) (s3 _ _ hx) upd_same (sigs_one (sg.same s3)) (by show (1 : Nat) ≤ 5; decide) (fun z => by simp [Tree.kids] at z) tl s4
end
end K09

namespace K09
open PySem PySem.Spec PyProof.Rows L2 Hk NumM NumT SX
section
variable {P : Program} {w : World} {K : Fr} {mg : Str → Option Value} {base : Heap}
def spTmI (K : Fr) : Sp := fun vs H Q _ => ∃ (d : Nat) (x dx c : Addr) (t : Tree) (y : V) (u b : Int), vs = [.ref x, y, .ref c] ∧ H x = some (.ins (He.ga K "Times") dx []) ∧ Opd (CN K) H y u b ∧ GainOk u b ∧ SigAt K H d t c ∧
  t.parts ≤ 11 ∧ t.deep ≤ 4 ∧ (Tree.times u b t).tell.length ≤ 1000000 ∧ ∀ H', Old x H H' → SigAt K H' (d + 1) (.times u b t) x → Q .non H'
theorem f_tminit (T : Tx K mg) : ∃ fd, DAt K d_Times_init fd ∧ FnOk P w K mg base CX0 6 (d_Times_init.ad K) fd ["self", "number", "signal"] (spTmI K) := by
  obtain ⟨fd, D⟩ := a_Times_init T.c
  have C_is_gain := c_isgain (P := P) (w := w) (base := base) T
  have C_as_number := c_asnum (P := P) (w := w) (base := base) T
  have C_written := c_wr (P := P) (w := w) (base := base) T
  obtain ⟨fi, Di, Fi⟩ := f_sginit (P := P) (w := w) (base := base) T
  have bi : Binds K fi ["self", "text", "inside", "amount"] [] := FunD.bindsN Di fun _ _ _ _ _ _ us hl => match us, hl with | [_, _, _, _], _ => rfl
  refine ⟨fd, D, ok_of (k := 5) (N := ["self", "number", "signal", "gain"]) D sc_Times_init (fun vs H Q E h => ?_) (fun cdv A outer s H vs Q E hr h => ?_)⟩
  · obtain ⟨d, x, dx, c, t, y, u, b, rfl, _⟩ := h
    rfl
  · obtain ⟨d, x, dx, c, t, y, u, b, rfl, hx, o, g, sg, p11, d4, tl, k⟩ := h
    have hr4 : Room 4 _ := hr.mono (by decide)
    have hr3 : Room 3 _ := hr.mono (by decide)
    refine ⟨_, (pss_cons (ps_if (pt_not (pt_val (pe_c C_is_gain hr (pa_cons (pv 1) pa_nil))))
 (pss_one ps_never)
 pss_nil)
 (pss_cons (ps_if (pt_not (pt_val (pe_callB call_isi (by rfl) (n_isinstance T) bo_isinstance (pa_cons (pv 2) (pa_cons (pe_glob (v := .ref (gAd "Signal" K)) rfl (g_Signal T) rfl) pa_nil)))))
 (pss_one ps_never)
 pss_nil)
 (pss_cons (ps_set (i := 3) sc_Times_init.nd rfl (.inl rfl) (pe_c C_as_number hr4 (pa_cons (pv 1) pa_nil)))
 (pss_one (ps_expr (pe_unb (pe_glob (v := .ref (gAd "Signal" K)) rfl (g_Signal T) rfl) (unb_ok (f_unb T.c)) Fi bi hr3 (pa_cons (pv 0) (pa_cons (pe_c C_written hr4 (pa_cons (pe_icon (pv 0)) (pa_cons (pe_tup (pa_cons (pv 3) (pa_cons (pv 2) pa_nil))) pa_nil))) (pa_cons (pe_tup (pa_cons (pv 2) pa_nil)) (pa_cons (pv 3) pa_nil)))))))))), ?_⟩
    have sz := gain_sz g
    refine ⟨_, rfl, y, u, b, rfl, o, g, fun H1 s1 => ⟨true, rfl, iteF ?_⟩⟩
    refine ⟨_, rfl, _, _, _, _, true, rfl, .own _, .base (ty_sig T (sg.same s1)), kit_sig T t, true, rfl, iteF ?_⟩
    refine ⟨_, rfl, y, u, b, rfl, o.same s1, sz.1, fun H2 gp s2 N => ?_⟩
    have s12 := s1.trans s2
    have cx : Cls K (He.ga K "Times") := cl_of T (.times u b t)
    refine ⟨rfl, _, rfl, _, rfl, _, x, dx, [], _, rfl, s12 _ _ hx, rfl, cx, sub_icon (sub_of T (.times u b t)), _, rfl, _, rfl, (by show 2 ≤ sizeLine; decide), fun q nq => ?_⟩
    have s3 : Same H (upd H2 q (.tup [.ref gp, .ref c])) := s12.trans (same_upd nq)
    have tw : wrS "times" [S (fL u b), t.tell] = (Tree.times u b t).tell := tell_times u b t
    refine ⟨"times", q, [.ref gp, .ref c], [S (fL u b), t.tell], rfl, upd_same, rfl, by show (2 : Nat) ≤ 5; decide, fun i v s h1 h2 => ?_, by rw [tw]; exact tl, fun H3 s4 => ?_⟩
    · match i, h1, h2 with
      | 0, h1, h2 =>
        cases h1
        cases h2
        exact .num (N.same (same_upd nq)) sz.1 sz.2
      | 1, h1, h2 =>
        cases h1
        cases h2
        exact .sig (sg.same s3)
      | i + 2, h1, h2 => simp at h1
    · refine ⟨_, rfl, (by show 1 ≤ sizeLine; decide), fun tp ntp => ?_⟩
      have s5 : Same H (upd H3 tp (.tup [.ref c])) := (s3.trans s4).trans (same_upd ntp)
      rw [tw]
      refine ⟨_, rfl, d, x, dx, tp, _, _, _, [t], [c], rfl, s5 _ _ hx, cx, fun f hf => na_of T (.times u b t) hf, upd_same, sigs_one (sg.same s5), by show (1 : Nat) ≤ 5; decide, one_sum p11, one_max d4, fun H4 s6 => ?_⟩
      refine k _ (fun b' u' h m => ?_) ?_
      · rw [upd_ne m]
        exact s6 _ _ (s5 _ _ h)
      · exact sig_made (K := K) (d := d) (t := .times u b t) (x := x) (dx := dx) (tp := tp) (am := .ref gp) (xs := [c]) (s5 _ _ hx) upd_same (sigs_one (sg.same s5)) (by show (1 : Nat) ≤ 5; decide) (fun z => by simp [Tree.kids] at z) tl s6
end
end K09

namespace Hen
open PySem PySem.Spec PyProof.Rows L2
theorem walk_enumT {K : PySem.W.Frag} {a : Addr} {xs : List V} : Walk (IteT K a) xs.length (fun H => SqT K H a xs) (YPair (fun i => some (.int (i : Nat))) (fun i => xs[i]?)) := by
  refine ⟨fun i _ hi q => ⟨xs, xs[i], q, by simp [hi]⟩, fun _ q => ⟨xs, q, rfl⟩, fun i H v H' _ q y => ?_⟩
  obtain ⟨T, x, h1, h2, h3, h4⟩ := y
  exact ⟨T, .int (i : Nat), x, h1, h2, h3, rfl, h4 xs q⟩
end Hen
namespace K09
open PySem PySem.Spec PyProof.Rows L2 Hk NumM NumT SX
section
variable {P : Program} {w : World} {K : Fr} {mg : Str → Option Value} {base : Heap}
def spSmI (K : Fr) : Sp := fun vs H Q _ => ∃ (d : Nat) (x dx tp : Addr) (ts : List Tree) (xs : List Addr), vs = [.ref x, .ref tp] ∧ H x = some (.ins (He.ga K "Sum") dx []) ∧ H tp = some (.tup (xs.map V.ref)) ∧ SigsAt K H d ts xs ∧ 1 ≤ ts.length ∧ ts.length ≤ 5 ∧
  1 + (ts.map Tree.parts).sum ≤ 12 ∧ 1 + maxL (ts.map Tree.deep) ≤ 5 ∧ (Tree.sum ts).tell.length ≤ 1000000 ∧ ∀ H', Old x H H' → SigAt K H' (d + 1) (.sum ts) x → Q .non H'
def spSmR (K : Fr) : Sp := fun vs H Q E => ∃ ws rest, vs = ws ++ rest ∧ ws.length = (["self"] : List Str).length ∧ rest.length ≤ sizeLine ∧ ∀ p, H p = Option.none → spSmI K (ws ++ [V.ref p]) (upd H p (.tup rest)) Q E
theorem f_sminit (T : Tx K mg) : FnR P w K mg base CX0 5 (d_Sum_init.ad K) (spSmR K) := by
  obtain ⟨fd, D⟩ := a_Sum_init T.c
  have C_written := c_wr (P := P) (w := w) (base := base) T
  obtain ⟨fi, Di, Fi⟩ := f_sginit (P := P) (w := w) (base := base) T
  have bi : Binds K fi ["self", "text", "inside", "amount"] [] := FunD.bindsN Di fun _ _ _ _ _ _ us hl => match us, hl with | [_, _, _, _], _ => rfl
  obtain ⟨kL, iL⟩ := i_MAX_TERMS T
  obtain ⟨oc, od, dV, kV, doc, pm, an, cdv, ct, osl, rfl, lk, hcd, hD, hK⟩ := D.ex
  rcases hD with ⟨_, rfl⟩ | ⟨e, _⟩
  rotate_left
  · exact absurd rfl e
  refine StX.fn_star (N := ["self", "terms", "index", "term"]) (ps := ["self"]) (pv := "terms") (k := 4) (sp := spSmI K) lk hcd sc_Sum_init StX.cxUp_none (fun us rest hl => match us, rest, hl with | [a], [], _ => rfl | [a], r :: rs, _ => rfl) (fun A outer s H vs Q E hr h => ?_)
  obtain ⟨d, x, dx, tp, ts, xs, rfl, hx, ht, sg, n1, n5, p12, d5, tl, k⟩ := h
  have hr3 : Room 3 _ := hr.mono (by decide)
  refine ⟨_, PSs.nox (pss_cons (ps_if (pt_not (pt_chain op_le op_le pe_int (pe_callB call_len_seq (by rfl) (n_len T) bo_len (pa_cons (pv 1) pa_nil)) (pe_glob (v := .int 5) rfl iL ⟨_, rfl⟩)))
 (pss_one ps_never)
 pss_nil)
 (pss_cons (ps_for PassesOwn.never rfl (pi_enumT rfl (n_enumerate T) (pa_cons (pv 1) pa_nil)) (pg_tup (by rfl) (pgs_cons (pg_name (i := 2) sc_Sum_init.nd rfl (.inl rfl)) (pgs_cons (pg_name (i := 3) sc_Sum_init.nd rfl (.inl rfl)) pgs_nil)))
 (pss_one (ps_if (pt_not (pt_val (pe_callB call_isi (by rfl) (n_isinstance T) bo_isinstance (pa_cons (pv 3) (pa_cons (pe_glob (v := .ref (gAd "Signal" K)) rfl (g_Signal T) rfl) pa_nil)))))
 (pss_one ps_never)
 pss_nil)))
 (pss_one (ps_expr (pe_unb (pe_glob (v := .ref (gAd "Signal" K)) rfl (g_Signal T) rfl) (unb_ok (f_unb T.c)) Fi bi hr3 (pa_cons (pv 0) (pa_cons (pe_c C_written hr (pa_cons (pe_icon (pv 0)) (pa_cons (pv 1) pa_nil))) (pa_cons (pv 1) (pa_cons pe_non pa_nil))))))))), ?_⟩
  have hl : (xs.map V.ref).length = ts.length := by
    rw [List.length_map]
    exact sg.1
  have sq : SqT K H tp (xs.map V.ref) := .inl (.inl ht)
  have cx : Cls K (He.ga K "Sum") := cl_of T (.sum ts)
  refine ⟨_, rfl, tp, _, rfl, .inr sq, 1, _, rfl, rfl, _, rfl, iteTd (by rw [hl]; omega) ?_⟩
  refine ⟨_, _, rfl, rfl, _, rfl, ?_⟩
  rw [decide_eq_true (by rw [hl]; omega)]
  refine iteF ?_
  refine ⟨_, rfl, tp, xs.map V.ref, rfl, sq, ?_⟩
  refine for_it Hen.walk_enumT (fun _ σ' H' => Same H H' ∧ ∃ a b : Option V, σ' = [some (.ref x), some (.ref tp), a, b]) ⟨Same.refl H, _, _, rfl⟩ (fun i σ' H' _ h => Same.tupT h.1 sq) ?_ ?_
  · rintro i v σ' H1 H2 hi ⟨s1, a, b, rfl⟩ ⟨T1, v1, y, rfl, nT, rfl, e1, e2⟩
    cases e1
    have e2 : (xs.map V.ref)[i]? = some y := e2
    rw [List.getElem?_map] at e2
    obtain ⟨y', h1, rfl⟩ := Option.map_eq_some_iff.mp e2
    have hi2 : i < ts.length := by rw [← hl]; exact hi
    have J := ((sg.2 i y' (ts[i]'hi2) h1 (List.getElem?_eq_getElem hi2)).same s1).same (same_upd (o := .tup [.int (i : Nat), .ref y']) nT)
    refine ⟨T1, _, rfl, .inl (.inl upd_same), rfl, _, _, rfl, _, _, rfl, rfl, ?_⟩
    refine ⟨_, rfl, _, _, _, _, true, rfl, .own _, .base (ty_sig T J), kit_sig T _, true, rfl, iteF ?_⟩
    exact ⟨s1.trans (same_upd nT), _, _, rfl⟩
  · rintro σ' H1 ⟨s1, a, b, rfl⟩
    have tw : wrS "sum" (ts.map Tree.tell) = (Tree.sum ts).tell := tell_sums ts
    refine ⟨rfl, _, rfl, _, rfl, _, x, dx, [], _, rfl, s1 _ _ hx, rfl, cx, sub_icon (sub_of T (.sum ts)), _, rfl, ?_⟩
    refine ⟨"sum", tp, xs.map V.ref, ts.map Tree.tell, rfl, s1 _ _ ht, by rw [hl, List.length_map], by rw [List.length_map]; exact n5, fun i v s h1 h2 => ?_, by rw [tw]; exact tl, fun H2 s2 => ?_⟩
    · rw [List.getElem?_map] at h1 h2
      obtain ⟨y', h3, rfl⟩ := Option.map_eq_some_iff.mp h1
      obtain ⟨c, h4, rfl⟩ := Option.map_eq_some_iff.mp h2
      exact .sig ((sg.2 i y' c h3 h4).same s1)
    · have s3 := s1.trans s2
      rw [tw]
      refine ⟨_, rfl, d, x, dx, tp, _, _, _, ts, xs, rfl, s3 _ _ hx, cx, fun f hf => na_of T (.sum ts) hf, s3 _ _ ht, sg.same s3, n5, p12, d5, fun H3 s4 => ?_⟩
      refine k _ (fun b' u' h m => ?_) ?_
      · rw [upd_ne m]
        exact s4 _ _ (s3 _ _ h)
      · exact sig_made (K := K) (d := d) (t := .sum ts) (x := x) (dx := dx) (tp := tp) (am := .non) (xs := xs) (s3 _ _ hx) (s3 _ _ ht) (sg.same s3) n5 (fun z => by
          have z2 : ts = [] := z
          rw [z2] at n1
          simp at n1) tl s4
end
end K09

namespace K09
open PySem PySem.Spec PyProof.Rows L2 Hk NumM NumT SX
theorem same_new {H : Hp} {x dx C : Addr} (nx : H x = none) (nd : H dx = none) : Same H (upd (upd H dx (.own x)) x (.ins C dx [])) := fun b u e => by
  rw [upd_ne (ne_of_none e nx), upd_ne (ne_of_none e nd)]
  exact e
theorem old_same {H H1 H' : Hp} {x : Addr} (nx : H x = none) (s : Same H H1) (o : Old x H1 H') : Same H H' := fun b u e => o b u (s b u e) (ne_of_none e nx)
section
variable {P : Program} {w : World} {K : Fr} {mg : Str → Option Value} {base : Heap}
theorem mkSm (T : Tx K mg) : Mk K (He.ga K "Sum") (d_Sum_init.ad K) := He.mkr_ok (sub_mkr (f_sub_Sum T.c))
/-- a new sum of these -/
theorem make_sum {H : Hp} {Q : VK} {d : Nat} {ts : List Tree} {xs : List Addr} (sg : SigsAt K H d ts xs) (n1 : 1 ≤ ts.length) (n5 : ts.length ≤ 5) (p12 : (Tree.sum ts).parts ≤ 12) (d5 : (Tree.sum ts).deep ≤ 5) (tl : (Tree.sum ts).tell.length ≤ 1000000)
    (k : ∀ p H', Same H H' → SigAt K H' (d + 1) (.sum ts) p → Q (.ref p) H') : ∀ x dx, H x = Option.none → H dx = Option.none → dx ≠ x →
    spSmR K (V.ref x :: xs.map V.ref) (upd (upd H dx (.own x)) x (.ins (He.ga K "Sum") dx [])) (fun v H2 => v = .non ∧ Q (.ref x) H2) E0 := by
  intro x dx nx nd ne
  have s1 := same_new (C := He.ga K "Sum") nx nd
  refine ⟨[.ref x], xs.map V.ref, rfl, rfl, by rw [List.length_map, sg.1]; exact big6 (by omega), fun p np => ?_⟩
  have s2 := s1.trans (same_upd (o := .tup (xs.map V.ref)) np)
  refine ⟨d, x, dx, p, ts, xs, rfl, same_upd np _ _ upd_same, upd_same, sg.same s2, n1, n5, ?_, ?_, tl, fun H' o sx => ⟨rfl, k x H' (old_same nx s2 o) sx⟩⟩
  · rw [parts_eq] at p12
    exact p12
  · rw [deep_eq] at d5
    exact d5
def spTot (K : Fr) : Sp := fun vs H Q _ => ∃ (d : Nat) (l : Addr) (ts : List Tree) (xs : List Addr), vs = [.ref l] ∧ H l = some (.lst (xs.map V.ref)) ∧ SigsAt K H d ts xs ∧ 1 ≤ ts.length ∧ ts.length ≤ 5 ∧ (Tree.sum ts).parts ≤ 12 ∧ (Tree.sum ts).deep ≤ 5 ∧ (Tree.sum ts).tell.length ≤ 1000000 ∧
  ∀ p H', Same H H' → SigAt K H' (d + 1) (.sum ts) p → Q (.ref p) H'
theorem c_total (T : Tx K mg) : Cal P w K mg base 7 "_law_total" (gAd "_law_total" K) ["_law_some"] (spTot K) := by
  have Fs := f_sminit (P := P) (w := w) (base := base) T
  refine cal_of (d := d_l_total) (N := ["_law_some"]) (a_l_total T.c) rfl sc_l_total (g_l_total T) (fun _ _ _ _ _ _ us hl => match us, hl with | [_], _ => rfl) (fun vs H Q E h => ?_) (fun cdv A outer s H vs Q E hr h => ?_)
  · obtain ⟨d, l, ts, xs, rfl, _⟩ := h
    rfl
  · obtain ⟨d, l, ts, xs, rfl, hL, sg, n1, n5, p12, d5, tl, k⟩ := h
    refine ⟨_, (pss_cons (ps_if (pt_cmpR op_eq (pe_callB call_len_seq (by rfl) (n_len T) bo_len (pa_cons (pv 0) pa_nil)) pe_int (nomark _))
 (pss_one (ps_ret (StX.pe_makeR (mkSm T) Fs hr rfl (g_Sum T) pass0 (pa_cons (pe_ix ix_list (pv 0) pe_int (fun _ _ => rfl)) pa_nil))))
 pss_nil)
 (pss_cons (ps_if (pt_cmpR op_eq (pe_callB call_len_seq (by rfl) (n_len T) bo_len (pa_cons (pv 0) pa_nil)) pe_int (nomark _))
 (pss_one (ps_ret (StX.pe_makeR (mkSm T) Fs hr rfl (g_Sum T) pass0 (pa_cons (pe_ix ix_list (pv 0) pe_int (fun _ _ => rfl)) (pa_cons (pe_ix ix_list (pv 0) pe_int (fun _ _ => rfl)) pa_nil)))))
 pss_nil)
 (pss_cons (ps_if (pt_cmpR op_eq (pe_callB call_len_seq (by rfl) (n_len T) bo_len (pa_cons (pv 0) pa_nil)) pe_int (nomark _))
 (pss_one (ps_ret (StX.pe_makeR (mkSm T) Fs hr rfl (g_Sum T) pass0 (pa_cons (pe_ix ix_list (pv 0) pe_int (fun _ _ => rfl)) (pa_cons (pe_ix ix_list (pv 0) pe_int (fun _ _ => rfl)) (pa_cons (pe_ix ix_list (pv 0) pe_int (fun _ _ => rfl)) pa_nil))))))
 pss_nil)
 (pss_cons (ps_if (pt_cmpR op_eq (pe_callB call_len_seq (by rfl) (n_len T) bo_len (pa_cons (pv 0) pa_nil)) pe_int (nomark _))
 (pss_one (ps_ret (StX.pe_makeR (mkSm T) Fs hr rfl (g_Sum T) pass0 (pa_cons (pe_ix ix_list (pv 0) pe_int (fun _ _ => rfl)) (pa_cons (pe_ix ix_list (pv 0) pe_int (fun _ _ => rfl)) (pa_cons (pe_ix ix_list (pv 0) pe_int (fun _ _ => rfl)) (pa_cons (pe_ix ix_list (pv 0) pe_int (fun _ _ => rfl)) pa_nil)))))))
 pss_nil)
 (pss_one (ps_ret (StX.pe_makeR (mkSm T) Fs hr rfl (g_Sum T) pass0 (pa_cons (pe_ix ix_list (pv 0) pe_int (fun _ _ => rfl)) (pa_cons (pe_ix ix_list (pv 0) pe_int (fun _ _ => rfl)) (pa_cons (pe_ix ix_list (pv 0) pe_int (fun _ _ => rfl)) (pa_cons (pe_ix ix_list (pv 0) pe_int (fun _ _ => rfl)) (pa_cons (pe_ix ix_list (pv 0) pe_int (fun _ _ => rfl)) pa_nil)))))))))))), ?_⟩
    have sq : SqL K H l (xs.map V.ref) := .inl (.inl hL)
    have mk := make_sum (Q := Q) sg n1 n5 p12 d5 tl k
    have hl := sg.1
    have len : ∀ m : Nat, (xs.map V.ref).length = m ↔ ts.length = m := fun m => by rw [List.length_map, hl]
    by_cases h1 : ts.length = 1
    · obtain ⟨y0, rfl⟩ : ∃ y0, xs = [y0] := by
        match xs, (show xs.length = 1 by omega) with
        | [y0], _ => exact ⟨y0, rfl⟩
      refine ⟨_, rfl, l, _, rfl, .inl sq, rfl, _, rfl, iteTd rfl ?_⟩
      exact ⟨_, rfl, l, _, 0, _, rfl, rfl, sq, rfl, mk⟩
    by_cases h2 : ts.length = 2
    · obtain ⟨y0, y1, rfl⟩ : ∃ y0 y1, xs = [y0, y1] := by
        match xs, (show xs.length = 2 by omega) with
        | [y0, y1], _ => exact ⟨y0, y1, rfl⟩
      refine ⟨_, rfl, l, _, rfl, .inl sq, rfl, _, rfl, iteFd (by simp) ?_⟩
      refine ⟨_, rfl, l, _, rfl, .inl sq, rfl, _, rfl, iteTd rfl ?_⟩
      exact ⟨_, rfl, l, _, 0, _, rfl, rfl, sq, rfl, _, rfl, l, _, 1, _, rfl, rfl, sq, rfl, mk⟩
    by_cases h3 : ts.length = 3
    · obtain ⟨y0, y1, y2, rfl⟩ : ∃ y0 y1 y2, xs = [y0, y1, y2] := by
        match xs, (show xs.length = 3 by omega) with
        | [y0, y1, y2], _ => exact ⟨y0, y1, y2, rfl⟩
      refine ⟨_, rfl, l, _, rfl, .inl sq, rfl, _, rfl, iteFd (by simp) ?_⟩
      refine ⟨_, rfl, l, _, rfl, .inl sq, rfl, _, rfl, iteFd (by simp) ?_⟩
      refine ⟨_, rfl, l, _, rfl, .inl sq, rfl, _, rfl, iteTd rfl ?_⟩
      exact ⟨_, rfl, l, _, 0, _, rfl, rfl, sq, rfl, _, rfl, l, _, 1, _, rfl, rfl, sq, rfl, _, rfl, l, _, 2, _, rfl, rfl, sq, rfl, mk⟩
    by_cases h4 : ts.length = 4
    · obtain ⟨y0, y1, y2, y3, rfl⟩ : ∃ y0 y1 y2 y3, xs = [y0, y1, y2, y3] := by
        match xs, (show xs.length = 4 by omega) with
        | [y0, y1, y2, y3], _ => exact ⟨y0, y1, y2, y3, rfl⟩
      refine ⟨_, rfl, l, _, rfl, .inl sq, rfl, _, rfl, iteFd (by simp) ?_⟩
      refine ⟨_, rfl, l, _, rfl, .inl sq, rfl, _, rfl, iteFd (by simp) ?_⟩
      refine ⟨_, rfl, l, _, rfl, .inl sq, rfl, _, rfl, iteFd (by simp) ?_⟩
      refine ⟨_, rfl, l, _, rfl, .inl sq, rfl, _, rfl, iteTd rfl ?_⟩
      exact ⟨_, rfl, l, _, 0, _, rfl, rfl, sq, rfl, _, rfl, l, _, 1, _, rfl, rfl, sq, rfl, _, rfl, l, _, 2, _, rfl, rfl, sq, rfl, _, rfl, l, _, 3, _, rfl, rfl, sq, rfl, mk⟩
    by_cases h5 : ts.length = 5
    · obtain ⟨y0, y1, y2, y3, y4, rfl⟩ : ∃ y0 y1 y2 y3 y4, xs = [y0, y1, y2, y3, y4] := by
        match xs, (show xs.length = 5 by omega) with
        | [y0, y1, y2, y3, y4], _ => exact ⟨y0, y1, y2, y3, y4, rfl⟩
      refine ⟨_, rfl, l, _, rfl, .inl sq, rfl, _, rfl, iteFd (by simp) ?_⟩
      refine ⟨_, rfl, l, _, rfl, .inl sq, rfl, _, rfl, iteFd (by simp) ?_⟩
      refine ⟨_, rfl, l, _, rfl, .inl sq, rfl, _, rfl, iteFd (by simp) ?_⟩
      refine ⟨_, rfl, l, _, rfl, .inl sq, rfl, _, rfl, iteFd (by simp) ?_⟩
      exact ⟨_, rfl, l, _, 0, _, rfl, rfl, sq, rfl, _, rfl, l, _, 1, _, rfl, rfl, sq, rfl, _, rfl, l, _, 2, _, rfl, rfl, sq, rfl, _, rfl, l, _, 3, _, rfl, rfl, sq, rfl, _, rfl, l, _, 4, _, rfl, rfl, sq, rfl, mk⟩
    omega
end
end K09

namespace K09
open PySem PySem.Spec PyProof.Rows L2 Hk NumM NumT SX
theorem old_seqL {K : Fr} {H H' : Hp} {a l : Addr} {xs : List V} (o : Old a H H') (ne : l ≠ a) (h : H l = some (.lst xs)) : SqL K H' l xs := .inl (.inl (o _ _ h ne))
theorem SigsAt.snoc {K : Fr} {H : Hp} {d : Nat} {ts : List Tree} {xs : List Addr} {t : Tree} {x : Addr} (h : SigsAt K H d ts xs) (k : SigAt K H d t x) : SigsAt K H d (ts ++ [t]) (xs ++ [x]) := by
  refine ⟨by simp [h.1], fun i y u h1 h2 => ?_⟩
  by_cases hi : i < ts.length
  · rw [List.getElem?_append_left (by rw [h.1]; exact hi)] at h1
    rw [List.getElem?_append_left hi] at h2
    exact h.2 i y u h1 h2
  · rw [List.getElem?_append_right (by have := h.1; omega)] at h1
    rw [List.getElem?_append_right (by omega)] at h2
    have e : i - xs.length = i - ts.length := by rw [h.1]
    rw [e] at h1
    cases q : i - ts.length with
    | zero =>
      rw [q] at h1 h2
      cases h1
      cases h2
      exact k
    | succ j =>
      rw [q] at h1
      simp at h1
theorem SigsAt.mv {K : Fr} {H H' : Hp} {d : Nat} {ts : List Tree} {xs : List Addr} (h : SigsAt K H d ts xs) (k : ∀ t x, SigAt K H d t x → SigAt K H' d t x) : SigsAt K H' d ts xs := ⟨h.1, fun i y u h1 h2 => k u y (h.2 i y u h1 h2)⟩
theorem lc_made {K : Fr} {a l D : Addr} {n d i : Nat} {ts : List Tree} {xs : List V} {te : TE} {σ : L2.St} {H1 : Hp} {Qd : Hp → Prop} (hlen : xs.length = ts.length) (nD : H1 D = none) (hL : H1 l = some (.lst xs)) (al : l ≠ a) (n5 : ts.length ≤ 5) (src : SrcAt a n H1)
    (hs : ∀ (j : Nat) (v : V) (c : Tree), xs[j]? = some v → ts[j]? = some c → ∀ (m : Nat) (H : Hp) (R : VK), Old a H1 H → SrcAt a m H → m + 2 * c.parts ≤ n + 2 * (ts.map Tree.parts).sum → (∀ p H', Old a H H' → SrcAt a (m + 2 * c.parts) H' → SigAt K H' d c p → R (.ref p) H') → te ((σ.set i none).set i (some v)) H R)
    (hd : ∀ H ps, Old a H1 H → SrcAt a (n + 2 * (ts.map Tree.parts).sum) H → H D = some (.lst (ps.map V.ref)) → SigsAt K H d ts ps → Qd H) :
    ∃ W : Nat → Nat → Hp → Prop, (∃ m, W 0 m (upd H1 D (.lst []))) ∧ ∀ j m H, W j m H →
      ((Itl K l).stop j H ∧ Qd H) ∨ ((Itl K l).go j H ∧ ∃ Nx : Hp → Prop, (∀ H', Nx H' → ∃ m', m' < m ∧ W (j + 1) m' H') ∧ ∀ x H', (Itl K l).yld j H x H' → gName i x (wipe σ [i]) H' fun σ2 H2 => wipe σ2 [i] = wipe σ [i] ∧ tYes σ2 H2 fun b H3 =>
        if b = true then te σ2 H3 fun y H4 => ∃ acc, H4 D = some (.lst acc) ∧ acc.length < sizeLine ∧ Nx (upd H4 D (.lst (acc ++ [y]))) else Nx H3) := by
  have ad : a ≠ D := src.ne nD
  have tk : ∀ j, ((ts.take j).map Tree.parts).sum ≤ (ts.map Tree.parts).sum := fun j => by
    have e : ts.map Tree.parts = (ts.take j).map Tree.parts ++ (ts.drop j).map Tree.parts := by rw [← List.map_append, List.take_append_drop]
    rw [e, List.sum_append]
    omega
  have oldD : ∀ {H : Hp} {o : HO}, Old a H1 H → Old a H1 (upd H D o) := fun {H o} s b u e ne => by
    rw [upd_ne (ne_of_none e nD)]
    exact s b u e ne
  refine lc_list (xs := xs) (fun j H => ∃ ps, Old a H1 H ∧ SrcAt a (n + 2 * ((ts.take j).map Tree.parts).sum) H ∧ H D = some (.lst (ps.map V.ref)) ∧ SigsAt K H d (ts.take j) ps) ⟨[], oldD (Old.refl a H1), by simpa using srcAt_put src ad, upd_same, rfl, fun i y c h => by simp at h⟩ (fun j H _ h => ?_) ?_ ?_
  · obtain ⟨ps, o, _⟩ := h
    exact old_seqL o al hL
  · rintro j v H hv ⟨ps, o, s, hD, sg⟩
    have hj := (List.getElem?_eq_some_iff.mp hv).1
    have hc : ts[j]? = some (ts[j]'(by omega)) := List.getElem?_eq_getElem _
    generalize ts[j]'(by omega) = c at hc
    have e1 : ts.take (j + 1) = ts.take j ++ [c] := by
      rw [List.take_add_one, hc]
      rfl
    have e2 : ((ts.take (j + 1)).map Tree.parts).sum = ((ts.take j).map Tree.parts).sum + c.parts := by
      rw [e1, List.map_append, List.sum_append]
      simp
    have := tk (j + 1)
    refine ⟨by show ((σ.set i none).set i (some v)).set i none = σ.set i none; rw [List.set_set, List.set_set], ?_⟩
    unfold tYes
    dsimp only
    rw [if_pos rfl]
    refine hs j v c hv hc _ H _ o s (by omega) fun p H' o2 s2 J => ?_
    have hD' : H' D = some (.lst (ps.map V.ref)) := o2 _ _ hD (Ne.symm ad)
    refine ⟨_, hD', ?_, ps ++ [p], oldD (o.trans o2), ?_, ?_, ?_⟩
    · rw [List.length_map, sg.1, List.length_take]
      exact Nat.lt_of_le_of_lt (show min j ts.length ≤ 5 by omega) (by decide)
    · rw [e2]
      exact srcAt_put (s2.le (by omega)) ad
    · rw [upd_same, List.map_append]
      rfl
    · rw [e1]
      exact (sg.mv fun t x z => (z.old s o2).put hD').snoc (J.put hD')
  · rintro H ⟨ps, o, s, hD, sg⟩
    rw [hlen, List.take_length] at s sg
    exact hd H ps o s hD sg
end K09

namespace K09
open PySem PySem.Spec PyProof.Rows L2 Hk NumM NumT SX
section
variable {P : Program} {w : World} {K : Fr} {mg : Str → Option Value} {base : Heap}
theorem kwRel {vs zs : List V} {us ws : List Value} (rv : Vals vs us) (rz : Vals zs ws) : Vals (kwTurn vs zs) (kwTurn us ws) := by
  cases rz with
  | nil => exact rv
  | cons r1 r =>
    cases r with
    | nil => exact rv
    | cons r2 r =>
      cases r with
      | nil => exact rv.append (.cons r2 (.cons r1 .nil))
      | cons r3 r => exact rv
theorem kb_Times {fd : FuncData} (D : DAt K d_Times_init fd) : KBn K fd ["self", "number", "signal"] 1 ["signal", "number"] (fun us ws => kwTurn us ws) (fun vs zs => kwTurn vs zs) := by
  obtain ⟨oc, od, dV, kV, doc, pm, an, cdv, ct, osl, rfl, lk, hcd, hD, hK⟩ := D.ex
  rcases hD with ⟨_, rfl⟩ | ⟨e, _⟩
  · exact ⟨fun s us ws _ hu hw => match us, ws, hu, hw with | [a], [b, c], _, _ => .of_eq rfl, fun rv rz => kwRel rv rz⟩
  · exact absurd rfl e
theorem b_Times {fd : FuncData} (D : DAt K d_Times_init fd) : Binds K fd ["self", "number", "signal"] [] := FunD.bindsN D fun _ _ _ _ _ _ us hl => match us, hl with | [_, _, _], _ => rfl
theorem mk_Times (T : Tx K mg) : Mk K (He.ga K "Times") (d_Times_init.ad K) := He.mkr_ok (sub_mkr (f_sub_Times T.c))
theorem kb_Late {fd : FuncData} (D : DAt K d_Late_init fd) : KBn K fd ["self", "signal", "count"] 1 ["count", "signal"] (fun us ws => kwTurn us ws) (fun vs zs => kwTurn vs zs) := by
  obtain ⟨oc, od, dV, kV, doc, pm, an, cdv, ct, osl, rfl, lk, hcd, hD, hK⟩ := D.ex
  rcases hD with ⟨_, rfl⟩ | ⟨e, _⟩
  · exact ⟨fun s us ws _ hu hw => match us, ws, hu, hw with | [a], [b, c], _, _ => .of_eq rfl, fun rv rz => kwRel rv rz⟩
  · exact absurd rfl e
theorem b_Late {fd : FuncData} (D : DAt K d_Late_init fd) : Binds K fd ["self", "signal", "count"] [] := FunD.bindsN D fun _ _ _ _ _ _ us hl => match us, hl with | [_, _, _], _ => rfl
theorem mk_Late (T : Tx K mg) : Mk K (He.ga K "Late") (d_Late_init.ad K) := He.mkr_ok (sub_mkr (f_sub_Late T.c))
theorem kb_Every {fd : FuncData} (D : DAt K d_Every_init fd) : KBn K fd ["self", "signal", "step"] 1 ["step", "signal"] (fun us ws => kwTurn us ws) (fun vs zs => kwTurn vs zs) := by
  obtain ⟨oc, od, dV, kV, doc, pm, an, cdv, ct, osl, rfl, lk, hcd, hD, hK⟩ := D.ex
  rcases hD with ⟨_, rfl⟩ | ⟨e, _⟩
  · exact ⟨fun s us ws _ hu hw => match us, ws, hu, hw with | [a], [b, c], _, _ => .of_eq rfl, fun rv rz => kwRel rv rz⟩
  · exact absurd rfl e
theorem b_Every {fd : FuncData} (D : DAt K d_Every_init fd) : Binds K fd ["self", "signal", "step"] [] := FunD.bindsN D fun _ _ _ _ _ _ us hl => match us, hl with | [_, _, _], _ => rfl
theorem mk_Every (T : Tx K mg) : Mk K (He.ga K "Every") (d_Every_init.ad K) := He.mkr_ok (sub_mkr (f_sub_Every T.c))
theorem kb_Spread {fd : FuncData} (D : DAt K d_Spread_init fd) : KBn K fd ["self", "signal", "step"] 1 ["step", "signal"] (fun us ws => kwTurn us ws) (fun vs zs => kwTurn vs zs) := by
  obtain ⟨oc, od, dV, kV, doc, pm, an, cdv, ct, osl, rfl, lk, hcd, hD, hK⟩ := D.ex
  rcases hD with ⟨_, rfl⟩ | ⟨e, _⟩
  · exact ⟨fun s us ws _ hu hw => match us, ws, hu, hw with | [a], [b, c], _, _ => .of_eq rfl, fun rv rz => kwRel rv rz⟩
  · exact absurd rfl e
theorem b_Spread {fd : FuncData} (D : DAt K d_Spread_init fd) : Binds K fd ["self", "signal", "step"] [] := FunD.bindsN D fun _ _ _ _ _ _ us hl => match us, hl with | [_, _, _], _ => rfl
theorem mk_Spread (T : Tx K mg) : Mk K (He.ga K "Spread") (d_Spread_init.ad K) := He.mkr_ok (sub_mkr (f_sub_Spread T.c))
theorem kb_Name {fd : FuncData} (D : DAt K d_Name_init fd) : KBn K fd ["self", "name"] 1 ["name"] (fun us ws => us ++ ws) (fun vs zs => vs ++ zs) := by
  obtain ⟨oc, od, dV, kV, doc, pm, an, cdv, ct, osl, rfl, lk, hcd, hD, hK⟩ := D.ex
  rcases hD with ⟨_, rfl⟩ | ⟨e, _⟩
  · exact ⟨fun s us ws _ hu hw => match us, ws, hu, hw with | [a], [b], _, _ => .of_eq rfl, fun rv rz => rv.append rz⟩
  · exact absurd rfl e
theorem b_Name {fd : FuncData} (D : DAt K d_Name_init fd) : Binds K fd ["self", "name"] [] := FunD.bindsN D fun _ _ _ _ _ _ us hl => match us, hl with | [_, _], _ => rfl
theorem mk_Name (T : Tx K mg) : Mk K (He.ga K "Name") (d_Name_init.ad K) := He.mkr_ok (sub_mkr (f_sub_Name T.c))
abbrev Made (K : Fr) (sp : Sp) (C : Addr) (H : Hp) (Q : VK) (vs : List V) : Prop := ∀ x dx, H x = Option.none → H dx = Option.none → dx ≠ x → sp (V.ref x :: vs) (upd (upd H dx (.own x)) x (.ins C dx [])) (fun v H2 => v = .non ∧ Q (.ref x) H2) E0
theorem make_name {H : Hp} {Q : VK} {l : List Nat} (nm : Nm l) (k : ∀ p H', Same H H' → (∀ d, SigAt K H' (d + 1) (.name l) p) → Q (.ref p) H') : Made K (spNmI K) (He.ga K "Name") H Q [.str (S l)] := by
  intro x dx nx nd ne
  exact ⟨x, dx, l, rfl, upd_same, nm, fun H' o sx => ⟨rfl, k x H' (old_same nx (same_new nx nd) o) sx⟩⟩
theorem make_times {H : Hp} {Q : VK} {d : Nat} {t : Tree} {y : V} {u b : Int} {c : Addr} (o : Opd (CN K) H y u b) (g : GainOk u b) (sg : SigAt K H d t c) (p12 : (Tree.times u b t).parts ≤ 12) (d5 : (Tree.times u b t).deep ≤ 5) (tl : (Tree.times u b t).tell.length ≤ 1000000)
    (k : ∀ p H', Same H H' → SigAt K H' (d + 1) (.times u b t) p → Q (.ref p) H') : Made K (spTmI K) (He.ga K "Times") H Q [y, .ref c] := by
  intro x dx nx nd ne
  have s1 := same_new (C := He.ga K "Times") nx nd
  refine ⟨d, x, dx, c, t, y, u, b, rfl, upd_same, o.same s1, g, sg.same s1, ?_, ?_, tl, fun H' o sx => ⟨rfl, k x H' (old_same nx s1 o) sx⟩⟩
  · rw [parts_eq] at p12
    simp [Tree.kids] at p12
    omega
  · rw [deep_eq] at d5
    simp [Tree.kids, maxL] at d5
    omega
theorem make_pair {H : Hp} {Q : VK} {d w : Nat} {cls : Str} {t : Tree} {n : Int} {c : Addr} (sg : SigAt K H d t c) (n0 : 0 ≤ n) (n6 : n ≤ 6) (n1 : w < 2 → 1 ≤ n) (p12 : (Tree.pair w t n).parts ≤ 12) (d5 : (Tree.pair w t n).deep ≤ 5) (tl : (Tree.pair w t n).tell.length ≤ 1000000)
    (k : ∀ p H', Same H H' → SigAt K H' (d + 1) (.pair w t n) p → Q (.ref p) H') : Made K (spPrI K w cls) (He.ga K cls) H Q [.ref c, .int n] := by
  intro x dx nx nd ne
  have s1 := same_new (C := He.ga K cls) nx nd
  refine ⟨d, x, dx, c, t, n, rfl, upd_same, sg.same s1, n0, n6, n1, ?_, ?_, tl, fun H' o sx => ⟨rfl, k x H' (old_same nx s1 o) sx⟩⟩
  · rw [parts_eq] at p12
    simp [Tree.kids] at p12
    omega
  · rw [deep_eq] at d5
    simp [Tree.kids, maxL] at d5
    omega
end
end K09

namespace K09
open PySem PySem.Spec PyProof.Rows L2 Hk NumM NumT SX
section
variable {P : Program} {w : World} {K : Fr} {mg : Str → Option Value} {base : Heap}
theorem deep_le {H : Hp} {d : Nat} {t : Tree} {v : V} (I : TreeAt H d t v) : t.deep ≤ d := by
  induction I with
  | name nm h => rw [Tree.deep]; omega
  | @sum d ts xs p h n1 n5 hl hk ih =>
    rw [deep_eq]
    rcases maxL_mem (l := (Tree.sum ts).kids.map Tree.deep) with e | e
    · rw [e]
      omega
    · obtain ⟨c, hc, e2⟩ := List.mem_map.mp e
      rw [← e2]
      have hc : c ∈ ts := hc
      obtain ⟨i, hi, e3⟩ := List.getElem_of_mem hc
      have := ih i (xs[i]'(by omega)) c (List.getElem?_eq_getElem _) (by rw [← e3]; exact List.getElem?_eq_getElem hi)
      omega
  | times ok h hg hk ih => rw [Tree.deep]; omega
  | pair hw n0 n6 n1 h hk ih => rw [Tree.deep]; omega
def spMade (K : Fr) (d : Nat) : Sp := fun vs H Q _ => ∃ (a : Addr) (n : Nat) (t : Tree) (v : V), vs = [.ref a, v] ∧ SrcAt a n H ∧ TreeAt H d t v ∧ d ≤ 5 ∧ t.parts ≤ 12 ∧ n + 2 * t.parts < 2 ^ 40 ∧ ∀ (p : Addr) (H' : Hp), Old a H H' → SrcAt a (n + 2 * t.parts) H' → SigAt K H' d t p → Q (.ref p) H'
theorem c_made (T : Tx K mg) : ∀ d : Nat, Cal P w K mg base (d + 8) "_law_made" (gAd "_law_made" K) ["_law_source_here", "_law_tree_here"] (spMade K d) := by
  have C_pick := c_pick (P := P) (w := w) (base := base) T
  have C_inside := c_inside (P := P) (w := w) (base := base) T
  have C_total := c_total (P := P) (w := w) (base := base) T
  obtain ⟨fi, Di, Fi⟩ := f_init (P := P) (w := w) (base := base) T
  obtain ⟨fn, Dn, Fn⟩ := f_nminit (P := P) (w := w) (base := base) T
  obtain ⟨ft, Dt, Ft⟩ := f_tminit (P := P) (w := w) (base := base) T
  obtain ⟨fl, Dl, Fl⟩ := f_ltinit (P := P) (w := w) (base := base) T
  obtain ⟨fe, De, Fe⟩ := f_evinit (P := P) (w := w) (base := base) T
  obtain ⟨fp, Dp, Fp⟩ := f_spinit (P := P) (w := w) (base := base) T
  intro d
  induction d with
  | zero =>
    refine cal_of (d := d_l_made) (N := ["_law_source_here", "_law_tree_here", "_law_word", "_law_way", "_law_some", "_law_part", "_law_gain_here"]) (a_l_made T.c) rfl sc_l_made (g_l_made T) (fun _ _ _ _ _ _ us hl => match us, hl with | [_, _], _ => rfl) (fun vs H Q E h => ?_) (fun cdv A outer s H vs Q E hr h => ?_)
    · obtain ⟨a, n, t, v, rfl, _⟩ := h
      rfl
    · obtain ⟨a, n, t, v, rfl, _, ht, _⟩ := h
      exact nomatch ht
  | succ d ih =>
    refine cal_of (d := d_l_made) (N := ["_law_source_here", "_law_tree_here", "_law_word", "_law_way", "_law_some", "_law_part", "_law_gain_here"]) (a_l_made T.c) rfl sc_l_made (g_l_made T) (fun _ _ _ _ _ _ us hl => match us, hl with | [_, _], _ => rfl) (fun vs H Q E h => ?_) (fun cdv A outer s H vs Q E hr h => ?_)
    · obtain ⟨a, n, t, v, rfl, _⟩ := h
      rfl
    · obtain ⟨a, n, t, v, rfl, src, ht, hd, p12, nb, k⟩ := h
      have hr1 : Room 1 _ := hr.mono (by omega)
      have hr3 : Room 3 _ := hr.mono (by omega)
      have hr5 : Room 5 _ := hr.mono (by omega)
      have hr6 : Room 6 _ := hr.mono (by omega)
      have hr7 : Room 7 _ := hr.mono (by omega)
      refine ⟨_, (pss_cons (ps_par (i := 2) (j := 3) (by rfl) sc_l_made.nd rfl rfl (by decide) rfl rfl (pa_cons (pe_ix ix_tup (pv 1) pe_int (fun _ _ => rfl)) (pa_cons (pe_c C_pick hr1 (pa_cons (pv 0) (pa_cons pe_int pa_nil))) pa_nil)) (by rfl))
 (pss_cons (ps_if (pt_cmpR op_eq (pv 2) pe_str (nomark _))
 (pss_one (ps_ret (pe_ifExp (pt_cmpR op_eq (pv 3) pe_int (nomark _)) (pe_make (mk_Name T) Fn hr5 rfl (g_Name T) (b_Name Dn) .nil pass0 (pa_cons (pe_ix ix_tup (pv 1) pe_int (fun _ _ => rfl)) pa_nil)) (pe_makeK0 (mk_Name T) Fn hr5 rfl (g_Name T) (kb_Name Dn) pass0 (pk_cons (pe_ix ix_tup (pv 1) pe_int (fun _ _ => rfl)) pk_nil)))))
 pss_nil)
 (pss_cons (ps_setLc (i := 4) (own := [("_law_part", 5)]) (g := gName 5) (tt := tYes) rfl sc_l_made.nd rfl rfl (sw_true rfl rfl rfl (by decide +kernel)) (pi_list (pe_c C_inside hr1 (pa_cons (pv 1) pa_nil))) (blkOk_by (N := ["_law_source_here", "_law_tree_here", "_law_word", "_law_way", "_law_some", "_law_part", "_law_gain_here"]) (sc := defScope s_l_made) (by decide +kernel)) (fun _ _ _ _ _ => pg_name (i := 5) sc_l_made.nd rfl (.inl rfl)) (fun _ _ _ _ _ => pts_nil) (fun _ _ _ _ _ => (pe_c ih hr (pa_cons (pv 0) (pa_cons (pv 5) pa_nil)))))
 (pss_cons (ps_if (pt_cmpR op_eq (pv 2) pe_str (nomark _))
 (pss_one (ps_ret (pe_c C_total hr7 (pa_cons (pv 4) pa_nil))))
 pss_nil)
 (pss_cons (ps_if (pt_cmpR op_eq (pv 2) pe_str (nomark _))
 (pss_cons (ps_set (i := 6) sc_l_made.nd rfl (.inl rfl) (pe_num (mkN T) Fi hr3 (g_Number T) (b_init2 Di) .nil (pa_cons (pe_ix ix_tup (pe_ix ix_tup (pv 1) pe_int (fun _ _ => rfl)) pe_int (fun _ _ => rfl)) (pa_cons (pe_ix ix_tup (pe_ix ix_tup (pv 1) pe_int (fun _ _ => rfl)) pe_int (fun _ _ => rfl)) pa_nil))))
 (pss_cons (ps_if (PW.pt (pw_and (pt_cmpR op_eq (pe_ix ix_tup (pe_ix ix_tup (pv 1) pe_int (fun _ _ => rfl)) pe_int (fun _ _ => rfl)) pe_int (nomark _)) (pw_and1 (pt_cmpR op_eq (pe_c C_pick hr1 (pa_cons (pv 0) (pa_cons pe_int pa_nil))) pe_int (nomark _)))))
 (pss_one (ps_set (i := 6) sc_l_made.nd rfl (.inl rfl) (pe_ix ix_tup (pe_ix ix_tup (pv 1) pe_int (fun _ _ => rfl)) pe_int (fun _ _ => rfl))))
 pss_nil)
 (pss_one (ps_ret (pe_ifExp (pt_cmpR op_eq (pv 3) pe_int (nomark _)) (pe_make (mk_Times T) Ft hr7 rfl (g_Times T) (b_Times Dt) .nil pass0 (pa_cons (pv 6) (pa_cons (pe_ix ix_list (pv 4) pe_int (fun _ _ => rfl)) pa_nil))) (pe_makeK0 (mk_Times T) Ft hr7 rfl (g_Times T) (kb_Times Dt) pass0 (pk_cons (pe_ix ix_list (pv 4) pe_int (fun _ _ => rfl)) (pk_cons (pv 6) pk_nil))))))))
 pss_nil)
 (pss_cons (ps_if (pt_cmpR op_eq (pv 2) pe_str (nomark _))
 (pss_one (ps_ret (pe_ifExp (pt_cmpR op_eq (pv 3) pe_int (nomark _)) (pe_make (mk_Late T) Fl hr6 rfl (g_Late T) (b_Late Dl) .nil pass0 (pa_cons (pe_ix ix_list (pv 4) pe_int (fun _ _ => rfl)) (pa_cons (pe_ix ix_tup (pv 1) pe_int (fun _ _ => rfl)) pa_nil))) (pe_makeK0 (mk_Late T) Fl hr6 rfl (g_Late T) (kb_Late Dl) pass0 (pk_cons (pe_ix ix_tup (pv 1) pe_int (fun _ _ => rfl)) (pk_cons (pe_ix ix_list (pv 4) pe_int (fun _ _ => rfl)) pk_nil))))))
 pss_nil)
 (pss_cons (ps_if (pt_cmpR op_eq (pv 2) pe_str (nomark _))
 (pss_one (ps_ret (pe_ifExp (pt_cmpR op_eq (pv 3) pe_int (nomark _)) (pe_make (mk_Every T) Fe hr6 rfl (g_Every T) (b_Every De) .nil pass0 (pa_cons (pe_ix ix_list (pv 4) pe_int (fun _ _ => rfl)) (pa_cons (pe_ix ix_tup (pv 1) pe_int (fun _ _ => rfl)) pa_nil))) (pe_makeK0 (mk_Every T) Fe hr6 rfl (g_Every T) (kb_Every De) pass0 (pk_cons (pe_ix ix_tup (pv 1) pe_int (fun _ _ => rfl)) (pk_cons (pe_ix ix_list (pv 4) pe_int (fun _ _ => rfl)) pk_nil))))))
 pss_nil)
 (pss_one (ps_ret (pe_ifExp (pt_cmpR op_eq (pv 3) pe_int (nomark _)) (pe_make (mk_Spread T) Fp hr6 rfl (g_Spread T) (b_Spread Dp) .nil pass0 (pa_cons (pe_ix ix_list (pv 4) pe_int (fun _ _ => rfl)) (pa_cons (pe_ix ix_tup (pv 1) pe_int (fun _ _ => rfl)) pa_nil))) (pe_makeK0 (mk_Spread T) Fp hr6 rfl (g_Spread T) (kb_Spread Dp) pass0 (pk_cons (pe_ix ix_tup (pv 1) pe_int (fun _ _ => rfl)) (pk_cons (pe_ix ix_list (pv 4) pe_int (fun _ _ => rfl)) pk_nil))))))))))))), ?_⟩
      have tn := tell_le ht
      have h7 : 40 * 6 ^ (d + 1) ≤ 40 * 6 ^ 5 := Nat.mul_le_mul_left _ (Nat.pow_le_pow_right (by decide) hd)
      have c2 : (40 : Nat) * 6 ^ 5 = 311040 := by decide
      have tl : t.tell.length ≤ 1000000 := by omega
      have dp : t.deep ≤ 5 := Nat.le_trans (deep_le ht) hd
      have ht0 := ht
      have kl := kids_len ht
      have pe := parts_eq t
      have ne : ∀ {p : Addr} {xs : List V}, H p = some (.tup xs) → p ≠ a := fun h z => by
        subst z
        obtain ⟨d, e, c, h1, _⟩ := src
        rw [h] at h1
        cases h1
      have src0 := src
      cases ht with
      | @name d l p nm h =>
        refine ⟨_, rfl, p, _, 0, _, rfl, rfl, .inl (.inl h), rfl, _, rfl, a, 2, n, rfl, src, by omega, by decide, by decide, fun wy H1 w0 w1 o1 s1 => ?_⟩
        have h1 := o1 _ _ h (ne h)
        refine ⟨_, _, rfl, _, rfl, rfl, _, rfl, iteTd rfl ?_⟩
        have mk : Made K (spNmI K) (He.ga K "Name") H1 Q [.str (S l)] := make_name nm fun q H2 s2 sx => k q H2 (o1.trans (Old.same s2)) ((s1.same s2).le (by rw [pe]; omega)) (sx d)
        refine ⟨_, rfl, rfl, _, rfl, ?_⟩
        refine ite2 (fun _ => ?_) (fun _ => ?_)
        · exact ⟨_, rfl, p, _, 1, _, rfl, rfl, .inl (.inl h1), rfl, mk⟩
        · refine ⟨_, rfl, p, _, 1, _, rfl, rfl, .inl (.inl h1), rfl, ?_⟩
          exact ⟨rfl, rfl, mk⟩
      | @sum d ts xs p h n1 n5 hl hk =>
        refine ⟨_, rfl, p, _, 0, _, rfl, rfl, .inl (.inl h), atI_nat (j := 0) rfl, _, rfl, a, 2, n, rfl, src, by omega, by decide, by decide, fun wy H1 w0 w1 o1 s1 => ?_⟩
        refine ⟨_, _, rfl, _, rfl, rfl, _, rfl, iteFd (by decide) ?_⟩
        refine ⟨_, rfl, d, _, _, rfl, treeAt_old ht0 src0 o1, fun l ks H2 s2 nl hL kd => ?_⟩
        have al : l ≠ a := Ne.symm (s1.ne nl)
        refine ⟨l, rfl, ⟨_, .inl (.inl hL)⟩, fun D nD => ?_⟩
        refine lc_made (K := K) (d := d) (a := a) (n := n + 1) kd.1 nD hL al kl (s1.same s2) (fun j v' c hv hc m H3 R o3 s3 hm kk => ?_) (fun H3 ps o3 s3 hD sg => ?_)
        · have hcp := kid_parts (List.mem_of_getElem? hc)
          exact ⟨_, rfl, _, rfl, a, m, c, v', rfl, s3, treeAt_old ((kd.2 j v' c hv hc).same s2) (s1.same s2) o3, by omega, by omega, by omega, kk⟩
        have o13 : Old a H H3 := (o1.trans (Old.same s2)).trans o3
        have h3 := o13 _ _ h (ne h)
        refine ⟨_, rfl, rfl, _, rfl, iteTd rfl ?_⟩
        exact ⟨_, rfl, d, D, ts, ps, rfl, hD, sg, n1, n5, p12, dp, tl, fun q H4 s4 sx => k q H4 (o13.trans (Old.same s4)) ((s3.same s4).le (by rw [pe]; omega)) sx⟩
      | @times d u b x v p g ok h hg hk =>
        refine ⟨_, rfl, p, _, 0, _, rfl, rfl, .inl (.inl h), rfl, _, rfl, a, 2, n, rfl, src, by omega, by decide, by decide, fun wy H1 w0 w1 o1 s1 => ?_⟩
        refine ⟨_, _, rfl, _, rfl, rfl, _, rfl, iteFd (by decide) ?_⟩
        refine ⟨_, rfl, d, _, _, rfl, treeAt_old ht0 src0 o1, fun l ks H2 s2 nl hL kd => ?_⟩
        have al : l ≠ a := Ne.symm (s1.ne nl)
        refine ⟨l, rfl, ⟨_, .inl (.inl hL)⟩, fun D nD => ?_⟩
        refine lc_made (K := K) (d := d) (a := a) (n := n + 1) kd.1 nD hL al kl (s1.same s2) (fun j v' c hv hc m H3 R o3 s3 hm kk => ?_) (fun H3 ps o3 s3 hD sg => ?_)
        · have hcp := kid_parts (List.mem_of_getElem? hc)
          exact ⟨_, rfl, _, rfl, a, m, c, v', rfl, s3, treeAt_old ((kd.2 j v' c hv hc).same s2) (s1.same s2) o3, by omega, by omega, by omega, kk⟩
        have o13 : Old a H H3 := (o1.trans (Old.same s2)).trans o3
        have h3 := o13 _ _ h (ne h)
        obtain ⟨c, rfl⟩ : ∃ c, ps = [c] := by
          have := sg.1
          match ps, this with
          | [c], _ => exact ⟨c, rfl⟩
        have sc : SigAt K H3 d x c := sg.2 0 c x rfl rfl
        have hg3 := o13 _ _ hg (ne hg)
        have sz := gain_sz ok
        refine ⟨_, rfl, rfl, _, rfl, iteFd (by decide) ?_⟩
        refine ⟨_, rfl, rfl, _, rfl, iteTd rfl ?_⟩
        refine ⟨_, rfl, p, _, 1, _, rfl, rfl, .inl (.inl h3), rfl, g, _, 0, _, rfl, rfl, .inl (.inl hg3), rfl, _, rfl, p, _, 1, _, rfl, rfl, .inl (.inl h3), rfl, g, _, 1, _, rfl, rfl, .inl (.inl hg3), rfl, u, b, rfl, by have := ok.pos; omega, sz.2, fun H4 gp s4 np N => ?_⟩
        rw [(low_red ok.pos ok.cop).1, (low_red ok.pos ok.cop).2] at N
        have o14 : Old a H H4 := o13.trans (Old.same s4)
        have hD4 := s4 _ _ hD
        refine ⟨_, rfl, p, _, 1, _, rfl, rfl, .inl (.inl (s4 _ _ h3)), rfl, g, _, 1, _, rfl, rfl, .inl (.inl (s4 _ _ hg3)), rfl, rfl, _, rfl, ?_⟩
        refine ite2 (fun z => ?_) (fun z => ?_)
        · have eb : b = 1 := V.int.inj (of_decide_eq_true z)
          refine ⟨_, rfl, a, 2, _, rfl, s3.same s4, ?_, by decide, by decide, fun v5 H5 v0 v1 o5 s5 => ?_⟩
          · simp only [Tree.kids, List.map_cons, List.map_nil, List.sum_cons, List.sum_nil] at pe ⊢
            omega
          have hD5 : H5 D = some (.lst [.ref c]) := o5 _ _ hD4 (fun z => by
            subst z
            exact absurd rfl (s1.same s2 |>.ne nD))
          have o15 : Old a H H5 := o14.trans o5
          have sc5 : SigAt K H5 d x c := (sc.same s4).old (s3.same s4) o5
          refine ⟨rfl, _, rfl, ?_⟩
          refine ite2 (fun _ => ?_) (fun _ => ?_)
          · refine ⟨_, rfl, p, _, 1, _, rfl, rfl, .inl (.inl (o15 _ _ h (ne h))), rfl, g, _, 0, _, rfl, rfl, .inl (.inl (o15 _ _ hg (ne hg))), rfl, ?_⟩
            have mk : Made K (spTmI K) (He.ga K "Times") H5 Q [.int u, .ref c] := make_times (.inr ⟨rfl, eb⟩) ok sc5 p12 dp tl fun q H6 s6 sx => k q H6 (o15.trans (Old.same s6)) ((s5.same s6).le (by rw [pe]; simp only [Tree.kids, List.map_cons, List.map_nil, List.sum_cons, List.sum_nil]; omega)) sx
            refine ⟨_, rfl, rfl, _, rfl, ?_⟩
            refine ite2 (fun _ => ?_) (fun _ => ?_)
            · exact ⟨_, rfl, _, rfl, D, _, 0, _, rfl, rfl, .inl (.inl hD5), rfl, mk⟩
            · refine ⟨_, rfl, D, _, 0, _, rfl, rfl, .inl (.inl hD5), rfl, _, rfl, ?_⟩
              exact ⟨rfl, rfl, mk⟩
          · have N5 : NumAt (CN K) H5 gp u b := N.old o5 (fun z => by
              subst z
              exact absurd rfl (s3.ne np))
            have mk : Made K (spTmI K) (He.ga K "Times") H5 Q [.ref gp, .ref c] := make_times (.inl ⟨gp, rfl, N5⟩) ok sc5 p12 dp tl fun q H6 s6 sx => k q H6 (o15.trans (Old.same s6)) ((s5.same s6).le (by rw [pe]; simp only [Tree.kids, List.map_cons, List.map_nil, List.sum_cons, List.sum_nil]; omega)) sx
            refine ⟨_, rfl, rfl, _, rfl, ?_⟩
            refine ite2 (fun _ => ?_) (fun _ => ?_)
            · exact ⟨_, rfl, _, rfl, D, _, 0, _, rfl, rfl, .inl (.inl hD5), rfl, mk⟩
            · refine ⟨_, rfl, D, _, 0, _, rfl, rfl, .inl (.inl hD5), rfl, _, rfl, ?_⟩
              exact ⟨rfl, rfl, mk⟩
        · refine ?_
          have mk : Made K (spTmI K) (He.ga K "Times") H4 Q [.ref gp, .ref c] := make_times (.inl ⟨gp, rfl, N⟩) ok (sc.same s4) p12 dp tl fun q H6 s6 sx => k q H6 (o14.trans (Old.same s6)) (((s3.same s4).same s6).le (by rw [pe]; simp only [Tree.kids, List.map_cons, List.map_nil, List.sum_cons, List.sum_nil]; omega)) sx
          refine ⟨_, rfl, rfl, _, rfl, ?_⟩
          refine ite2 (fun _ => ?_) (fun _ => ?_)
          · exact ⟨_, rfl, _, rfl, D, _, 0, _, rfl, rfl, .inl (.inl hD4), rfl, mk⟩
          · refine ⟨_, rfl, D, _, 0, _, rfl, rfl, .inl (.inl hD4), rfl, _, rfl, ?_⟩
            exact ⟨rfl, rfl, mk⟩
      | @pair d w n' x v p hw n0 n6 n1 h hk =>
      match w, hw, n1, h with
      | 0, hw, n1, h =>
        have h : H p = some (.tup [.str "every", v, .int n']) := h
        refine ⟨_, rfl, p, _, 0, _, rfl, rfl, .inl (.inl h), rfl, _, rfl, a, 2, n, rfl, src, by omega, by decide, by decide, fun wy H1 w0 w1 o1 s1 => ?_⟩
        refine ⟨_, _, rfl, _, rfl, rfl, _, rfl, iteFd (by decide) ?_⟩
        refine ⟨_, rfl, d, _, _, rfl, treeAt_old ht0 src0 o1, fun l ks H2 s2 nl hL kd => ?_⟩
        have al : l ≠ a := Ne.symm (s1.ne nl)
        refine ⟨l, rfl, ⟨_, .inl (.inl hL)⟩, fun D nD => ?_⟩
        refine lc_made (K := K) (d := d) (a := a) (n := n + 1) kd.1 nD hL al kl (s1.same s2) (fun j v' c hv hc m H3 R o3 s3 hm kk => ?_) (fun H3 ps o3 s3 hD sg => ?_)
        · have hcp := kid_parts (List.mem_of_getElem? hc)
          exact ⟨_, rfl, _, rfl, a, m, c, v', rfl, s3, treeAt_old ((kd.2 j v' c hv hc).same s2) (s1.same s2) o3, by omega, by omega, by omega, kk⟩
        have o13 : Old a H H3 := (o1.trans (Old.same s2)).trans o3
        have h3 := o13 _ _ h (ne h)
        obtain ⟨c, rfl⟩ : ∃ c, ps = [c] := by
          have := sg.1
          match ps, this with
          | [c], _ => exact ⟨c, rfl⟩
        have sc : SigAt K H3 d x c := sg.2 0 c x rfl rfl
        refine ⟨_, rfl, rfl, _, rfl, iteFd (by decide) ?_⟩
        refine ⟨_, rfl, rfl, _, rfl, iteFd (by decide) ?_⟩
        refine ⟨_, rfl, rfl, _, rfl, iteFd (by decide) ?_⟩
        refine ⟨_, rfl, rfl, _, rfl, iteTd rfl ?_⟩
        have mk : Made K (spPrI K 0 "Every") (He.ga K "Every") H3 Q [.ref c, .int n'] := make_pair sc n0 n6 n1 p12 dp tl fun q H6 s6 sx => k q H6 (o13.trans (Old.same s6)) ((s3.same s6).le (by rw [pe]; omega)) sx
        refine ⟨_, rfl, rfl, _, rfl, ?_⟩
        refine ite2 (fun _ => ?_) (fun _ => ?_)
        · exact ⟨_, rfl, D, _, 0, _, rfl, rfl, .inl (.inl hD), rfl, _, rfl, p, _, 2, _, rfl, rfl, .inl (.inl h3), rfl, mk⟩
        · refine ⟨_, rfl, p, _, 2, _, rfl, rfl, .inl (.inl h3), rfl, _, rfl, D, _, 0, _, rfl, rfl, .inl (.inl hD), rfl, ?_⟩
          exact ⟨rfl, rfl, mk⟩
      | 1, hw, n1, h =>
        have h : H p = some (.tup [.str "spread", v, .int n']) := h
        refine ⟨_, rfl, p, _, 0, _, rfl, rfl, .inl (.inl h), rfl, _, rfl, a, 2, n, rfl, src, by omega, by decide, by decide, fun wy H1 w0 w1 o1 s1 => ?_⟩
        refine ⟨_, _, rfl, _, rfl, rfl, _, rfl, iteFd (by decide) ?_⟩
        refine ⟨_, rfl, d, _, _, rfl, treeAt_old ht0 src0 o1, fun l ks H2 s2 nl hL kd => ?_⟩
        have al : l ≠ a := Ne.symm (s1.ne nl)
        refine ⟨l, rfl, ⟨_, .inl (.inl hL)⟩, fun D nD => ?_⟩
        refine lc_made (K := K) (d := d) (a := a) (n := n + 1) kd.1 nD hL al kl (s1.same s2) (fun j v' c hv hc m H3 R o3 s3 hm kk => ?_) (fun H3 ps o3 s3 hD sg => ?_)
        · have hcp := kid_parts (List.mem_of_getElem? hc)
          exact ⟨_, rfl, _, rfl, a, m, c, v', rfl, s3, treeAt_old ((kd.2 j v' c hv hc).same s2) (s1.same s2) o3, by omega, by omega, by omega, kk⟩
        have o13 : Old a H H3 := (o1.trans (Old.same s2)).trans o3
        have h3 := o13 _ _ h (ne h)
        obtain ⟨c, rfl⟩ : ∃ c, ps = [c] := by
          have := sg.1
          match ps, this with
          | [c], _ => exact ⟨c, rfl⟩
        have sc : SigAt K H3 d x c := sg.2 0 c x rfl rfl
        refine ⟨_, rfl, rfl, _, rfl, iteFd (by decide) ?_⟩
        refine ⟨_, rfl, rfl, _, rfl, iteFd (by decide) ?_⟩
        refine ⟨_, rfl, rfl, _, rfl, iteFd (by decide) ?_⟩
        refine ⟨_, rfl, rfl, _, rfl, iteFd (by decide) ?_⟩
        have mk : Made K (spPrI K 1 "Spread") (He.ga K "Spread") H3 Q [.ref c, .int n'] := make_pair sc n0 n6 n1 p12 dp tl fun q H6 s6 sx => k q H6 (o13.trans (Old.same s6)) ((s3.same s6).le (by rw [pe]; omega)) sx
        refine ⟨_, rfl, rfl, _, rfl, ?_⟩
        refine ite2 (fun _ => ?_) (fun _ => ?_)
        · exact ⟨_, rfl, D, _, 0, _, rfl, rfl, .inl (.inl hD), rfl, _, rfl, p, _, 2, _, rfl, rfl, .inl (.inl h3), rfl, mk⟩
        · refine ⟨_, rfl, p, _, 2, _, rfl, rfl, .inl (.inl h3), rfl, _, rfl, D, _, 0, _, rfl, rfl, .inl (.inl hD), rfl, ?_⟩
          exact ⟨rfl, rfl, mk⟩
      | 2, hw, n1, h =>
        have h : H p = some (.tup [.str "late", v, .int n']) := h
        refine ⟨_, rfl, p, _, 0, _, rfl, rfl, .inl (.inl h), rfl, _, rfl, a, 2, n, rfl, src, by omega, by decide, by decide, fun wy H1 w0 w1 o1 s1 => ?_⟩
        refine ⟨_, _, rfl, _, rfl, rfl, _, rfl, iteFd (by decide) ?_⟩
        refine ⟨_, rfl, d, _, _, rfl, treeAt_old ht0 src0 o1, fun l ks H2 s2 nl hL kd => ?_⟩
        have al : l ≠ a := Ne.symm (s1.ne nl)
        refine ⟨l, rfl, ⟨_, .inl (.inl hL)⟩, fun D nD => ?_⟩
        refine lc_made (K := K) (d := d) (a := a) (n := n + 1) kd.1 nD hL al kl (s1.same s2) (fun j v' c hv hc m H3 R o3 s3 hm kk => ?_) (fun H3 ps o3 s3 hD sg => ?_)
        · have hcp := kid_parts (List.mem_of_getElem? hc)
          exact ⟨_, rfl, _, rfl, a, m, c, v', rfl, s3, treeAt_old ((kd.2 j v' c hv hc).same s2) (s1.same s2) o3, by omega, by omega, by omega, kk⟩
        have o13 : Old a H H3 := (o1.trans (Old.same s2)).trans o3
        have h3 := o13 _ _ h (ne h)
        obtain ⟨c, rfl⟩ : ∃ c, ps = [c] := by
          have := sg.1
          match ps, this with
          | [c], _ => exact ⟨c, rfl⟩
        have sc : SigAt K H3 d x c := sg.2 0 c x rfl rfl
        refine ⟨_, rfl, rfl, _, rfl, iteFd (by decide) ?_⟩
        refine ⟨_, rfl, rfl, _, rfl, iteFd (by decide) ?_⟩
        refine ⟨_, rfl, rfl, _, rfl, iteTd rfl ?_⟩
        have mk : Made K (spPrI K 2 "Late") (He.ga K "Late") H3 Q [.ref c, .int n'] := make_pair sc n0 n6 n1 p12 dp tl fun q H6 s6 sx => k q H6 (o13.trans (Old.same s6)) ((s3.same s6).le (by rw [pe]; omega)) sx
        refine ⟨_, rfl, rfl, _, rfl, ?_⟩
        refine ite2 (fun _ => ?_) (fun _ => ?_)
        · exact ⟨_, rfl, D, _, 0, _, rfl, rfl, .inl (.inl hD), rfl, _, rfl, p, _, 2, _, rfl, rfl, .inl (.inl h3), rfl, mk⟩
        · refine ⟨_, rfl, p, _, 2, _, rfl, rfl, .inl (.inl h3), rfl, _, rfl, D, _, 0, _, rfl, rfl, .inl (.inl hD), rfl, ?_⟩
          exact ⟨rfl, rfl, mk⟩
      | w + 3, hw, n1, h => omega
end
end K09

namespace K09
open PySem PySem.Spec PyProof.Rows L2 Hk NumM NumT SX
section
variable {P : Program} {w : World} {K : Fr} {mg : Str → Option Value} {base : Heap}
/-- which classes -/
def kindsL (t : Tree) : List Bool := [true, decide ("Name" = t.cls), decide ("Sum" = t.cls), decide ("Times" = t.cls), decide ("Late" = t.cls), decide ("Every" = t.cls), decide ("Spread" = t.cls)]
theorem kit_cls (T : Tx K mg) (t : Tree) {z : Str} (h : z ∈ (["Name", "Sum", "Times", "Late", "Every", "Spread"] : List Str)) : PySem.W.kitOne K (.ref (CT K t)) (.ref (He.ga K z)) = some (decide (z = t.cls)) := by
  have go : ∀ y : Str, tKits y [("Signal", true), ("Name", decide ("Name" = y)), ("Sum", decide ("Sum" = y)), ("Times", decide ("Times" = y)), ("Late", decide ("Late" = y)), ("Every", decide ("Every" = y)), ("Spread", decide ("Spread" = y))] K = true → PySem.W.kitOne K (.ref (He.ga K y)) (.ref (He.ga K z)) = some (decide (z = y)) := by
    intro y c
    refine kitsO_ok c ?_
    simp only [List.mem_cons, List.not_mem_nil, or_false] at h
    rcases h with rfl | rfl | rfl | rfl | rfl | rfl <;> simp
  refine go t.cls ?_
  cases t with
  | name l => exact f_kits_Name T.c
  | sum ts => exact f_kits_Sum T.c
  | times t b x => exact f_kits_Times T.c
  | pair w x n =>
    by_cases h0 : w = 0
    · have e : (Tree.pair w x n).cls = "Every" := by
        show clsOf w = _
        unfold clsOf
        rw [if_pos h0]
      rw [e]
      exact f_kits_Every T.c
    · by_cases h1 : w = 1
      · have e : (Tree.pair w x n).cls = "Spread" := by
          show clsOf w = _
          unfold clsOf
          rw [if_neg h0, if_pos h1]
        rw [e]
        exact f_kits_Spread T.c
      · have e : (Tree.pair w x n).cls = "Late" := by
          show clsOf w = _
          unfold clsOf
          rw [if_neg h0, if_neg h1]
        rw [e]
        exact f_kits_Late T.c
def spKinds (K : Fr) : Sp := fun vs H Q _ => ∃ (d : Nat) (t : Tree) (x : Addr), vs = [.ref x] ∧ SigAt K H d t x ∧ ∀ (l : Addr) (H' : Hp), Same H H' → H' l = some (.lst ((kindsL t).map V.bl)) → Q (.ref l) H'
theorem c_kinds (T : Tx K mg) : Cal P w K mg base 1 "_law_kinds" (gAd "_law_kinds" K) ["_law_thing"] (spKinds K) := by
  refine cal_of (d := d_l_kinds) (N := ["_law_thing", "_law_found"]) (a_l_kinds T.c) rfl sc_l_kinds (g_l_kinds T) (fun _ _ _ _ _ _ us hl => match us, hl with | [_], _ => rfl) (fun vs H Q E h => ?_) (fun cdv A outer s H vs Q E hr h => ?_)
  · obtain ⟨d, t, x, rfl, _⟩ := h
    rfl
  · obtain ⟨d, t, x, rfl, sg, k⟩ := h
    refine ⟨_, (pss_cons (ps_set (i := 1) sc_l_kinds.nd rfl (.inl rfl) (pe_lst (pa_cons (pe_callB call_isi (by rfl) (n_isinstance T) bo_isinstance (pa_cons (pv 0) (pa_cons (pe_glob (v := .ref (gAd "Signal" K)) rfl (g_Signal T) rfl) pa_nil))) (pa_cons (pe_callB call_isi (by rfl) (n_isinstance T) bo_isinstance (pa_cons (pv 0) (pa_cons (pe_glob (v := .ref (gAd "Name" K)) rfl (g_Name T) rfl) pa_nil))) (pa_cons (pe_callB call_isi (by rfl) (n_isinstance T) bo_isinstance (pa_cons (pv 0) (pa_cons (pe_glob (v := .ref (gAd "Sum" K)) rfl (g_Sum T) rfl) pa_nil))) (pa_cons (pe_callB call_isi (by rfl) (n_isinstance T) bo_isinstance (pa_cons (pv 0) (pa_cons (pe_glob (v := .ref (gAd "Times" K)) rfl (g_Times T) rfl) pa_nil))) pa_nil))))))
 (pss_one (ps_ret (pe_op op_cat (pv 1) (pe_lst (pa_cons (pe_callB call_isi (by rfl) (n_isinstance T) bo_isinstance (pa_cons (pv 0) (pa_cons (pe_glob (v := .ref (gAd "Late" K)) rfl (g_Late T) rfl) pa_nil))) (pa_cons (pe_callB call_isi (by rfl) (n_isinstance T) bo_isinstance (pa_cons (pv 0) (pa_cons (pe_glob (v := .ref (gAd "Every" K)) rfl (g_Every T) rfl) pa_nil))) (pa_cons (pe_callB call_isi (by rfl) (n_isinstance T) bo_isinstance (pa_cons (pv 0) (pa_cons (pe_glob (v := .ref (gAd "Spread" K)) rfl (g_Spread T) rfl) pa_nil))) pa_nil)))))))), ?_⟩
    refine ⟨_, rfl, _, _, _, _, true, rfl, .own _, .base (ty_sig T sg), kit_sig T t, ?_⟩
    refine ⟨_, rfl, _, _, _, _, _, rfl, .own _, .base (ty_sig T sg), kit_cls T t (z := "Name") (by simp), ?_⟩
    refine ⟨_, rfl, _, _, _, _, _, rfl, .own _, .base (ty_sig T sg), kit_cls T t (z := "Sum") (by simp), ?_⟩
    refine ⟨_, rfl, _, _, _, _, _, rfl, .own _, .base (ty_sig T sg), kit_cls T t (z := "Times") (by simp), (by show 4 ≤ sizeLine; decide), fun q nq => ?_⟩
    have s1 := same_upd (o := .lst [.bl true, .bl (decide ("Name" = t.cls)), .bl (decide ("Sum" = t.cls)), .bl (decide ("Times" = t.cls))]) nq
    have sg1 := sg.same s1
    refine ⟨_, rfl, _, rfl, _, _, _, _, _, rfl, .own _, .base (ty_sig T sg1), kit_cls T t (z := "Late") (by simp), ?_⟩
    refine ⟨_, rfl, _, _, _, _, _, rfl, .own _, .base (ty_sig T sg1), kit_cls T t (z := "Every") (by simp), ?_⟩
    refine ⟨_, rfl, _, _, _, _, _, rfl, .own _, .base (ty_sig T sg1), kit_cls T t (z := "Spread") (by simp), (by show 3 ≤ sizeLine; decide), fun r nr => ?_⟩
    refine ⟨q, r, _, _, rfl, rfl, same_upd nr _ _ upd_same, upd_same, (by show 7 ≤ sizeLine; decide), fun l nl => ?_⟩
    exact k l _ ((s1.trans (same_upd nr)).trans (same_upd nl)) upd_same
end
end K09

namespace K09
open PySem PySem.Spec PyProof.Rows L2 Hk NumM NumT SX
theorem signs_asc : ∀ c ∈ signsL, c < 128 := by decide +kernel
theorem word_asc (w : Nat) : Asc (wordOf w) := by
  unfold wordOf
  split
  · exact lit_asc (by decide +kernel)
  · split <;> exact lit_asc (by decide +kernel)
theorem tree_asc {H : Hp} {d : Nat} {t : Tree} {v : V} (I : TreeAt H d t v) : Asc t.tell ∧ ∀ l ∈ t.leaves, Nm l := by
  induction I with
  | @name d l p nm h =>
    refine ⟨?_, fun l' h' => ?_⟩
    · rw [Tree.tell]
      exact S_asc fun c hc => signs_asc c (nm.al c hc)
    · rw [Tree.leaves] at h'
      rw [List.mem_singleton.mp h']
      exact nm
  | @sum d ts xs p h n1 n5 hl hk ih =>
    have ix : ∀ c ∈ ts, Asc c.tell ∧ ∀ l ∈ c.leaves, Nm l := fun c hc => by
      obtain ⟨i, hi, e3⟩ := List.getElem_of_mem hc
      exact ih i (xs[i]'(by omega)) c (List.getElem?_eq_getElem _) (by rw [← e3]; exact List.getElem?_eq_getElem hi)
    refine ⟨?_, fun l h' => ?_⟩
    · rw [tell_sum]
      refine (Asc.app (lit_asc (by decide +kernel)) (join_asc (lit_asc (by decide +kernel)) fun t ht => ?_)).app (lit_asc (by decide +kernel))
      obtain ⟨c, hc, rfl⟩ := List.mem_map.mp ht
      exact (ix c hc).1
    · rw [leaves_eq (by intro l e; cases e)] at h'
      obtain ⟨ls, h1, h2⟩ := List.mem_flatten.mp h'
      obtain ⟨c, hc, rfl⟩ := List.mem_map.mp h1
      exact (ix c hc).2 l h2
  | @times d u b x v p g ok h hg hk ih =>
    refine ⟨?_, fun l h' => ?_⟩
    · rw [Tree.tell]
      exact ((((Asc.app (lit_asc (by decide +kernel)) (S_asc (fL_small u b))).app (lit_asc (by decide +kernel))).app ih.1).app (lit_asc (by decide +kernel)))
    · rw [Tree.leaves] at h'
      exact ih.2 l h'
  | @pair d w n x v p hw n0 n6 n1 h hk ih =>
    refine ⟨?_, fun l h' => ?_⟩
    · rw [Tree.tell]
      exact (((((word_asc w).app (lit_asc (by decide +kernel))).app ih.1).app (lit_asc (by decide +kernel))).app (S_asc (iL_small n))).app (lit_asc (by decide +kernel))
    · rw [Tree.leaves] at h'
      exact ih.2 l h'
/-- what is shown of an expression -/
noncomputable def dataOf (t : Tree) : PyData := .list [.str t.word, .str t.tell, .str t.shown, .tuple ((nmOf t).map .str), .int t.parts, .int t.deep, .list ((kindsL t).map .bool)]
theorem bulk_strs : ∀ l : List Str, (∀ x ∈ l, x.length ≤ 8) → PyData.bulkAll (l.map .str) ≤ 9 * l.length
  | [], _ => Nat.le_refl _
  | x :: r, h => by
    have ih := bulk_strs r fun y hy => h y (List.mem_cons_of_mem _ hy)
    have hx : x.cps.size ≤ 8 := h x List.mem_cons_self
    simp only [List.map_cons, PyData.bulkAll, PyData.bulk, List.length_cons]
    omega
theorem short_strs : ∀ l : List Str, (∀ x ∈ l, Asc x) → PyData.leavesShortAll 13 (l.map .str) = true
  | [], _ => rfl
  | x :: r, h => by
    have ih := short_strs r fun y hy => h y (List.mem_cons_of_mem _ hy)
    have hx : (PyData.str x).leavesShort 13 = true := by
      simp only [PyData.leavesShort, List.all_eq_true, decide_eq_true_eq]
      intro c hc
      exact Nat.lt_trans (h x List.mem_cons_self c hc) (by decide)
    simp only [List.map_cons, PyData.leavesShortAll, Bool.and_eq_true]
    exact ⟨hx, ih⟩
theorem show_strs : ∀ l : List Str, PyData.showableAll (l.map .str) = true
  | [] => rfl
  | x :: r => by
    simp only [List.map_cons, PyData.showableAll, PyData.showable, Bool.true_and]
    exact show_strs r
theorem depth_strs : ∀ l : List Str, PyData.depthAll (l.map .str) ≤ 1
  | [] => by simp [PyData.depthAll]
  | x :: r => by
    have := depth_strs r
    simp only [List.map_cons, PyData.depthAll, PyData.depth]
    omega
theorem str_short {x : Str} (h : Asc x) : (PyData.str x).leavesShort 13 = true := by
  simp only [PyData.leavesShort, List.all_eq_true, decide_eq_true_eq]
  intro c hc
  exact Nat.lt_trans (h c hc) (by decide)
theorem small_int : ∀ n : Nat, n ≤ 12 → (PyData.int n).leavesShort 13 = true ∧ (PyData.int n).showable = true := by decide +kernel
theorem cls_asc (t : Tree) : Asc t.word ∧ t.word.length ≤ 6 := by
  cases t with
  | name l => exact ⟨(show Asc ("name" : Str) from lit_asc (by decide +kernel)), (show ("name" : Str).length ≤ 6 by decide +kernel)⟩
  | sum ts => exact ⟨(show Asc ("sum" : Str) from lit_asc (by decide +kernel)), (show ("sum" : Str).length ≤ 6 by decide +kernel)⟩
  | times t b x => exact ⟨(show Asc ("times" : Str) from lit_asc (by decide +kernel)), (show ("times" : Str).length ≤ 6 by decide +kernel)⟩
  | pair w x n => exact ⟨word_asc w, word_len⟩
theorem data_ok {H : Hp} {d : Nat} {t : Tree} {v : V} (I : TreeAt H d t v) (hd : d ≤ 5) (p12 : t.parts ≤ 12) (nm : IsNm t (nmOf t)) : (dataOf t).showable = true ∧ (dataOf t).depth ≤ 60 ∧ (dataOf t).shown.length ≤ sizeLine := by
  obtain ⟨ha, hn⟩ := tree_asc I
  have tn := tell_le I
  have h7 : 40 * 6 ^ d ≤ 40 * 6 ^ 5 := Nat.mul_le_mul_left _ (Nat.pow_le_pow_right (by decide) hd)
  have c2 : (40 : Nat) * 6 ^ 5 = 311040 := by decide
  have dp : t.deep ≤ 12 := Nat.le_trans (deep_le I) (by omega)
  have nx : ∀ x ∈ nmOf t, Asc x ∧ x.length ≤ 8 := fun x hx => by
    obtain ⟨l, hl, rfl⟩ := List.mem_map.mp ((nm.2.2 x).mp hx)
    have := hn l hl
    exact ⟨S_asc fun c hc => signs_asc c (this.al c hc), by rw [S_len]; exact this.hi⟩
  have nl : (nmOf t).length ≤ 12 := by
    refine Nat.le_trans nm.len ?_
    have : ∀ {H : Hp} {d : Nat} {t : Tree} {v : V}, TreeAt H d t v → t.leaves.length ≤ t.parts := by
      intro H d t v I
      induction I with
      | name nm h => simp [Tree.leaves, Tree.parts]
      | @sum d ts xs p h n1 n5 hl hk ih =>
        rw [leaves_eq (by intro l e; cases e), parts_eq, List.length_flatten, List.map_map]
        have := sum_map_le (f := List.length ∘ Tree.leaves) (g := Tree.parts) (l := (Tree.sum ts).kids) fun c hc => by
          have hc : c ∈ ts := hc
          obtain ⟨i, hi, e3⟩ := List.getElem_of_mem hc
          exact ih i (xs[i]'(by omega)) c (List.getElem?_eq_getElem _) (by rw [← e3]; exact List.getElem?_eq_getElem hi)
        omega
      | times ok h hg hk ih => rw [Tree.leaves, Tree.parts]; omega
      | pair hw n0 n6 n1 h hk ih => rw [Tree.leaves, Tree.parts]; omega
    exact Nat.le_trans (this I) p12
  obtain ⟨wa, wl⟩ := cls_asc t
  have ip := small_int t.parts p12
  have id' := small_int t.deep dp
  have sa : Asc t.shown := (Asc.app (lit_asc (by decide +kernel)) ha).app (lit_asc (by decide +kernel))
  refine ⟨?_, ?_, ?_⟩
  · unfold dataOf
    have a := ip.2
    have b := id'.2
    have c := show_strs (nmOf t)
    simp only [PyData.showable, PyData.showableAll, kindsL, List.map_cons, List.map_nil] at a b c ⊢
    simp [a, b, c]
    exact ⟨by have := Nat.log2_le_self t.parts; omega, by have := Nat.log2_le_self t.deep; omega⟩
  · unfold dataOf
    have := depth_strs (nmOf t)
    simp only [PyData.depth, PyData.depthAll, kindsL, List.map_cons, List.map_nil]
    omega
  · refine PyData.shown_fits_bulk (B := 13) (by decide) (by decide) ?_ ?_
    · unfold dataOf
      have a := ip.1
      have b := id'.1
      have c := short_strs (nmOf t) fun x hx => (nx x hx).1
      have e1 := str_short wa
      have e2 := str_short ha
      have e3 := str_short sa
      simp only [PyData.leavesShort, PyData.leavesShortAll, kindsL, List.map_cons, List.map_nil] at a b c e1 e2 e3 ⊢
      simp [a, b, c, e1, e2, e3]
    · unfold dataOf
      have c := bulk_strs (nmOf t) fun x hx => (nx x hx).2
      have e1 : t.word.cps.size ≤ 6 := wl
      have e2 : t.tell.cps.size ≤ 311040 := by
        have : t.tell.length ≤ 311040 := by omega
        exact this
      have e3 : t.shown.cps.size ≤ 311048 := by
        have : t.shown.length ≤ 311048 := by
          unfold Tree.shown
          rw [str_len, str_len]
          have l1 : ("Signal(" : Str).length = 7 := rfl
          have l2 : (")" : Str).length = 1 := rfl
          omega
        exact this
      simp only [PyData.bulk, PyData.bulkAll, kindsL, List.map_cons, List.map_nil]
      have e : (2 : Nat) ^ 20 = 1048576 := by decide
      omega
end K09

namespace K09
open PySem PySem.Spec PyProof.Rows L2 Hk NumM NumT SX
theorem SigAt.le {K : Fr} {H : Hp} {d e : Nat} {t : Tree} {x : Addr} (I : SigAt K H d t x) (h : d ≤ e) : SigAt K H e t x := by
  induction h with
  | refl => exact I
  | step _ ih => exact ih.up
theorem TreeAt.up {H : Hp} {d : Nat} {t : Tree} {v : V} (I : TreeAt H d t v) : TreeAt H (d + 1) t v := by
  induction I with
  | name nm h => exact .name nm h
  | sum h n1 n5 hl hk ih => exact .sum h n1 n5 hl ih
  | times ok h hg hk ih => exact .times ok h hg ih
  | pair hw n0 n6 n1 h hk ih => exact .pair hw n0 n6 n1 h ih
theorem TreeAt.le {H : Hp} {d e : Nat} {t : Tree} {v : V} (I : TreeAt H d t v) (h : d ≤ e) : TreeAt H e t v := by
  induction h with
  | refl => exact I
  | step _ ih => exact ih.up
theorem dp_strs {K : Fr} {H : Hp} : ∀ l : List Str, DpAll K H (l.map V.str) (l.map .str)
  | [] => .nil
  | x :: r => .cons (.str x) (dp_strs r)
theorem dp_bls {K : Fr} {H : Hp} : ∀ l : List Bool, DpAll K H (l.map V.bl) (l.map .bool)
  | [] => .nil
  | x :: r => .cons (.bl x) (dp_bls r)
theorem dp_data {K : Fr} {H : Hp} {t : Tree} {r q l : Addr} (hr : H r = some (.lst [.str t.word, .str t.tell, .str t.shown, .ref q, .int t.parts, .int t.deep, .ref l])) (hq : H q = some (.tup ((nmOf t).map V.str))) (hl : H l = some (.lst ((kindsL t).map V.bl))) : Dp K H (.ref r) (dataOf t) :=
  .lst (.inl (.inl hr)) (.cons (.str _) (.cons (.str _) (.cons (.str _) (.cons (.tup (.inl (.inl hq)) (dp_strs _)) (.cons (.int _) (.cons (.int _) (.cons (.lst (.inl (.inl hl)) (dp_bls _)) .nil)))))))
section
variable {P : Program} {w : World} {K : Fr} {mg : Str → Option Value} {base : Heap}
def spShown (K : Fr) : Sp := fun vs H Q _ => ∃ (t : Tree) (x : Addr) (v : V), vs = [.ref x] ∧ SigAt K H 5 t x ∧ TreeAt H 5 t v ∧ t.parts ≤ 12 ∧ ∀ H', Same H H' → Q (.str (dataOf t).shown) H'
abbrev tAt (K : Fr) (f : Str) (g : Fr → Addr) (sp : Sp) : TE := tPropA K (He.ma K (He.ga K "Signal") f) (g K) f sp (tVar 0)
theorem c_shown (T : Tx K mg) : CalG P w K mg base 13 "_law_shown" (gAd "_law_shown" K) ["_law_made_here"] (spShown K) := by
  obtain ⟨fs, Ds, Fs⟩ := f_sgstr (P := P) (w := w) (base := base) T
  obtain ⟨fr, Dr, Fr'⟩ := f_sgrepr (P := P) (w := w) (base := base) T
  obtain ⟨fp, Dp', Fp⟩ := f_sgparts (P := P) (w := w) (base := base) T
  obtain ⟨fe, De, Fe⟩ := f_sgdepth (P := P) (w := w) (base := base) T
  obtain ⟨fn, Dn, Fn⟩ := f_sgnames (P := P) (w := w) (base := base) T 5
  have C_kinds := c_kinds (P := P) (w := w) (base := base) T
  have bs : Binds K fs ["self"] [] := FunD.bindsN Ds fun _ _ _ _ _ _ us hl => match us, hl with | [_], _ => rfl
  have br : Binds K fr ["self"] [] := FunD.bindsN Dr fun _ _ _ _ _ _ us hl => match us, hl with | [_], _ => rfl
  have bp : Binds K fp ["self"] [] := FunD.bindsN Dp' fun _ _ _ _ _ _ us hl => match us, hl with | [_], _ => rfl
  have be : Binds K fe ["self"] [] := FunD.bindsN De fun _ _ _ _ _ _ us hl => match us, hl with | [_], _ => rfl
  have bn : Binds K fn ["self"] [] := FunD.bindsN Dn fun _ _ _ _ _ _ us hl => match us, hl with | [_], _ => rfl
  refine calg_of (d := d_l_shown) (N := ["_law_made_here"]) (a_l_shown T.c) rfl sc_l_shown (g_l_shown T) (fun _ _ _ _ _ _ us hl => match us, hl with | [_], _ => rfl) (fun vs H Q E h => ?_) (fun cdv A outer s H vs Q E hr hc h => ?_)
  · obtain ⟨t, x, v, rfl, _⟩ := h
    rfl
  · obtain ⟨t, x, v, rfl, sg, ht, p12, k⟩ := h
    have hr1 : Room 1 _ := hr.mono (by decide)
    have hr2 : Room 2 _ := hr.mono (by decide)
    have hr3 : Room 3 _ := hr.mono (by decide)
    refine ⟨_, (pss_one (ps_ret (pe_callB (call_reprD hc hr) (by rfl) (n_repr T) bo_repr (pa_cons (pe_lst
      (pa_cons (pe_icon (pv 0))
      (pa_cons (pe_callTy (call_strA Fs bs hr3) (by rfl) (n_str T) bo_str (pa_cons (pv 0) pa_nil))
      (pa_cons (pe_callB (call_reprA Fr' br hr2) (by rfl) (n_repr T) bo_repr (pa_cons (pv 0) pa_nil))
      (pa_cons (pe_propA (p := He.ma K (He.ga K "Signal") "names") (pv 0) Fn hr bn)
      (pa_cons (pe_propA (p := He.ma K (He.ga K "Signal") "parts") (pv 0) Fp hr2 bp)
      (pa_cons (pe_propA (p := He.ma K (He.ga K "Signal") "depth") (pv 0) Fe hr2 be)
      (pa_cons (pe_c C_kinds hr1 (pa_cons (pv 0) pa_nil)) pa_nil)))))))) pa_nil)))), ?_⟩
    have sg0 := sg
    cases sg with
    | @mk _ _ _ dx tp am xs h htp hl n5 ne tl hk =>
      have cx := cl_of T t
      refine ⟨_, rfl, CT K t, x, _, _, _, rfl, h, rfl, cx, sub_icon (sub_of T t), ?_⟩
      refine ⟨_, rfl, CT K t, sub_own (sub_of T t) (by simp), x, _, _, rfl, h, 5, t, x, rfl, sg0, _, rfl, ?_⟩
      refine ⟨_, rfl, CT K t, sub_own (sub_of T t) (by simp), x, _, _, rfl, h, 5, t, x, rfl, sg0, _, rfl, ?_⟩
      refine ⟨_, rfl, CT K t, x, _, _, rfl, h, cx, sub_prop (sub_of T t) (by simp), t, x, rfl, sg0, p12, fun q H1 s1 hq nm => ?_⟩
      have h1 := s1 _ _ h
      refine ⟨_, rfl, CT K t, x, _, _, rfl, h1, cx, sub_prop (sub_of T t) (by simp), 5, t, x, rfl, sg0.same s1, ?_⟩
      refine ⟨_, rfl, CT K t, x, _, _, rfl, h1, cx, sub_prop (sub_of T t) (by simp), 5, t, x, rfl, sg0.same s1, ?_⟩
      refine ⟨_, rfl, 5, t, x, rfl, sg0.same s1, fun l H2 s2 hl2 => ⟨(by show 7 ≤ sizeLine; decide), fun r nr => ?_⟩⟩
      obtain ⟨o1, o2, o3⟩ := data_ok ht (by decide) p12 nm
      exact ⟨_, dataOf t, rfl, dp_data upd_same (same_upd nr _ _ (s2 _ _ hq)) (same_upd nr _ _ hl2), o1, o2, o3, k _ ((s1.trans s2).trans (same_upd nr))⟩
end
end K09

namespace K09
open PySem PySem.Spec PyProof.Rows L2 Hk NumM NumT SX
theorem tree_head {H : Hp} {d : Nat} {t : Tree} {v : V} (I : TreeAt H d t v) : ∃ p xs, v = .ref p ∧ H p = some (.tup (.str t.word :: xs)) := by
  cases I with
  | name nm h => exact ⟨_, _, rfl, h⟩
  | sum h n1 n5 hl hk => exact ⟨_, _, rfl, h⟩
  | times ok h hg hk => exact ⟨_, _, rfl, h⟩
  | pair hw n0 n6 n1 h hk => exact ⟨_, _, rfl, h⟩
theorem tleaves {H : Hp} {d : Nat} {t : Tree} {v : V} (I : TreeAt H d t v) : t.leaves.length ≤ t.parts := by
  induction I with
  | name nm h => simp [Tree.leaves, Tree.parts]
  | @sum d ts xs p h n1 n5 hl hk ih =>
    rw [leaves_eq (by intro l e; cases e), parts_eq, List.length_flatten, List.map_map]
    have := sum_map_le (f := List.length ∘ Tree.leaves) (g := Tree.parts) (l := (Tree.sum ts).kids) fun c hc => by
      have hc : c ∈ ts := hc
      obtain ⟨i, hi, e3⟩ := List.getElem_of_mem hc
      exact ih i (xs[i]'(by omega)) c (List.getElem?_eq_getElem _) (by rw [← e3]; exact List.getElem?_eq_getElem hi)
    omega
  | times ok h hg hk ih => rw [Tree.leaves, Tree.parts]; omega
  | pair hw n0 n6 n1 h hk ih => rw [Tree.leaves, Tree.parts]; omega
def wordsK : List Str := ["name", "sum", "times", "late", "every", "spread"]
def kindsB (c : Str) : List Bool := [true, decide ("Name" = c), decide ("Sum" = c), decide ("Times" = c), decide ("Late" = c), decide ("Every" = c), decide ("Spread" = c)]
abbrev KE (c z : Str) : Prop := (wordsK.map fun y => V.bl (decide (V.str y = V.str z))) = ((kindsB c).drop 1).map V.bl
theorem kinds_eq (t : Tree) : (wordsK.map fun z => V.bl (decide (V.str z = V.str t.word))) = ((kindsL t).drop 1).map V.bl := by
  show KE t.cls t.word
  cases t with
  | name l => exact (by decide +kernel : KE "Name" "name")
  | sum ts => exact (by decide +kernel : KE "Sum" "sum")
  | times u b x => exact (by decide +kernel : KE "Times" "times")
  | pair w x n =>
    show KE (clsOf w) (wordOf w)
    unfold clsOf wordOf
    by_cases h0 : w = 0
    · rw [if_pos h0, if_pos h0]
      exact (by decide +kernel : KE "Every" "every")
    · rw [if_neg h0, if_neg h0]
      by_cases h1 : w = 1
      · rw [if_pos h1, if_pos h1]
        exact (by decide +kernel : KE "Spread" "spread")
      · rw [if_neg h1, if_neg h1]
        exact (by decide +kernel : KE "Late" "late")
section
variable {P : Program} {w : World} {K : Fr} {mg : Str → Option Value} {base : Heap}
def spDue (K : Fr) : Sp := fun vs H Q _ => ∃ (t : Tree) (v : V), vs = [v] ∧ TreeAt H 5 t v ∧ t.parts ≤ 12 ∧ ∀ H', Same H H' → Q (.str (dataOf t).shown) H'
theorem c_due (T : Tx K mg) : CalG P w K mg base 8 "_law_due" (gAd "_law_due" K) ["_law_tree_here"] (spDue K) := by
  have C_tell := c_tell (P := P) (w := w) (base := base) T 5
  have C_leaves := c_leaves (P := P) (w := w) (base := base) T 5
  have C_parts := c_parts (P := P) (w := w) (base := base) T 5
  have C_depth := c_depth (P := P) (w := w) (base := base) T 5
  refine calg_of (d := d_l_due) (N := ["_law_tree_here", "_law_line", "_law_words", "_law_found", "_law_word"]) (a_l_due T.c) rfl sc_l_due (g_l_due T) (fun _ _ _ _ _ _ us hl => match us, hl with | [_], _ => rfl) (fun vs H Q E h => ?_) (fun cdv A outer s H vs Q E hr hc h => ?_)
  · obtain ⟨t, v, rfl, _⟩ := h
    rfl
  · obtain ⟨t, v, rfl, ht, p12, k⟩ := h
    refine ⟨_, (pss_cons (ps_par (i := 1) (j := 2) (by rfl) sc_l_due.nd rfl rfl (by decide) rfl rfl (pa_cons (pe_c C_tell hr (pa_cons (pv 0) pa_nil)) (pa_cons (pe_lst (pa_cons pe_str (pa_cons pe_str (pa_cons pe_str (pa_cons pe_str (pa_cons pe_str (pa_cons pe_str pa_nil))))))) pa_nil)) (by rfl))
 (pss_cons (ps_set (i := 3) sc_l_due.nd rfl (.inl rfl) (pe_lst (pa_cons (pe_ix ix_tup (pv 0) pe_int (fun _ _ => rfl)) (pa_cons (pv 1) (pa_cons (pe_op op_add_str (pe_op op_add_str pe_str (pv 1)) pe_str) (pa_cons (pe_callTy call_tuple_of (by rfl) (n_tuple T) bo_tuple (pa_cons (pe_callB (cr_sortedX rfl) (by rfl) (n_sorted T) bo_sorted (pa_cons (pe_callTy (cr_setOfS rfl) (by rfl) (n_set T) bo_set (pa_cons (pe_c C_leaves hr (pa_cons (pv 0) pa_nil)) pa_nil)) pa_nil)) pa_nil)) pa_nil))))))
 (pss_one (ps_ret (pe_callB (call_reprD hc hr) (by rfl) (n_repr T) bo_repr (pa_cons (pe_op op_cat (pv 3) (pe_lst (pa_cons (pe_c C_parts hr (pa_cons (pv 0) pa_nil)) (pa_cons (pe_c C_depth hr (pa_cons (pv 0) pa_nil)) (pa_cons (pe_op op_cat (pe_lst (pa_cons pe_bl pa_nil)) (pe_lc (own := [("_law_word", 4)]) (g := gName 4) (tt := tYes) rfl sc_l_due.nd (pi_list (pv 2)) (blkOk_by (N := ["_law_tree_here", "_law_line", "_law_words", "_law_found", "_law_word"]) (sc := defScope s_l_due) (by decide +kernel)) (fun _ _ _ _ _ => pg_name (i := 4) sc_l_due.nd rfl (.inl rfl)) (fun _ _ _ _ _ => pts_nil) (fun _ _ _ _ _ => (pe_cmpR op_eq (pv 4) (pe_ix (ix_tup : IxR _ (rIxT K)) (pv 0) pe_int (fun _ _ => rfl)) (nomark _))))) pa_nil))))) pa_nil)))))), ?_⟩
    obtain ⟨p, xs, rfl, hp⟩ := tree_head ht
    have a0 : atI (V.str t.word :: xs) 0 = some (V.str t.word) := atI_nat (j := 0) rfl
    have tn := tell_le ht
    have c2 : (40 : Nat) * 6 ^ 5 = 311040 := by decide
    have l1 : ("Signal(" : Str).length = 7 := rfl
    have l2 : (")" : Str).length = 1 := rfl
    have lv := tleaves ht
    refine ⟨_, rfl, t, _, rfl, ht, by decide, fun H1 s1 => ⟨(by show 6 ≤ sizeLine; decide), fun wl nwl => ?_⟩⟩
    refine ⟨_, _, rfl, ?_⟩
    have s2 := s1.trans (same_upd (o := .lst (wordsK.map V.str)) nwl)
    have hw2 : (upd H1 wl (.lst (wordsK.map V.str))) wl = some (.lst (wordsK.map V.str)) := upd_same
    refine ⟨_, rfl, p, _, 0, _, rfl, rfl, .inl (.inl (s2 _ _ hp)), a0, _, rfl, _, rfl, _, _, rfl, rfl, big6 (by omega), _, _, rfl, rfl, big6 (by rw [str_len]; omega), ?_⟩
    refine ⟨_, rfl, t, _, rfl, ht.same s2, by decide, fun ll H2 s3 nll hll => ?_⟩
    refine ⟨ll, t.leaves.map S, rfl, .inl (.inl (by rw [hll, List.map_map]; rfl)), by rw [List.length_map]; omega, fun sa zs na nd hm => ?_⟩
    have hz : zs.length ≤ 12 := by
      have := nd_len nd fun j hj => (hm j).mp hj
      rw [List.length_map] at this
      omega
    refine ⟨sa, zs, rfl, upd_same, by omega, fun sp ys np pm so => ?_⟩
    have nm := nm_of_set nd hm pm so
    refine ⟨sp, _, rfl, .inl ⟨.inl (.inl upd_same), fun tq ntq => ⟨(by show 4 ≤ sizeLine; decide), fun fl nfl => ?_⟩⟩⟩
    have ey := nm.eq
    subst ey
    have s4 := ((((s2.trans s3).trans (same_upd (o := SetXO P w sa zs) na)).trans (same_upd (o := .lst ((nmOf t).map V.str)) np)).trans (same_upd (o := .tup ((nmOf t).map V.str)) ntq))
    have s5 := s4.trans (same_upd (o := .lst [.str t.word, .str t.tell, .str t.shown, .ref tq]) nfl)
    refine ⟨_, rfl, _, rfl, t, _, rfl, ht.same s5, fun H4 s6 => ?_⟩
    refine ⟨_, rfl, t, _, rfl, ht.same (s5.trans s6), fun H5 s7 => ⟨(by show 1 ≤ sizeLine; decide), fun ol nol => ?_⟩⟩
    have s8 := ((s5.trans s6).trans s7).trans (same_upd (o := .lst [.bl true]) nol)
    have s28 : Same (upd H1 wl (.lst (wordsK.map V.str))) _ := (((((((s3.trans (same_upd (o := SetXO P w sa zs) na)).trans (same_upd (o := .lst ((nmOf t).map V.str)) np)).trans (same_upd (o := .tup ((nmOf t).map V.str)) ntq)).trans (same_upd (o := .lst [.str t.word, .str t.tell, .str t.shown, .ref tq]) nfl)).trans s6).trans s7).trans (same_upd (o := .lst [.bl true]) nol))
    have hw8 := s28 _ _ hw2
    refine ⟨_, rfl, wl, rfl, ⟨_, .inl (.inl hw8)⟩, fun D nD => ?_⟩
    refine lc_idx (wordsK.map fun z => V.bl (decide (V.str z = V.str t.word))) (by simp) nD (.inl (.inl hw8)) (by show 6 ≤ 100000; decide) (fun j c y hc2 hy H6 R s9 q => ?_) (fun H6 s9 hD => ?_)
    · rw [List.getElem?_map] at hc2 hy
      obtain ⟨z, h1, rfl⟩ := Option.map_eq_some_iff.mp hc2
      rw [h1] at hy
      cases hy
      exact ⟨_, rfl, _, rfl, p, _, 0, _, rfl, rfl, .inl (.inl (s9 _ _ (s8 _ _ hp))), a0, rfl, q _ (Same.refl _)⟩
    · rw [kinds_eq] at hD
      refine ⟨ol, D, [.bl true], _, rfl, rfl, s9 _ _ upd_same, hD, (by show 7 ≤ sizeLine; decide), fun il nil' => ⟨(by show 3 ≤ sizeLine; decide), fun ml nml => ?_⟩⟩
      have e6 := (((s6.trans s7).trans (same_upd (o := .lst [.bl true]) nol)).trans s9).trans (same_upd (o := .lst ([.bl true] ++ ((kindsL t).drop 1).map V.bl)) nil')
      have e7 := e6.trans (same_upd (o := .lst [.int t.parts, .int t.deep, .ref il]) nml)
      refine ⟨fl, ml, _, _, rfl, rfl, e7 _ _ upd_same, upd_same, (by show 7 ≤ sizeLine; decide), fun rl nrl => ?_⟩
      have e8 := e7.trans (same_upd (o := .lst ([.str t.word, .str t.tell, .str t.shown, .ref tq] ++ [.int t.parts, .int t.deep, .ref il])) nrl)
      obtain ⟨o1, o2, o3⟩ := data_ok ht (by decide) p12 nm
      refine ⟨_, dataOf t, rfl, dp_data (r := rl) (q := tq) (l := il) upd_same (e8 _ _ (same_upd nfl _ _ upd_same)) ?_, o1, o2, o3, k _ (s5.trans e8)⟩
      have hil := same_upd (o := .lst ([.str t.word, .str t.tell, .str t.shown, .ref tq] ++ [.int t.parts, .int t.deep, .ref il])) nrl _ _ (same_upd (o := .lst [.int t.parts, .int t.deep, .ref il]) nml _ _ upd_same)
      exact hil
end
end K09

namespace K09
open PySem PySem.Spec PyProof.Rows L2 Hk NumM NumT SX
theorem bo_any' : bootBuiltins "any" = some (.builtin "any") := by decide +kernel
theorem eqv3 {a b c : Str} : (!PyData.eqv (.list [.str a, .str b, .str c]) (.list [.str a, .str b, .str c])) = false := by simp [PyData.eqv, PyData.eqvAll]
theorem shaped3 {a b c : Str} (ha : Asc a) (hb : Asc b) (hc : Asc c) : SeqAt.shaped (.list [.str a, .str b, .str c]) = true := by
  unfold SeqAt.shaped
  simp [PyData.canLay0, PyData.canLayAll0, PyData.depth, PyData.depthAll, ha.ok, hb.ok, hc.ok]
theorem nmOf_mem {t : Tree} : ∀ x ∈ nmOf t, x ∈ t.leaves.map S := by
  intro x hx
  unfold nmOf at hx
  split at hx
  · rename_i h
    exact ((Classical.choose_spec h).2.2 x).mp hx
  · exact nomatch hx
theorem ascDs_strs : ∀ l : List Str, (∀ x ∈ l, Asc x) → ascDs (l.map .str)
  | [], _ => trivial
  | x :: r, h => ⟨h x List.mem_cons_self, ascDs_strs r fun y hy => h y (List.mem_cons_of_mem _ hy)⟩
theorem ascDs_bls : ∀ l : List Bool, ascDs (l.map .bool)
  | [] => trivial
  | x :: r => ⟨trivial, ascDs_bls r⟩
theorem data_asc {H : Hp} {d : Nat} {t : Tree} {v : V} (I : TreeAt H d t v) : Asc (dataOf t).shown := by
  obtain ⟨ha, hn⟩ := tree_asc I
  have sa : Asc t.shown := (Asc.app (lit_asc (by decide +kernel)) ha).app (lit_asc (by decide +kernel))
  refine shown_asc _ ⟨(cls_asc t).1, ha, sa, ascDs_strs _ (fun x hx => ?_), trivial, trivial, ascDs_bls _, trivial⟩
  obtain ⟨l, hl, rfl⟩ := List.mem_map.mp (nmOf_mem x hx)
  exact S_asc fun c hc => signs_asc c ((hn l hl).al c hc)
theorem bl4_ok (a b c d : Bool) : (PyData.list [.bool a, .bool b, .bool c, .bool d]).showable = true ∧ (PyData.list [.bool a, .bool b, .bool c, .bool d]).depth ≤ 60 ∧ (PyData.list [.bool a, .bool b, .bool c, .bool d]).shown.length ≤ sizeLine := by
  refine ⟨by simp [PyData.showable, PyData.showableAll], by simp [PyData.depth, PyData.depthAll], PyData.shown_fits_bulk (B := 8) (by decide) (by decide) (by simp [PyData.leavesShort, PyData.leavesShortAll]) (by simp [PyData.bulk, PyData.bulkAll])⟩
theorem sig_ins {K : Fr} {H : Hp} {d : Nat} {t : Tree} {x : Addr} (I : SigAt K H d t x) : ∃ dx fs, H x = some (.ins (CT K t) dx fs) := by
  cases I with
  | mk h ht hl n5 ne tl hk => exact ⟨_, _, h⟩
def big : Nat := 200000
section
variable {P : Program} {w : World} {K : Fr} {mg : Str → Option Value} {base : Heap}
theorem cls_mem (t : Tree) : t.cls ∈ (["Name", "Sum", "Times", "Late", "Every", "Spread", "Number"] : List Str) := by
  cases t with
  | name l => exact (by decide +kernel : ("Name" : Str) ∈ (["Name", "Sum", "Times", "Late", "Every", "Spread", "Number"] : List Str))
  | sum ts => exact (by decide +kernel : ("Sum" : Str) ∈ (["Name", "Sum", "Times", "Late", "Every", "Spread", "Number"] : List Str))
  | times u b x => exact (by decide +kernel : ("Times" : Str) ∈ (["Name", "Sum", "Times", "Late", "Every", "Spread", "Number"] : List Str))
  | pair w x n =>
    show clsOf w ∈ _
    unfold clsOf
    split
    · decide +kernel
    · split <;> decide +kernel
abbrev CLS : List Str := ["Name", "Sum", "Times", "Late", "Every", "Spread", "Number"]
abbrev TYS : List String := ["str", "NoneType", "int", "tuple", "list"]
theorem fst_of (T : Tx K mg) (t : Tree) : tFsts t.cls CLS K = true ∧ tFstT t.cls TYS K = true := by
  cases t with
  | name l => exact ⟨f_fst_Name T.c, f_fstT_Name T.c⟩
  | sum ts => exact ⟨f_fst_Sum T.c, f_fstT_Sum T.c⟩
  | times u b x => exact ⟨f_fst_Times T.c, f_fstT_Times T.c⟩
  | pair w x n =>
    show tFsts (clsOf w) CLS K = true ∧ tFstT (clsOf w) TYS K = true
    unfold clsOf
    split
    · exact ⟨f_fst_Every T.c, f_fstT_Every T.c⟩
    · split
      · exact ⟨f_fst_Spread T.c, f_fstT_Spread T.c⟩
      · exact ⟨f_fst_Late T.c, f_fstT_Late T.c⟩
theorem nf_of (T : Tx K mg) (t u : Tree) : PySem.W.notFirst K (CT K t) (.ref (CT K u)) = true := fstsO_ok (fst_of T t).1 (cls_mem u)
def spRight : Sp := fun vs H Q _ => ∃ (a : Addr) (n : Nat), vs = [.ref a] ∧ SrcAt a n H ∧ n + big < 2 ^ 40 ∧ ∀ H', Old a H H' → SrcAt a (n + big) H' → Q (.bl true) H'
theorem c_right (T : Tx K mg) : CalG P w K mg base 14 "_law_right" (gAd "_law_right" K) ["_law_source_here"] spRight := by
  have C_tags := c_tags (P := P) (w := w) (base := base) T
  have C_tree5 := c_tree (P := P) (w := w) (base := base) T 5
  have C_tree3 := (c_tree (P := P) (w := w) (base := base) T 3).mono (show 3 + 3 ≤ 8 by decide)
  have C_made5 := c_made (P := P) (w := w) (base := base) T 5
  have C_made3 := c_made (P := P) (w := w) (base := base) T 5
  have C_tell := c_tell (P := P) (w := w) (base := base) T 5
  have C_shown := c_shown (P := P) (w := w) (base := base) T
  have C_due := c_due (P := P) (w := w) (base := base) T
  obtain ⟨fq, Dq, Fq⟩ := f_sgeq (P := P) (w := w) (base := base) T
  have bq : Binds K fq ["self", "other"] [] := FunD.bindsN Dq fun _ _ _ _ _ _ us hl => match us, hl with | [_, _], _ => rfl
  obtain ⟨fi, Di, Fi⟩ := f_init (P := P) (w := w) (base := base) T
  obtain ⟨ds, V1, B1⟩ := b_init1 Di
  refine calg_of (d := d_l_right) (N := ["_law_source_here", "_law_tags_here", "_law_tree_here", "_law_other", "_law_made_here", "_law_twin", "_law_mate", "_law_same", "_law_odd", "_law_thing"]) (a_l_right T.c) rfl sc_l_right (g_l_right T) (fun _ _ _ _ _ _ us hl => match us, hl with | [_], _ => rfl) (fun vs H Q E h => ?_) (fun cdv A outer s H vs Q E hr hc h => ?_)
  · obtain ⟨a, n, rfl, _⟩ := h
    rfl
  · obtain ⟨a, n, rfl, src, nb, k⟩ := h
    have r13 : Room 13 _ := hr
    have hr1 : Room 1 _ := hr.mono (by decide)
    have hr2 : Room 2 _ := hr.mono (by decide)
    have r3 : Room 3 _ := hr.mono (by decide)
    have r7 : Room 7 _ := hr.mono (by decide)
    have r8 : Room 8 _ := hr.mono (by decide)
    refine ⟨_, (pss_cons (ps_set (i := 1) sc_l_right.nd rfl (.inl rfl) (pe_c C_tags r3 (pa_cons (pv 0) (pa_cons pe_int pa_nil))))
 (pss_cons (ps_set (i := 2) sc_l_right.nd rfl (.inl rfl) (pe_c C_tree5 r8 (pa_cons (pv 0) (pa_cons (pv 1) (pa_cons pe_int (pa_cons pe_int pa_nil))))))
 (pss_cons (ps_set (i := 3) sc_l_right.nd rfl (.inl rfl) (pe_c C_tree3 r8 (pa_cons (pv 0) (pa_cons (pv 1) (pa_cons pe_int (pa_cons pe_int pa_nil))))))
 (pss_cons (ps_asg (pe_tup (pa_cons (pe_c C_made5 r13 (pa_cons (pv 0) (pa_cons (pv 2) pa_nil))) (pa_cons (pe_c C_made5 r13 (pa_cons (pv 0) (pa_cons (pv 2) pa_nil))) (pa_cons (pe_c C_made3 r13 (pa_cons (pv 0) (pa_cons (pv 3) pa_nil))) pa_nil)))) (pg_tup (by rfl) (pgs_cons (pg_name (i := 4) sc_l_right.nd rfl (.inr rfl)) (pgs_cons (pg_name (i := 5) sc_l_right.nd rfl (.inl rfl)) (pgs_cons (pg_name (i := 6) sc_l_right.nd rfl (.inl rfl)) pgs_nil)))))
 (pss_cons (ps_if (pt_cmpR (op_neD hr.units) (pe_lst (pa_cons (pe_g C_shown hr hc (pa_cons (pv 4) pa_nil)) (pa_cons (pe_g C_shown hr hc (pa_cons (pv 5) pa_nil)) (pa_cons (pe_g C_shown hr hc (pa_cons (pv 6) pa_nil)) pa_nil)))) (pe_lst (pa_cons (pe_g C_due r8 hc (pa_cons (pv 2) pa_nil)) (pa_cons (pe_g C_due r8 hc (pa_cons (pv 2) pa_nil)) (pa_cons (pe_g C_due r8 hc (pa_cons (pv 3) pa_nil)) pa_nil)))) (nomark _))
 (pss_one (ps_ret pe_bl))
 pss_nil)
 (pss_cons (ps_set (i := 7) sc_l_right.nd rfl (.inl rfl) (pe_cmpR op_eq (pe_c C_tell r7 (pa_cons (pv 2) pa_nil)) (pe_c C_tell r7 (pa_cons (pv 3) pa_nil)) (nomark _)))
 (pss_cons (ps_if (pt_cmpR op_ne (pe_callB (call_reprD hc hr) (by rfl) (n_repr T) bo_repr (pa_cons (pe_lst (pa_cons (pe_cmpR (op_eqA Fq bq hr1) (pv 4) (pv 5) (nomark _)) (pa_cons (pe_cmpR (op_neA Fq bq hr2) (pv 4) (pv 5) (nomark _)) (pa_cons (pe_cmpR (op_eqA Fq bq hr1) (pv 4) (pv 6) (nomark _)) (pa_cons (pe_cmpR (op_neA Fq bq hr2) (pv 4) (pv 6) (nomark _)) pa_nil))))) pa_nil)) (pe_callB (call_reprD hc hr) (by rfl) (n_repr T) bo_repr (pa_cons (pe_lst (pa_cons pe_bl (pa_cons pe_bl (pa_cons (pv 7) (pa_cons (pe_not (pv 7)) pa_nil))))) pa_nil)) (nomark _))
 (pss_one (ps_ret pe_bl))
 pss_nil)
 (pss_cons (ps_set (i := 8) sc_l_right.nd rfl (.inl rfl) (pe_lst (pa_cons (pe_c C_tell r7 (pa_cons (pv 2) pa_nil)) (pa_cons pe_non (pa_cons pe_int (pa_cons (pe_tup (pa_cons (pv 4) pa_nil)) (pa_cons (pe_lst (pa_cons (pv 4) pa_nil)) (pa_cons (pe_num (mkN T) Fi r3 (g_Number T) B1 V1 (pa_cons pe_int pa_nil)) pa_nil))))))))
 (pss_one (ps_ret (pe_and (pe_not (pe_callB (cr_any rfl) (by rfl) (n_any T) bo_any (pa_cons (pe_lc (own := [("_law_thing", 9)]) (g := gName 9) (tt := tYes) rfl sc_l_right.nd (pi_list (pv 8)) (blkOk_by (N := ["_law_source_here", "_law_tags_here", "_law_tree_here", "_law_other", "_law_made_here", "_law_twin", "_law_mate", "_law_same", "_law_odd", "_law_thing"]) (sc := defScope s_l_right) (by decide +kernel)) (fun _ _ _ _ _ => pg_name (i := 9) sc_l_right.nd rfl (.inl rfl)) (fun _ _ _ _ _ => pts_nil) (fun _ _ _ _ _ => (pe_cmpR (op_eqA Fq bq hr1 : OpR _ _ (rEqA K (d_Signal_eq.ad K) (spSgEq K))) (pv 4) (pv 9) (nomark _)))) pa_nil))) (pe_one (pe_callB (cr_all rfl) (by rfl) (n_all T) bo_all (pa_cons (pe_lc (own := [("_law_thing", 9)]) (g := gName 9) (tt := tYes) rfl sc_l_right.nd (pi_list (pv 8)) (blkOk_by (N := ["_law_source_here", "_law_tags_here", "_law_tree_here", "_law_other", "_law_made_here", "_law_twin", "_law_mate", "_law_same", "_law_odd", "_law_thing"]) (sc := defScope s_l_right) (by decide +kernel)) (fun _ _ _ _ _ => pg_name (i := 9) sc_l_right.nd rfl (.inl rfl)) (fun _ _ _ _ _ => pts_nil) (fun _ _ _ _ _ => (pe_cmpR (op_neA Fq bq hr2 : OpR _ _ (rNeA K (d_Signal_eq.ad K) (spSgEq K))) (pv 4) (pv 9) (nomark _)))) pa_nil)))))))))))))), ?_⟩
    have c5 : cost 5 = 77760 := by decide
    have c3 : cost 3 = 2160 := by decide
    have hb : big = 200000 := rfl
    refine ⟨_, rfl, a, 3, n, rfl, by decide, by decide, src, by omega, fun g ts H1 tg ng hlen o1 s1 => ?_⟩
    have ag : a ≠ g := src.ne ng
    refine ⟨_, rfl, _, rfl, a, g, 5, 12, n + 120, ts, rfl, rfl, by decide, by decide, s1, ag, tg, by omega, by decide, fun t v H2 ht hp hl o2 s2 => ?_⟩
    have tg2 : TagsAt g ts H2 := ⟨o2 _ _ tg.at_ (Ne.symm ag), tg.nm, tg.ne, tg.le⟩
    refine ⟨_, rfl, _, rfl, a, g, 3, 4, n + 120 + cost 5, ts, rfl, rfl, by decide, by decide, s2, ag, tg2, by omega, by decide, fun u z H3 hu hup hul o3 s3 => ?_⟩
    have hu5 : TreeAt H3 5 u z := hu.le (by decide)
    have ht3 := treeAt_old ht s2 o3
    have p12 : t.parts ≤ 12 := by omega
    have q12 : u.parts ≤ 12 := by omega
    refine ⟨_, rfl, _, rfl, a, _, t, v, rfl, s3, ht3, by decide, p12, by omega, fun x1 H4 o4 s4 g1 => ?_⟩
    have ht4 := treeAt_old ht3 s3 o4
    have hu4 := treeAt_old hu5 s3 o4
    refine ⟨_, rfl, _, rfl, a, _, t, v, rfl, s4, ht4, by decide, p12, by omega, fun x2 H5 o5 s5 g2 => ?_⟩
    have ht5 := treeAt_old ht4 s4 o5
    have hu5' := treeAt_old hu4 s4 o5
    refine ⟨_, rfl, _, rfl, a, _, u, z, rfl, s5, hu5', by decide, q12, by omega, fun x3 H6 o6 s6 g3 => ⟨(by show 3 ≤ sizeLine; decide), fun tp ntp => ?_⟩⟩
    have ht6 := (treeAt_old ht5 s5 o6).same (same_upd (o := .tup [.ref x1, .ref x2, .ref x3]) ntp)
    have hu6 := (treeAt_old hu5' s5 o6).same (same_upd (o := .tup [.ref x1, .ref x2, .ref x3]) ntp)
    have f1 := ((g1.old s4 o5).old s5 o6).same (same_upd (o := .tup [.ref x1, .ref x2, .ref x3]) ntp)
    have f2 := (g2.old s5 o6).same (same_upd (o := .tup [.ref x1, .ref x2, .ref x3]) ntp)
    have f3 := g3.same (same_upd (o := .tup [.ref x1, .ref x2, .ref x3]) ntp)
    have oA : Old a H (upd H6 tp (.tup [.ref x1, .ref x2, .ref x3])) := (((((o1.trans o2).trans o3).trans o4).trans o5).trans o6).trans (Old.new ntp)
    have sA := s6.same (same_upd (o := .tup [.ref x1, .ref x2, .ref x3]) ntp)
    refine ⟨tp, _, rfl, .inl (.inl upd_same), rfl, _, _, rfl, _, _, rfl, _, _, rfl, rfl, ?_⟩
    generalize upd H6 tp (.tup [.ref x1, .ref x2, .ref x3]) = G at ht6 hu6 f1 f2 f3 oA sA ⊢
    refine ⟨_, rfl, t, x1, v, rfl, f1, ht6, p12, fun H8 e8 => ?_⟩
    refine ⟨_, rfl, t, x2, v, rfl, f2.same e8, ht6.same e8, p12, fun H9 e9 => ?_⟩
    have e89 := e8.trans e9
    refine ⟨_, rfl, u, x3, z, rfl, f3.same e89, hu6.same e89, q12, fun H10 e10 => ⟨(by show 3 ≤ sizeLine; decide), fun l1 nl1 => ?_⟩⟩
    have b1 := (e89.trans e10).trans (same_upd (o := .lst [.str (dataOf t).shown, .str (dataOf t).shown, .str (dataOf u).shown]) nl1)
    refine ⟨_, rfl, t, v, rfl, ht6.same b1, p12, fun H11 e11 => ?_⟩
    refine ⟨_, rfl, t, v, rfl, ht6.same (b1.trans e11), p12, fun H12 e12 => ?_⟩
    refine ⟨_, rfl, u, z, rfl, hu6.same ((b1.trans e11).trans e12), q12, fun H13 e13 => ⟨(by show 3 ≤ sizeLine; decide), fun l2 nl2 => ?_⟩⟩
    have b2 := (e11.trans e12).trans (e13.trans (same_upd (o := .lst [.str (dataOf t).shown, .str (dataOf t).shown, .str (dataOf u).shown]) nl2))
    have b3 := b1.trans b2
    refine ⟨.list [.str (dataOf t).shown, .str (dataOf t).shown, .str (dataOf u).shown], .list [.str (dataOf t).shown, .str (dataOf t).shown, .str (dataOf u).shown], .lst (.inl (.inl (b2 _ _ upd_same))) (dp_strs [_, _, _]), .lst (.inl (.inl upd_same)) (dp_strs [_, _, _]), shaped3 (data_asc ht) (data_asc ht) (data_asc hu), shaped3 (data_asc ht) (data_asc ht) (data_asc hu), _, rfl, ?_⟩
    rw [eqv3]
    refine iteF ?_
    generalize upd H13 l2 (.lst [.str (dataOf t).shown, .str (dataOf t).shown, .str (dataOf u).shown]) = G2 at b3 ⊢
    have ht7 := ht6.same b3
    have hu7 := hu6.same b3
    refine ⟨_, rfl, t, v, rfl, ht7, by decide, fun H14 e14 => ?_⟩
    refine ⟨_, rfl, u, z, rfl, hu7.same e14, by decide, fun H15 e15 => ?_⟩
    refine ⟨rfl, ?_⟩
    have c1 := (b3.trans e14).trans e15
    have k1 := f1.same c1
    have k2 := f2.same c1
    have k3 := f3.same c1
    obtain ⟨dx1, fs1, m1⟩ := sig_ins k1
    obtain ⟨dx2, fs2, m2⟩ := sig_ins k2
    obtain ⟨dx3, fs3, m3⟩ := sig_ins k3
    have oq := sub_own (sub_of T t) (m := "__eq__") (by simp)
    have nq := sub_ne (sub_of T t)
    refine ⟨_, rfl, _, rfl, CT K t, oq, x1, dx1, fs1, _, rfl, m1, .ins m2, nf_of T t t, 5, t, x1, _, rfl, k1, .inl ⟨5, t, x2, rfl, k2, _, rfl, ?_⟩⟩
    refine ⟨_, rfl, _, rfl, CT K t, oq, nq, x1, dx1, fs1, _, rfl, m1, .ins m2, nf_of T t t, 5, t, x1, _, rfl, k1, .inl ⟨5, t, x2, rfl, k2, _, rfl, ?_⟩⟩
    refine ⟨_, rfl, _, rfl, CT K t, oq, x1, dx1, fs1, _, rfl, m1, .ins m3, nf_of T t u, 5, t, x1, _, rfl, k1, .inl ⟨5, u, x3, rfl, k3, _, rfl, ?_⟩⟩
    refine ⟨_, rfl, _, rfl, CT K t, oq, nq, x1, dx1, fs1, _, rfl, m1, .ins m3, nf_of T t u, 5, t, x1, _, rfl, k1, .inl ⟨5, u, x3, rfl, k3, _, rfl, ⟨(by show 4 ≤ sizeLine; decide), fun l3 nl3 => ?_⟩⟩⟩
    obtain ⟨r1, r2, r3'⟩ := bl4_ok (decide (t.tell = t.tell)) (!decide (t.tell = t.tell)) (decide (t.tell = u.tell)) (!decide (t.tell = u.tell))
    refine ⟨_, .list [.bool (decide (t.tell = t.tell)), .bool (!decide (t.tell = t.tell)), .bool (decide (t.tell = u.tell)), .bool (!decide (t.tell = u.tell))], rfl, .lst (.inl (.inl upd_same)) (dp_bls [_, _, _, _]), r1, r2, r3', ?_⟩
    have e1 : decide (V.str t.tell = V.str u.tell) = decide (t.tell = u.tell) := by
      by_cases q : t.tell = u.tell
      · rw [q]
        simp
      · rw [decide_eq_false q, decide_eq_false fun w => q (V.str.inj w)]
    obtain ⟨r4, r5, r6⟩ := bl4_ok true false (decide (V.str t.tell = V.str u.tell)) (!decide (V.str t.tell = V.str u.tell))
    refine ⟨_, rfl, _, rfl, _, rfl, (by show 4 ≤ sizeLine; decide), fun l4 nl4 => ?_⟩
    refine ⟨_, .list [.bool true, .bool false, .bool (decide (V.str t.tell = V.str u.tell)), .bool (!decide (V.str t.tell = V.str u.tell))], rfl, .lst (.inl (.inl upd_same)) (dp_bls [_, _, _, _]), r4, r5, r6, rfl, _, rfl, ?_⟩
    refine iteNS (by rw [e1, decide_eq_true (rfl : t.tell = t.tell)]; rfl) ?_
    have d1 := (same_upd (o := .lst [.bl (decide (t.tell = t.tell)), .bl (!decide (t.tell = t.tell)), .bl (decide (t.tell = u.tell)), .bl (!decide (t.tell = u.tell))]) nl3).trans (same_upd (o := .lst [.bl true, .bl false, .bl (decide (V.str t.tell = V.str u.tell)), .bl (!decide (V.str t.tell = V.str u.tell))]) nl4)
    generalize upd (upd H15 l3 (.lst [.bl (decide (t.tell = t.tell)), .bl (!decide (t.tell = t.tell)), .bl (decide (t.tell = u.tell)), .bl (!decide (t.tell = u.tell))])) l4 (.lst [.bl true, .bl false, .bl (decide (V.str t.tell = V.str u.tell)), .bl (!decide (V.str t.tell = V.str u.tell))]) = G3 at d1 ⊢
    have c2 := c1.trans d1
    refine ⟨_, rfl, t, v, rfl, ht6.same c2, by decide, fun H16 e16 => ?_⟩
    refine ⟨_, rfl, (by show 1 ≤ sizeLine; decide), fun p1 np1 => ?_⟩
    refine ⟨_, rfl, (by show 1 ≤ sizeLine; decide), fun p2 np2 => ?_⟩
    refine ⟨1, 1, rfl, by decide, sz1, fun H17 np s17 nnp N => ⟨(by show 6 ≤ sizeLine; decide), fun ol nol => ?_⟩⟩
    have x1' := (same_upd (o := .tup [.ref x1]) np1)
    have x2' := (same_upd (o := .lst [.ref x1]) np2)
    have x3' := (same_upd (o := .lst [.str t.tell, .non, .int 1, .ref p1, .ref p2, .ref np]) nol)
    have hp1 := x3' _ _ (s17 _ _ (x2' _ _ (upd_same : (upd H16 p1 (.tup [.ref x1])) p1 = _)))
    have hp2 := x3' _ _ (s17 _ _ (upd_same : (upd (upd H16 p1 (.tup [.ref x1])) p2 (.lst [.ref x1])) p2 = _))
    have hnp := N.same x3'
    have hol : (upd H17 ol (.lst [.str t.tell, .non, .int 1, .ref p1, .ref p2, .ref np])) ol = some (.lst [.str t.tell, .non, .int 1, .ref p1, .ref p2, .ref np]) := upd_same
    have c3 := c2.trans (((e16.trans x1').trans x2').trans (s17.trans x3'))
    generalize upd H17 ol (.lst [.str t.tell, .non, .int 1, .ref p1, .ref p2, .ref np]) = G4 at hp1 hp2 hnp hol c3 ⊢
    have j1 := f1.same c3
    obtain ⟨dy, fy, my⟩ := sig_ins j1
    have odd : ∀ (j : Nat) (y : V), ([.str t.tell, .non, .int 1, .ref p1, .ref p2, .ref np] : List V)[j]? = some y → ∀ G5, Same G4 G5 → ∃ ty, TyL K G5 y ty ∧ PySem.W.notFirst K (CT K t) ty = true ∧ TyX K G5 y ty ∧ PySem.W.kitOne K ty (.ref (He.ga K "Signal")) = some false := by
      intro j y hy G5 e5
      obtain ⟨n1, n2⟩ := fst_of T t
      obtain ⟨dn, hn⟩ := id hnp.at_
      match j, hy with
      | 0, hy =>
        cases hy
        exact ⟨.type "str", .str _, fstTO_ok n2 (by simp), .base (.str _), of_decide_eq_true (tAll_at (f_kitS T.c) 0)⟩
      | 1, hy =>
        cases hy
        exact ⟨.type "NoneType", .non, fstTO_ok n2 (by simp), .base .non, of_decide_eq_true (tAll_at (f_kitS T.c) 1)⟩
      | 2, hy =>
        cases hy
        exact ⟨.type "int", .int _, fstTO_ok n2 (by simp), .base (.int _), of_decide_eq_true (tAll_at (f_kitS T.c) 2)⟩
      | 3, hy =>
        cases hy
        exact ⟨.type "tuple", .tup (e5 _ _ hp1), fstTO_ok n2 (by simp), .base (.tup (e5 _ _ hp1)), of_decide_eq_true (tAll_at (f_kitS T.c) 3)⟩
      | 4, hy =>
        cases hy
        exact ⟨.type "list", .lst (e5 _ _ hp2), fstTO_ok n2 (by simp), .base (.lst (e5 _ _ hp2)), of_decide_eq_true (tAll_at (f_kitS T.c) 4)⟩
      | 5, hy =>
        cases hy
        exact ⟨.ref (CN K), .ins (e5 _ _ hn), fstsO_ok n1 (z := "Number") (by simp), .base (ins_ok (f_ins T.c) (e5 _ _ hn) (cl T)), of_decide_eq_true (tAll_at (f_kitS T.c) 5)⟩
      | j + 6, hy => simp at hy
    refine ⟨_, rfl, ol, rfl, ⟨_, .inl (.inl hol)⟩, fun D nD => ?_⟩
    refine lc_idx (List.replicate 6 (.bl false)) (by rfl) nD (.inl (.inl hol)) (by show 6 ≤ 100000; decide) (fun j y b hy hb G5 R e5 q => ?_) (fun G5 e5 hD => ?_)
    · obtain ⟨ty, h1, h2, h3, h4⟩ := odd j y hy G5 e5
      have eb : b = .bl false := List.eq_of_mem_replicate (List.mem_of_getElem? hb)
      subst eb
      exact ⟨_, rfl, _, rfl, CT K t, oq, x1, dy, fy, ty, rfl, e5 _ _ my, h1, h2, 5, t, x1, y, rfl, j1.same e5, .inr ⟨ty, h3, h4, _, rfl, q _ (Same.refl _)⟩⟩
    · refine ⟨D, List.replicate 6 false, rfl, .inl (.inl hD), _, rfl, true, rfl, iteT ?_⟩
      have hol5 := e5 _ _ hol
      refine ⟨_, rfl, ol, rfl, ⟨_, .inl (.inl hol5)⟩, fun D2 nD2 => ?_⟩
      refine lc_idx (List.replicate 6 (.bl true)) (by rfl) nD2 (.inl (.inl hol5)) (by show 6 ≤ 100000; decide) (fun j y b hy hb G6 R e6 q => ?_) (fun G6 e6 hD2 => ?_)
      · obtain ⟨ty, h1, h2, h3, h4⟩ := odd j y hy G6 (e5.trans e6)
        have eb : b = .bl true := List.eq_of_mem_replicate (List.mem_of_getElem? hb)
        subst eb
        exact ⟨_, rfl, _, rfl, CT K t, oq, nq, x1, dy, fy, ty, rfl, e6 _ _ (e5 _ _ my), h1, h2, 5, t, x1, y, rfl, j1.same (e5.trans e6), .inr ⟨ty, h3, h4, _, rfl, q _ (Same.refl _)⟩⟩
      · refine ⟨D2, List.replicate 6 true, rfl, .inl (.inl hD2), ?_⟩
        exact k _ (oA.trans (Old.same ((c3.trans e5).trans e6))) ((sA.same ((c3.trans e5).trans e6)).le (by omega))
end
end K09

namespace K09
open PySem PySem.Spec PyProof.Rows L2 Hk NumM NumT SX
section
variable {P : Program} {w : World} {K : Fr} {mg : Str → Option Value} {base : Heap}
theorem pt_name (l : List Nat) : (Tree.name l).parts = 1 ∧ (Tree.name l).deep = 1 := ⟨by rw [Tree.parts], by rw [Tree.deep]⟩
theorem pt_pair (w : Nat) (x : Tree) (n : Int) : (Tree.pair w x n).parts = 1 + x.parts ∧ (Tree.pair w x n).deep = 1 + x.deep := ⟨by rw [Tree.parts], by rw [Tree.deep]⟩
theorem pt_times (u b : Int) (x : Tree) : (Tree.times u b x).parts = 1 + x.parts ∧ (Tree.times u b x).deep = 1 + x.deep := ⟨by rw [Tree.parts], by rw [Tree.deep]⟩
theorem pt_sum (ts : List Tree) : (Tree.sum ts).parts = 1 + (ts.map Tree.parts).sum ∧ (Tree.sum ts).deep = 1 + maxL (ts.map Tree.deep) := ⟨by rw [parts_eq]; rfl, by rw [deep_eq]; rfl⟩
theorem c_great (T : Tx K mg) : CalG P w K mg base 14 "_law_greatest_right" (gAd "_law_greatest_right" K) ["_law_source_here"] spRight := by
  have C_tags := c_tags (P := P) (w := w) (base := base) T
  have C_gain := c_gain (P := P) (w := w) (base := base) T
  have C_pick := c_pick (P := P) (w := w) (base := base) T
  have C_made := c_made (P := P) (w := w) (base := base) T 5
  have C_depth := c_depth (P := P) (w := w) (base := base) T 5
  have C_parts := c_parts (P := P) (w := w) (base := base) T 5
  have C_shown := c_shown (P := P) (w := w) (base := base) T
  have C_due := c_due (P := P) (w := w) (base := base) T
  refine calg_of (d := d_l_greatest_right) (N := ["_law_source_here", "_law_tags_here", "_law_gain_here", "_law_by", "_law_far", "_law_leaf", "_law_deep", "_law_long", "_law_full", "_law_tree_here"]) (a_l_greatest_right T.c) rfl sc_l_greatest_right (g_l_greatest_right T) (fun _ _ _ _ _ _ us hl => match us, hl with | [_], _ => rfl) (fun vs H Q E h => ?_) (fun cdv A outer s H vs Q E hr hc h => ?_)
  · obtain ⟨a, n, rfl, _⟩ := h
    rfl
  · obtain ⟨a, n, rfl, src, nb, k⟩ := h
    have r13 : Room 13 _ := hr
    have r1 : Room 1 _ := hr.mono (by decide)
    have r2 : Room 2 _ := hr.mono (by decide)
    have r3 : Room 3 _ := hr.mono (by decide)
    have r7 : Room 7 _ := hr.mono (by decide)
    have r8 : Room 8 _ := hr.mono (by decide)
    refine ⟨_, (pss_cons (ps_set (i := 1) sc_l_greatest_right.nd rfl (.inl rfl) (pe_c C_tags r3 (pa_cons (pv 0) (pa_cons pe_int pa_nil))))
 (pss_cons (ps_par3 (i := 2) (j := 3) (l := 4) (by rfl) sc_l_greatest_right.nd rfl rfl rfl (by decide) (by decide) (by decide) rfl rfl rfl (pa_cons (pe_c C_gain r2 (pa_cons (pv 0) pa_nil)) (pa_cons (pe_op op_add pe_int (pe_c C_pick r1 (pa_cons (pv 0) (pa_cons pe_int pa_nil)))) (pa_cons (pe_c C_pick r1 (pa_cons (pv 0) (pa_cons pe_int pa_nil))) pa_nil))) (by rfl))
 (pss_cons (ps_set (i := 5) sc_l_greatest_right.nd rfl (.inl rfl) (pe_tup (pa_cons pe_str (pa_cons (pe_ix ix_list (pv 1) pe_int (fun _ _ => rfl)) pa_nil))))
 (pss_cons (ps_set (i := 6) sc_l_greatest_right.nd rfl (.inl rfl) (pe_tup (pa_cons pe_str (pa_cons (pe_tup (pa_cons pe_str (pa_cons (pe_tup (pa_cons pe_str (pa_cons (pv 2) (pa_cons (pe_tup (pa_cons pe_str (pa_cons (pv 5) (pa_cons (pv 4) pa_nil)))) pa_nil)))) (pa_cons (pv 3) pa_nil)))) (pa_cons (pv 3) pa_nil)))))
 (pss_cons (ps_set (i := 7) sc_l_greatest_right.nd rfl (.inl rfl) (pe_tup (pa_cons pe_str (pa_cons (pe_ix ix_tup (pv 6) pe_int (fun _ _ => rfl)) (pa_cons (pe_tup (pa_cons pe_str (pa_cons (pe_tup (pa_cons pe_str (pa_cons (pe_ix ix_list (pv 1) pe_int (fun _ _ => rfl)) pa_nil))) (pa_cons (pv 4) pa_nil)))) (pa_cons (pe_tup (pa_cons pe_str (pa_cons (pv 5) (pa_cons (pv 3) pa_nil)))) (pa_cons (pe_tup (pa_cons pe_str (pa_cons (pe_ix ix_list (pv 1) pe_int (fun _ _ => rfl)) pa_nil))) (pa_cons (pv 5) pa_nil))))))))
 (pss_cons (ps_set (i := 8) sc_l_greatest_right.nd rfl (.inl rfl) (pe_tup (pa_cons pe_str (pa_cons (pe_ix ix_tup (pv 6) pe_int (fun _ _ => rfl)) (pa_cons (pe_tup (pa_cons pe_str (pa_cons (pe_tup (pa_cons pe_str (pa_cons (pv 5) (pa_cons (pv 5) pa_nil)))) (pa_cons (pv 4) pa_nil)))) (pa_cons (pe_tup (pa_cons pe_str (pa_cons (pv 5) (pa_cons (pv 3) pa_nil)))) (pa_cons (pe_tup (pa_cons pe_str (pa_cons (pe_ix ix_list (pv 1) pe_int (fun _ _ => rfl)) pa_nil))) pa_nil)))))))
 (pss_cons (ps_if (pt_cmpR (op_neD hr.units) (pe_lst (pa_cons (pe_c C_depth r7 (pa_cons (pv 6) pa_nil)) (pa_cons (pe_c C_parts r7 (pa_cons (pv 7) pa_nil)) (pa_cons (pe_c C_parts r7 (pa_cons (pv 8) pa_nil)) (pa_cons (pe_c C_depth r7 (pa_cons (pv 7) pa_nil)) pa_nil))))) (pe_lst (pa_cons pe_int (pa_cons pe_int (pa_cons pe_int (pa_cons pe_int pa_nil))))) (nomark _))
 (pss_one (ps_ret pe_bl))
 pss_nil)
 (pss_one (ps_ret (pe_callB (cr_all rfl) (by rfl) (n_all T) bo_all (pa_cons (pe_lc (own := [("_law_tree_here", 9)]) (g := gName 9) (tt := tYes) rfl sc_l_greatest_right.nd (pi_list (pe_lst (pa_cons (pv 6) (pa_cons (pv 7) (pa_cons (pv 8) pa_nil))))) (blkOk_by (N := ["_law_source_here", "_law_tags_here", "_law_gain_here", "_law_by", "_law_far", "_law_leaf", "_law_deep", "_law_long", "_law_full", "_law_tree_here"]) (sc := defScope s_l_greatest_right) (by decide +kernel)) (fun _ _ _ _ _ => pg_name (i := 9) sc_l_greatest_right.nd rfl (.inl rfl)) (fun _ _ _ _ _ => pts_nil) (fun _ _ _ _ _ => (pe_cmpR op_eq (pe_g C_shown r13 hc (pa_cons (pe_c C_made r13 (pa_cons (pv 0) (pa_cons (pv 9) pa_nil))) pa_nil)) (pe_g C_due r8 hc (pa_cons (pv 9) pa_nil)) (nomark _)))) pa_nil))))))))))), ?_⟩
    have hb : big = 200000 := rfl
    refine ⟨_, rfl, a, 3, n, rfl, by decide, by decide, src, by omega, fun g ts H1 tg ng hlen o1 s1 => ?_⟩
    have ag : a ≠ g := src.ne ng
    obtain ⟨l0, l1, l2, rfl⟩ : ∃ l0 l1 l2, ts = [l0, l1, l2] := by
      match ts, (show ts.length = 3 by omega) with
      | [x, y, z], _ => exact ⟨x, y, z, rfl⟩
    have nm0 := tg.nm l0 (by simp)
    have nm1 := tg.nm l1 (by simp)
    have nm2 := tg.nm l2 (by simp)
    refine ⟨_, rfl, a, n + 120, rfl, s1, by omega, fun gp gt gb H2 ok o2 s2 hgp => ?_⟩
    have ga : gp ≠ a := fun z => by
      subst z
      obtain ⟨d, e, c, h1, _⟩ := s2
      rw [hgp] at h1
      cases h1
    refine ⟨_, rfl, a, 6, _, rfl, s2, by omega, by decide, by decide, fun b0 H3 v0 v1 o3 s3 => ?_⟩
    refine ⟨_, _, rfl, rfl, _, rfl, a, 7, _, rfl, s3, by omega, by decide, by decide, fun far H4 f0 f1 o4 s4 => ?_⟩
    refine ⟨_, _, _, rfl, ?_⟩
    have oG := ((o1.trans o2).trans o3).trans o4
    have hg4 := o4 _ _ (o3 _ _ (o2 _ _ tg.at_ (Ne.symm ag)) (Ne.symm ag)) (Ne.symm ag)
    have hgp4 := o4 _ _ (o3 _ _ hgp ga) ga
    refine ⟨_, rfl, g, _, 0, _, rfl, rfl, .inl (.inl hg4), rfl, (by show 2 ≤ sizeLine; decide), fun pl npl => ?_⟩
    have pls := same_upd (o := .tup [.str "name", .str (S l0)]) npl
    have plh : (upd H4 pl (.tup [.str "name", .str (S l0)])) pl = some (.tup [.str "name", .str (S l0)]) := upd_same
    generalize upd H4 pl (.tup [.str "name", .str (S l0)]) = G1 at pls plh ⊢
    refine ⟨_, rfl, _, rfl, _, rfl, (by show 3 ≤ sizeLine; decide), fun p1 np1 => ?_⟩
    have p1s := same_upd (o := .tup [.str "late", .ref pl, .int far]) np1
    have p1h : (upd G1 p1 (.tup [.str "late", .ref pl, .int far])) p1 = some (.tup [.str "late", .ref pl, .int far]) := upd_same
    generalize upd G1 p1 (.tup [.str "late", .ref pl, .int far]) = G2 at p1s p1h ⊢
    refine ⟨(by show 3 ≤ sizeLine; decide), fun p2 np2 => ?_⟩
    have p2s := same_upd (o := .tup [.str "times", .ref gp, .ref p1]) np2
    have p2h : (upd G2 p2 (.tup [.str "times", .ref gp, .ref p1])) p2 = some (.tup [.str "times", .ref gp, .ref p1]) := upd_same
    generalize upd G2 p2 (.tup [.str "times", .ref gp, .ref p1]) = G3 at p2s p2h ⊢
    refine ⟨_, rfl, (by show 3 ≤ sizeLine; decide), fun p3 np3 => ?_⟩
    have p3s := same_upd (o := .tup [.str "spread", .ref p2, .int (1 + b0)]) np3
    have p3h : (upd G3 p3 (.tup [.str "spread", .ref p2, .int (1 + b0)])) p3 = some (.tup [.str "spread", .ref p2, .int (1 + b0)]) := upd_same
    generalize upd G3 p3 (.tup [.str "spread", .ref p2, .int (1 + b0)]) = G4 at p3s p3h ⊢
    refine ⟨_, rfl, (by show 3 ≤ sizeLine; decide), fun p4 np4 => ?_⟩
    have p4s := same_upd (o := .tup [.str "every", .ref p3, .int (1 + b0)]) np4
    have p4h : (upd G4 p4 (.tup [.str "every", .ref p3, .int (1 + b0)])) p4 = some (.tup [.str "every", .ref p3, .int (1 + b0)]) := upd_same
    generalize upd G4 p4 (.tup [.str "every", .ref p3, .int (1 + b0)]) = G5 at p4s p4h ⊢
    have hg5 := p4s _ _ (p3s _ _ (p2s _ _ (p1s _ _ (pls _ _ hg4))))
    refine ⟨_, rfl, p4, _, 1, _, rfl, rfl, .inl (.inl p4h), rfl, _, rfl, g, _, 1, _, rfl, rfl, .inl (.inl hg5), rfl, (by show 2 ≤ sizeLine; decide), fun q1 nq1 => ?_⟩
    have q1s := same_upd (o := .tup [.str "name", .str (S l1)]) nq1
    have q1h : (upd G5 q1 (.tup [.str "name", .str (S l1)])) q1 = some (.tup [.str "name", .str (S l1)]) := upd_same
    generalize upd G5 q1 (.tup [.str "name", .str (S l1)]) = G6 at q1s q1h ⊢
    refine ⟨_, rfl, (by show 3 ≤ sizeLine; decide), fun q2 nq2 => ?_⟩
    have q2s := same_upd (o := .tup [.str "late", .ref q1, .int far]) nq2
    have q2h : (upd G6 q2 (.tup [.str "late", .ref q1, .int far])) q2 = some (.tup [.str "late", .ref q1, .int far]) := upd_same
    generalize upd G6 q2 (.tup [.str "late", .ref q1, .int far]) = G7 at q2s q2h ⊢
    refine ⟨_, rfl, _, rfl, (by show 3 ≤ sizeLine; decide), fun q3 nq3 => ?_⟩
    have q3s := same_upd (o := .tup [.str "every", .ref pl, .int (1 + b0)]) nq3
    have q3h : (upd G7 q3 (.tup [.str "every", .ref pl, .int (1 + b0)])) q3 = some (.tup [.str "every", .ref pl, .int (1 + b0)]) := upd_same
    generalize upd G7 q3 (.tup [.str "every", .ref pl, .int (1 + b0)]) = G8 at q3s q3h ⊢
    have hg8 := q3s _ _ (q2s _ _ (q1s _ _ hg5))
    refine ⟨_, rfl, g, _, 2, _, rfl, rfl, .inl (.inl hg8), rfl, (by show 2 ≤ sizeLine; decide), fun q4 nq4 => ?_⟩
    have q4s := same_upd (o := .tup [.str "name", .str (S l2)]) nq4
    have q4h : (upd G8 q4 (.tup [.str "name", .str (S l2)])) q4 = some (.tup [.str "name", .str (S l2)]) := upd_same
    generalize upd G8 q4 (.tup [.str "name", .str (S l2)]) = G9 at q4s q4h ⊢
    refine ⟨_, rfl, (by show 6 ≤ sizeLine; decide), fun q5 nq5 => ?_⟩
    have q5s := same_upd (o := .tup [.str "sum", .ref p3, .ref q2, .ref q3, .ref q4, .ref pl]) nq5
    have q5h : (upd G9 q5 (.tup [.str "sum", .ref p3, .ref q2, .ref q3, .ref q4, .ref pl])) q5 = some (.tup [.str "sum", .ref p3, .ref q2, .ref q3, .ref q4, .ref pl]) := upd_same
    generalize upd G9 q5 (.tup [.str "sum", .ref p3, .ref q2, .ref q3, .ref q4, .ref pl]) = G10 at q5s q5h ⊢
    have q15 := (((q1s.trans q2s).trans q3s).trans q4s).trans q5s
    have hp10 := q15 _ _ p4h
    have hg10 := q15 _ _ hg5
    refine ⟨_, rfl, p4, _, 1, _, rfl, rfl, .inl (.inl hp10), rfl, _, rfl, _, rfl, (by show 3 ≤ sizeLine; decide), fun t1 nt1 => ?_⟩
    have t1s := same_upd (o := .tup [.str "sum", .ref pl, .ref pl]) nt1
    have t1h : (upd G10 t1 (.tup [.str "sum", .ref pl, .ref pl])) t1 = some (.tup [.str "sum", .ref pl, .ref pl]) := upd_same
    generalize upd G10 t1 (.tup [.str "sum", .ref pl, .ref pl]) = G11 at t1s t1h ⊢
    refine ⟨_, rfl, (by show 3 ≤ sizeLine; decide), fun t2 nt2 => ?_⟩
    have t2s := same_upd (o := .tup [.str "late", .ref t1, .int far]) nt2
    have t2h : (upd G11 t2 (.tup [.str "late", .ref t1, .int far])) t2 = some (.tup [.str "late", .ref t1, .int far]) := upd_same
    generalize upd G11 t2 (.tup [.str "late", .ref t1, .int far]) = G12 at t2s t2h ⊢
    refine ⟨_, rfl, _, rfl, (by show 3 ≤ sizeLine; decide), fun t3 nt3 => ?_⟩
    have t3s := same_upd (o := .tup [.str "every", .ref pl, .int (1 + b0)]) nt3
    have t3h : (upd G12 t3 (.tup [.str "every", .ref pl, .int (1 + b0)])) t3 = some (.tup [.str "every", .ref pl, .int (1 + b0)]) := upd_same
    generalize upd G12 t3 (.tup [.str "every", .ref pl, .int (1 + b0)]) = G13 at t3s t3h ⊢
    have hg13 := t3s _ _ (t2s _ _ (t1s _ _ hg10))
    refine ⟨_, rfl, g, _, 2, _, rfl, rfl, .inl (.inl hg13), rfl, (by show 2 ≤ sizeLine; decide), fun t4 nt4 => ?_⟩
    have t4s := same_upd (o := .tup [.str "name", .str (S l2)]) nt4
    have t4h : (upd G13 t4 (.tup [.str "name", .str (S l2)])) t4 = some (.tup [.str "name", .str (S l2)]) := upd_same
    generalize upd G13 t4 (.tup [.str "name", .str (S l2)]) = G14 at t4s t4h ⊢
    refine ⟨(by show 5 ≤ sizeLine; decide), fun t5 nt5 => ?_⟩
    have t5s := same_upd (o := .tup [.str "sum", .ref p3, .ref t2, .ref t3, .ref t4]) nt5
    have t5h : (upd G14 t5 (.tup [.str "sum", .ref p3, .ref t2, .ref t3, .ref t4])) t5 = some (.tup [.str "sum", .ref p3, .ref t2, .ref t3, .ref t4]) := upd_same
    generalize upd G14 t5 (.tup [.str "sum", .ref p3, .ref t2, .ref t3, .ref t4]) = G15 at t5s t5h ⊢
    have p25 := ((p1s.trans p2s).trans p3s).trans p4s
    have t15 := (((t1s.trans t2s).trans t3s).trans t4s).trans t5s
    have pq := q15.trans t15
    have plF := pq _ _ (p25 _ _ plh)
    have p1F := pq _ _ (p4s _ _ (p3s _ _ (p2s _ _ p1h)))
    have p2F := pq _ _ (p4s _ _ (p3s _ _ p2h))
    have p3F := pq _ _ (p4s _ _ p3h)
    have p4F := pq _ _ p4h
    have q1F := t15 _ _ (q5s _ _ (q4s _ _ (q3s _ _ (q2s _ _ q1h))))
    have q2F := t15 _ _ (q5s _ _ (q4s _ _ (q3s _ _ q2h)))
    have q3F := t15 _ _ (q5s _ _ (q4s _ _ q3h))
    have q4F := t15 _ _ (q5s _ _ q4h)
    have q5F := t15 _ _ q5h
    have t1F := t5s _ _ (t4s _ _ (t3s _ _ (t2s _ _ t1h)))
    have t2F := t5s _ _ (t4s _ _ (t3s _ _ t2h))
    have t3F := t5s _ _ (t4s _ _ t3h)
    have t4F := t5s _ _ t4h
    have gpF := pq _ _ (p25 _ _ (pls _ _ hgp4))
    have Lf : ∀ d, TreeAt G15 (d + 1) (.name l0) (.ref pl) := fun d => .name nm0 plF
    have Lt : TreeAt G15 2 (.pair 2 (.name l0) far) (.ref p1) := .pair (by decide) f0 (by omega) (fun z => absurd z (by decide)) p1F (Lf 0)
    have Tm : TreeAt G15 3 (.times gt gb (.pair 2 (.name l0) far)) (.ref p2) := .times ok p2F gpF Lt
    have Sp : TreeAt G15 4 (.pair 1 (.times gt gb (.pair 2 (.name l0) far)) (1 + b0)) (.ref p3) := .pair (by decide) (by omega) (by omega) (fun _ => by omega) p3F Tm
    have De : TreeAt G15 5 (.pair 0 (.pair 1 (.times gt gb (.pair 2 (.name l0) far)) (1 + b0)) (1 + b0)) (.ref p4) := .pair (by decide) (by omega) (by omega) (fun _ => by omega) p4F Sp
    have Q2 : TreeAt G15 4 (.pair 2 (.name l1) far) (.ref q2) := .pair (by decide) f0 (by omega) (fun z => absurd z (by decide)) q2F (.name (d := 2) nm1 q1F)
    have Q3 : TreeAt G15 4 (.pair 0 (.name l0) (1 + b0)) (.ref q3) := .pair (by decide) (by omega) (by omega) (fun _ => by omega) q3F (Lf 2)
    have Lo : TreeAt G15 5 (.sum [.pair 1 (.times gt gb (.pair 2 (.name l0) far)) (1 + b0), .pair 2 (.name l1) far, .pair 0 (.name l0) (1 + b0), .name l2, .name l0]) (.ref q5) := .sum q5F (by simp) (by simp) rfl (fun i x t h1 h2 => by
      match i, h1, h2 with
      | 0, h1, h2 => cases h1; cases h2; exact Sp
      | 1, h1, h2 => cases h1; cases h2; exact Q2
      | 2, h1, h2 => cases h1; cases h2; exact Q3
      | 3, h1, h2 => cases h1; cases h2; exact .name nm2 q4F
      | 4, h1, h2 => cases h1; cases h2; exact Lf 3
      | i + 5, h1, h2 => simp at h1)
    have T1 : TreeAt G15 3 (.sum [.name l0, .name l0]) (.ref t1) := .sum t1F (by simp) (by simp) rfl (fun i x t h1 h2 => by
      match i, h1, h2 with
      | 0, h1, h2 => cases h1; cases h2; exact Lf 1
      | 1, h1, h2 => cases h1; cases h2; exact Lf 1
      | i + 2, h1, h2 => simp at h1)
    have T2 : TreeAt G15 4 (.pair 2 (.sum [.name l0, .name l0]) far) (.ref t2) := .pair (by decide) f0 (by omega) (fun z => absurd z (by decide)) t2F T1
    have T3 : TreeAt G15 4 (.pair 0 (.name l0) (1 + b0)) (.ref t3) := .pair (by decide) (by omega) (by omega) (fun _ => by omega) t3F (Lf 2)
    have Fu : TreeAt G15 5 (.sum [.pair 1 (.times gt gb (.pair 2 (.name l0) far)) (1 + b0), .pair 2 (.sum [.name l0, .name l0]) far, .pair 0 (.name l0) (1 + b0), .name l2]) (.ref t5) := .sum t5h (by simp) (by simp) rfl (fun i x t h1 h2 => by
      match i, h1, h2 with
      | 0, h1, h2 => cases h1; cases h2; exact Sp
      | 1, h1, h2 => cases h1; cases h2; exact T2
      | 2, h1, h2 => cases h1; cases h2; exact T3
      | 3, h1, h2 => cases h1; cases h2; exact .name nm2 t4F
      | i + 4, h1, h2 => simp at h1)
    have sF : SrcAt a (n + 200) G15 := ((((s4.same pls).same p25).same pq).le (by omega))
    have oF : Old a H G15 := oG.trans (Old.same ((pls.trans p25).trans pq))
    generalize hD0 : (Tree.pair 0 (.pair 1 (.times gt gb (.pair 2 (.name l0) far)) (1 + b0)) (1 + b0)) = tD at De
    generalize hL0 : (Tree.sum [.pair 1 (.times gt gb (.pair 2 (.name l0) far)) (1 + b0), .pair 2 (.name l1) far, .pair 0 (.name l0) (1 + b0), .name l2, .name l0]) = tL at Lo
    generalize hF0 : (Tree.sum [.pair 1 (.times gt gb (.pair 2 (.name l0) far)) (1 + b0), .pair 2 (.sum [.name l0, .name l0]) far, .pair 0 (.name l0) (1 + b0), .name l2]) = tF at Fu
    have z1 : tD.deep = 5 := by rw [← hD0]; simp only [pt_pair, pt_times, pt_name]
    have z2 : tL.parts = 11 := by rw [← hL0]; simp only [pt_sum, pt_pair, pt_times, pt_name, List.map_cons, List.map_nil, List.sum_cons, List.sum_nil]; rfl
    have z3 : tF.parts = 12 := by rw [← hF0]; simp only [pt_sum, pt_pair, pt_times, pt_name, List.map_cons, List.map_nil, List.sum_cons, List.sum_nil]; rfl
    have z4 : tL.deep = 5 := by rw [← hL0]; simp only [pt_sum, pt_pair, pt_times, pt_name, List.map_cons, List.map_nil, maxL, List.foldr_cons, List.foldr_nil]; decide
    have z5 : tD.parts = 5 := by rw [← hD0]; simp only [pt_pair, pt_times, pt_name]
    clear hD0 hL0 hF0
    refine ⟨_, rfl, tD, _, rfl, De, fun H5 e5 => ?_⟩
    refine ⟨_, rfl, tL, _, rfl, Lo.same e5, fun H6 e6 => ?_⟩
    refine ⟨_, rfl, tF, _, rfl, (Fu.same e5).same e6, fun H7 e7 => ?_⟩
    refine ⟨_, rfl, tL, _, rfl, ((Lo.same e5).same e6).same e7, fun H8 e8 => ⟨(by show 4 ≤ sizeLine; decide), fun y1 ny1 => ⟨(by show 4 ≤ sizeLine; decide), fun y2 ny2 => ?_⟩⟩⟩
    rw [z1, z2, z3, z4] at ny2 ⊢
    have e58 := ((e5.trans e6).trans e7).trans e8
    have i1 := same_upd (o := .lst [.int 5, .int 11, .int 12, .int 5]) ny1
    have i2 := same_upd (o := .lst [.int 5, .int 11, .int 12, .int 5]) ny2
    have i3 := e58.trans (i1.trans i2)
    refine ⟨.list [.int 5, .int 11, .int 12, .int 5], .list [.int 5, .int 11, .int 12, .int 5], .lst (.inl (.inl (i2 _ _ (upd_same : (upd H8 y1 (.lst [.int 5, .int 11, .int 12, .int 5])) y1 = _)))) (.cons (.int _) (.cons (.int _) (.cons (.int _) (.cons (.int _) .nil)))), .lst (.inl (.inl upd_same)) (.cons (.int _) (.cons (.int _) (.cons (.int _) (.cons (.int _) .nil)))), by decide +kernel, by decide +kernel, _, rfl, ?_⟩
    rw [show (!PyData.eqv (.list [.int 5, .int 11, .int 12, .int 5]) (.list [.int 5, .int 11, .int 12, .int 5])) = false by decide +kernel]
    refine iteF ?_
    generalize (upd (upd H8 y1 (.lst [.int 5, .int 11, .int 12, .int 5])) y2 (.lst [.int 5, .int 11, .int 12, .int 5])) = G16 at i3 ⊢
    refine ⟨_, rfl, _, rfl, _, rfl, (by show 3 ≤ sizeLine; decide), fun ll nll => ?_⟩
    have i4 := i3.trans (same_upd (o := .lst [.ref p4, .ref q5, .ref t5]) nll)
    have hll : (upd G16 ll (.lst [.ref p4, .ref q5, .ref t5])) ll = some (.lst [.ref p4, .ref q5, .ref t5]) := upd_same
    have hal : ll ≠ a := Ne.symm ((sF.same i3).ne nll)
    generalize upd G16 ll (.lst [.ref p4, .ref q5, .ref t5]) = G17 at i4 hll ⊢
    refine ⟨ll, rfl, ⟨_, .inl (.inl hll)⟩, fun D nD => ?_⟩
    have sG := sF.same i4
    have aD : a ≠ D := sG.ne nD
    have tri : ∀ (j : Nat) (x : V), ([.ref p4, .ref q5, .ref t5] : List V)[j]? = some x → ∃ t, TreeAt G17 5 t x ∧ t.parts ≤ 12 := fun j x hj => by
      match j, hj with
      | 0, hj => cases hj; exact ⟨tD, De.same i4, by omega⟩
      | 1, hj => cases hj; exact ⟨tL, Lo.same i4, by omega⟩
      | 2, hj => cases hj; exact ⟨tF, Fu.same i4, by omega⟩
      | j + 3, hj => simp at hj
    have oD : ∀ {H : Hp} {o : HO}, Old a G17 H → Old a G17 (upd H D o) := fun {H o} s b u e ne => by
      rw [upd_ne (ne_of_none e nD)]
      exact s b u e ne
    refine lc_list (K := K) (a := ll) (xs := [.ref p4, .ref q5, .ref t5]) (fun i H' => Old a G17 H' ∧ SrcAt a (n + 200 + 24 * i) H' ∧ H' D = some (.lst (List.replicate i (.bl true)))) ⟨oD (Old.refl a G17), srcAt_put sG aD, upd_same⟩ (fun i H' _ h => old_seqL h.1 hal hll) ?_ ?_
    · rintro i x H' hx ⟨o, s', hD⟩
      have hi : i < 3 := (List.getElem?_eq_some_iff.mp hx).1
      obtain ⟨t, ht, tp⟩ := tri i x hx
      refine ⟨rfl, ?_⟩
      unfold tYes
      dsimp only
      rw [if_pos rfl]
      refine ⟨_, rfl, _, rfl, a, _, t, x, rfl, s', treeAt_old ht sG o, by decide, tp, by omega, fun mx H9 o9 s9 sg => ?_⟩
      have ht9 := treeAt_old (treeAt_old ht sG o) s' o9
      refine ⟨t, mx, x, rfl, sg, ht9, tp, fun H10 e10 => ⟨_, rfl, t, x, rfl, ht9.same e10, tp, fun H11 e11 => ⟨rfl, ?_⟩⟩⟩
      have e91 := e10.trans e11
      have hD2 := e91 _ _ (o9 _ _ hD (Ne.symm aD))
      refine ⟨_, hD2, ?_, oD ((o.trans o9).trans (Old.same e91)), srcAt_put ((s9.same e91).le (by omega)) aD, ?_⟩
      · rw [List.length_replicate]
        exact Nat.lt_of_le_of_lt (show i ≤ 3 by omega) (by decide)
      · rw [upd_same, decide_eq_true rfl, List.replicate_succ']
    · rintro H' ⟨o, s', hD⟩
      refine ⟨D, List.replicate 3 true, rfl, .inl (.inl hD), ?_⟩
      exact k _ (oF.trans ((Old.same i4).trans o)) ((show SrcAt a (n + 200 + 24 * 3) H' from s').le (by omega))
end
end K09

namespace K09
open PySem PySem.Spec PyProof.Rows L2 Hk NumM NumT SX
def spLaw (K : Fr) : Sp := fun vs H Q _ => ∃ (a : Addr) (ns : List Int), vs = [.ref a] ∧ SqL K H a (ns.map V.int) ∧ ns.length ≤ 63 ∧ ∀ H' : Hp, Q (.bl true) H'
section
variable {P : Program} {w : World} {K : Fr} {mg : Str → Option Value} {base : Heap}
theorem g_law_ok (T : Tx K mg) {fd : FuncData} (D : DAt K d_law fd) : FnG P w K mg base 15 (d_law.ad K) fd ["_law_script"] (spLaw K) := by
  have C_l_source := c_source (P := P) (w := w) (base := base) T
  have C_l_cell := c_cell (P := P) (w := w) (base := base) T
  have C_right := c_right (P := P) (w := w) (base := base) T
  have C_great := c_great (P := P) (w := w) (base := base) T
  refine okg_of (N := ["_law_script", "_law_words", "_law_k", "_law_source_here"]) D sc_law (fun vs H Q E h => ?_) (fun cdv A outer s H vs Q E hr hc h => ?_)
  · obtain ⟨a, ns, rfl, _⟩ := h
    rfl
  · obtain ⟨a, ns, rfl, hS, hn, k⟩ := h
    have r1 : Room 1 _ := hr.mono (by decide)
    refine ⟨_, (pss_cons (ps_set (i := 1) sc_law.nd rfl (.inl rfl) (pe_lst (pa_cons (ClX.pe_cval (f := "WORD") (pe_glob (v := .ref (gAd "Name" K)) rfl (g_Name T) rfl)) (pa_cons (ClX.pe_cval (f := "WORD") (pe_glob (v := .ref (gAd "Sum" K)) rfl (g_Sum T) rfl)) (pa_cons (ClX.pe_cval (f := "WORD") (pe_glob (v := .ref (gAd "Times" K)) rfl (g_Times T) rfl)) (pa_cons (ClX.pe_cval (f := "WORD") (pe_glob (v := .ref (gAd "Late" K)) rfl (g_Late T) rfl)) (pa_cons (ClX.pe_cval (f := "WORD") (pe_glob (v := .ref (gAd "Every" K)) rfl (g_Every T) rfl)) (pa_cons (ClX.pe_cval (f := "WORD") (pe_glob (v := .ref (gAd "Spread" K)) rfl (g_Spread T) rfl)) pa_nil))))))))
 (pss_cons (ps_if (pt_cmpR (op_neD hr.units) (pv 1) (pe_lst (pa_cons pe_str (pa_cons pe_str (pa_cons pe_str (pa_cons pe_str (pa_cons pe_str (pa_cons pe_str pa_nil))))))) (nomark _))
 (pss_one (ps_ret pe_bl))
 pss_nil)
 (pss_cons (ps_for PassesOwn.never rfl (pi_range1 (by rfl) (n_range T) (pa_cons (pe_callB (call_max2 rfl) (by rfl) (n_max T) bo_max (pa_cons pe_int (pa_cons (pe_callB (call_min2 rfl) (by rfl) (n_min T) bo_min (pa_cons (pe_callB call_len_seq (by rfl) (n_len T) bo_len (pa_cons (pv 0) pa_nil)) (pa_cons pe_int pa_nil))) pa_nil))) pa_nil)) (pg_name (i := 2) sc_law.nd rfl (.inl rfl))
 (pss_cons (ps_set (i := 3) sc_law.nd rfl (.inl rfl) (pe_c C_l_source r1 (pa_cons (pe_c C_l_cell r1 (pa_cons (pv 0) (pa_cons (pv 2) pa_nil))) pa_nil)))
 (pss_one (ps_if (PW.pt (pw_or (pt_not (pt_val (pe_g C_right hr hc (pa_cons (pv 3) pa_nil)))) (pw_or (pt_not (pt_val (pe_g C_great hr hc (pa_cons (pv 3) pa_nil)))) (pw_or1 (pt_not (pt_val (pe_g C_right hr hc (pa_cons (pv 3) pa_nil))))))))
 (pss_one (ps_ret pe_bl))
 pss_nil))))
 (pss_one (ps_ret pe_bl))))), ?_⟩
    obtain ⟨c1, u1, d1⟩ := sub_ccon (f_sub_Name T.c)
    obtain ⟨c2, u2, d2⟩ := sub_ccon (f_sub_Sum T.c)
    obtain ⟨c3, u3, d3⟩ := sub_ccon (f_sub_Times T.c)
    obtain ⟨c4, u4, d4⟩ := sub_ccon (f_sub_Late T.c)
    obtain ⟨c5, u5, d5⟩ := sub_ccon (f_sub_Every T.c)
    obtain ⟨c6, u6, d6⟩ := sub_ccon (f_sub_Spread T.c)
    refine ⟨_, _, _, _, rfl, c1, d1, _, _, _, _, rfl, c2, d2, _, _, _, _, rfl, c3, d3, _, _, _, _, rfl, c4, d4, _, _, _, _, rfl, c5, d5, _, _, _, _, rfl, c6, d6, (by show 6 ≤ sizeLine; decide), fun wl nwl => ?_⟩
    refine ⟨_, rfl, (by show 6 ≤ sizeLine; decide), fun w2 nw2 => ?_⟩
    have e1 := same_upd (o := .lst [.str "name", .str "sum", .str "times", .str "late", .str "every", .str "spread"]) nwl
    have e2 := same_upd (o := .lst [.str "name", .str "sum", .str "times", .str "late", .str "every", .str "spread"]) nw2
    refine ⟨.list [.str "name", .str "sum", .str "times", .str "late", .str "every", .str "spread"], .list [.str "name", .str "sum", .str "times", .str "late", .str "every", .str "spread"], .lst (.inl (.inl (e2 _ _ upd_same))) (dp_strs [_, _, _, _, _, _]), .lst (.inl (.inl upd_same)) (dp_strs [_, _, _, _, _, _]), by decide +kernel, by decide +kernel, _, rfl, ?_⟩
    rw [show (!PyData.eqv (.list [.str "name", .str "sum", .str "times", .str "late", .str "every", .str "spread"]) (.list [.str "name", .str "sum", .str "times", .str "late", .str "every", .str "spread"])) = false by decide +kernel]
    refine iteF ?_
    have e3 := e1.trans e2
    generalize upd (upd H wl (.lst [.str "name", .str "sum", .str "times", .str "late", .str "every", .str "spread"])) w2 (.lst [.str "name", .str "sum", .str "times", .str "late", .str "every", .str "spread"]) = G at e3 ⊢
    have hS' := e3.seq hS
    have hlen : ((ns.map V.int).length : Int) = (ns.length : Int) := by rw [List.length_map]
    refine ⟨_, rfl, a, _, rfl, .inl hS', _, _, rfl, _, _, rfl, _, rfl, ?_⟩
    rw [hlen]
    generalize hm : (if (if (5 : Int) < (ns.length : Int) then (5 : Int) else (ns.length : Int)) > 2 then (if (5 : Int) < (ns.length : Int) then (5 : Int) else (ns.length : Int)) else (2 : Int)) = m
    have hm2 : m ≤ 5 ∧ 0 ≤ m := by rw [← hm]; split <;> (try split) <;> omega
    refine ⟨by omega, by omega, ?_⟩
    refine for_range (lo := 0) (n := m.toNat) (fun i σ H' => Same G H' ∧ ∃ x y : Option V, σ = [some (.ref a), some (.ref wl), x, y]) ⟨Same.refl G, none, none, rfl⟩ ?_ ?_
    · rintro i σ H' hi ⟨s1, x, y, rfl⟩
      have e0 : (0 : Int) + (i : Int) = ((i : Nat) : Int) := by omega
      rw [e0]
      refine ⟨_, rfl, _, rfl, a, ns, i, rfl, s1.seq hS', hn, by omega, fun v H1 f1 => ?_⟩
      refine ⟨v, rfl, fun p H2 f2 np sp => ?_⟩
      have hb : big = 200000 := rfl
      have nb : ∀ q : Nat, q ≤ 600000 → q + big < 2 ^ 40 := fun q h => by
        have h40 : (2 : Nat) ^ 40 = 1099511627776 := by decide
        omega
      refine ⟨_, rfl, p, 0, rfl, sp, nb _ (by omega), fun H3 o3 s3 => ⟨true, rfl, iteF ?_⟩⟩
      refine ⟨_, rfl, p, _, rfl, s3, nb _ (by omega), fun H4 o4 s4 => ⟨true, rfl, iteF ?_⟩⟩
      refine ⟨_, rfl, p, _, rfl, s4, nb _ (by omega), fun H5 o5 s5 => ⟨true, rfl, iteF ?_⟩⟩
      refine ⟨fun b u hb => ?_, _, _, rfl⟩
      have hb1 := f1 _ _ (s1 _ _ hb)
      exact ((o3.trans o4).trans o5) _ _ (f2 _ _ hb1) (ne_of_none hb1 np)
    · rintro σ H' ⟨_, x, y, rfl⟩
      exact k H'
end
theorem facts {P : Program} {w : World} {K : Fr} {h : Heap} {mg : Str → Option Value} {f : Addr} (X : K.In h) (G : h.Ns mainGlobals mg) (hfa : mg ("law" : Str) = some (.ref f)) (c : Sy K) :
    ∃ fd : FuncData, (∀ (s : Shared) (u : Value), BindsTo s fd ⟨[u], []⟩ [("_law_script", u)]) ∧ ∀ base : Heap, K.In base → base.Ns mainGlobals mg → FnG P w K mg base 15 f fd ["_law_script"] (spLaw K) := by
  have T : Tx K mg := ⟨c, h, X, G⟩
  obtain ⟨fd, D⟩ := a_law c
  have e := hfa.symm.trans (g_law T)
  cases e
  have b := FunD.bindsA (ps := ["_law_script"]) D fun _ _ _ _ _ _ us hl => match us, hl with | [_], _ => rfl
  exact ⟨fd, fun s u => b s [u] rfl, fun base _ _ => g_law_ok T D⟩
end K09

open PySem PySem.W PySem.Calls PyProof.Rows
theorem PySem.Challenge.cw_delaynets_k09_signals_made_holds : PySem.Challenge.rw_delaynets_k09_signals_made.Holds := by
  w_on; o_law
  refine HeadRun.head_imp (r := OpenLaw.row PySem.Challenge.rw_delaynets_k09_signals_made) (q := K09.qv) (H := K09.hk) (ob := K09.ob) (M := 9000) (loose := K09.loose) (d := HandSHeadRun.topDef (OpenLaw.row PySem.Challenge.rw_delaynets_k09_signals_made).prog K09.lawAt) (kwd := []) K09.ob_eq
    K09.run (by kernel_rfl) (by kernel_rfl) (by kernel_rfl) (by rfl) (by first | assumption | decide +kernel) (by decide +kernel) ⟨rfl, rfl, rfl, rfl, rfl, by decide +kernel⟩ ?hw ?hc
  case hw => w_witness2
  case hc =>
    refine Hk.end_g (l := PySem.Challenge.rw_delaynets_k09_signals_made) (k := 15) (x := "_law_script") rfl (by kernel_rfl) ⟨rfl, by decide, by decide⟩ ?F
    intro w mg fa h Y G hmg0
    obtain ⟨K, KX, c⟩ := Y
    have hmg : mg ("law" : PySem.Str) = some (.ref fa) := by
      have e : (HandSHeadRun.topDef (OpenLaw.row PySem.Challenge.rw_delaynets_k09_signals_made).prog K09.lawAt).name = ("law" : PySem.Str) := by kernel_rfl
      rw [← e]
      exact hmg0
    obtain ⟨fd, hb, hF⟩ := K09.facts (P := (PySem.Challenge.rw_delaynets_k09_signals_made).prog) (w := w) KX G hmg c
    exact ⟨K, fd, K09.spLaw K, KX, hb, fun H a ns hl _ hS => ⟨a, ns, rfl, hS, hl, fun _ => rfl⟩, hF⟩
#print axioms PySem.Challenge.cw_delaynets_k09_signals_made_holds

